import PyProof.Rows.All
import Wide.All
import OpenK.AllK
import Wide.FinOn
import Lean
import PyProof.EqAt
import PyProof.EqKinds
import PyProof.TupleCall
import PySem.Challenge.RW_ringbase_k28_least_bases_told
set_option Elab.async false
set_option linter.all false
set_option maxRecDepth 100000
abbrev aV:=List (PySem.Addr×PySem.Obj)
abbrev dw:=PySem.Value->PySem.Shared->Prop
abbrev lT:=PySem.Str->Option PySem.Value
abbrev bK:=PySem.W.Frag
namespace L2
open PySem PySem.Spec PyProof.Rows
abbrev Key:=Sum Int Str
def wO:Key->Value->Bool
 | .inl k,v=>Value.isInt k v
 | .inr x,v=>Value.isStrOf x v
def Ul(w:World):Key->Int
 | .inl k=>hashInt k
 | .inr x=>hashStr w x
theorem cV:∀{k:Key} {v:Value},wO k v=true->(∃ i t,k=Sum.inl i/\v=Value.int i t)\/(∃ x t,k=Sum.inr x/\v=Value.str x t)
 | .inl i,v,h=>by
   obtain⟨t,e⟩:=Value.isInt_shape (k:=i) (v:=v) h;exact .inl ⟨i,t,rfl,e⟩
 | .inr x,v,h=>by
   obtain⟨t,e⟩:=Value.isStrOf_shape (x:=x) (v:=v) h;exact .inr ⟨x,t,rfl,e⟩
theorem E5(i:Int)(t:Tok):wO (.inl i) (.int i t)=true:=by simp[wO,Value.isInt]
theorem E6(x:Str)(t:Tok):wO (.inr x) (.str x t)=true:=by simp[wO,Value.isStrOf]
theorem NI(a b:Int):decide ((Sum.inl a:Key)=Sum.inl b)=(a==b):=by
 by_cases e:a=b
 ·subst e;simp
 ·have h : ¬(Sum.inl a:Key)=Sum.inl b:=fun q=>e (Sum.inl.inj q)
  rw[decide_eq_false h];exact(beq_eq_false_iff_ne.mpr e).symm
theorem NJ(a b:Str):decide ((Sum.inr a:Key)=Sum.inr b)=decide (a=b):=by
 by_cases e:a=b
 ·subst e;simp
 ·have h : ¬(Sum.inr a:Key)=Sum.inr b:=fun q=>e (Sum.inr.inj q)
  rw[decide_eq_false h,decide_eq_false e]
theorem NK(a:Int)(b:Str):decide ((Sum.inl a:Key)=Sum.inr b)=false:=decide_eq_false (fun q=>nomatch q)
theorem NL(a:Str)(b:Int):decide ((Sum.inr a:Key)=Sum.inl b)=false:=decide_eq_false (fun q=>nomatch q)
def dz(prog:Program)(w:World):PySem.KeyKind prog w Key where
 is:=wO
 hash:=Ul w
 inj:=fun v a b ha hb=>by
  rcases cV ha with⟨i,t,rfl,rfl⟩|⟨x,t,rfl,rfl⟩
  ·rcases cV hb with⟨j,u,rfl,e⟩|⟨y,u,rfl,e⟩
   ·injection e with e1 _;rw[e1]
   ·exact nomatch e
  ·rcases cV hb with⟨j,u,rfl,e⟩|⟨y,u,rfl,e⟩
   ·exact nomatch e
   ·injection e with e1 _;rw[e1]
 byValue:=fun k v h=>by
  rcases cV h with⟨i,t,rfl,rfl⟩|⟨x,t,rfl,rfl⟩<;>rfl
 pyHash:=fun hv h=>by
  rcases cV hv with⟨i,t,rfl,rfl⟩|⟨x,t,rfl,rfl⟩
  ·exact wpAny_pyHash_int h
  ·exact wpAny_pyHash_str h
 eqBool:=fun hu hv h=>by
  rcases cV hu with⟨i,t,rfl,rfl⟩|⟨x,t,rfl,rfl⟩
  ·rcases cV hv with⟨j,u,rfl,rfl⟩|⟨y,u,rfl,rfl⟩
   ·rw[NI]at h;exact wpAny_eqBool_int h
   ·rw[NK]at h;exact SeqAt.EqAt.int_str i t y u _ _ _ _ h
  ·rcases cV hv with⟨j,u,rfl,rfl⟩|⟨y,u,rfl,rfl⟩
   ·rw[NL]at h;exact SeqAt.EqAt.str_int x t j u _ _ _ _ h
   ·rw[NJ]at h;exact wpAny_eqBool_str h
 «strs»:=fun k x t v h=>by
  rcases cV h with⟨i,u,rfl,e⟩|⟨y,u,rfl,e⟩
  ·exact nomatch e
  ·injection e with e1 _
   subst e1;cases v<;>rfl
theorem zR(prog:Program)(w:World)(i:Int)(t:Tok):(dz prog w).is (.inl i) (.int i t)=true:=E5 i t
theorem zS(prog:Program)(w:World)(x:Str)(t:Tok):(dz prog w).is (.inr x) (.str x t)=true:=E6 x t
inductive V where
 | eM | bl (b:Bool) | int (i:Int) | str (x:Str) | HA (b:Array UInt8) | P1 (b:UInt64) | ref (a:Addr) | ty (n:String)
 deriving DecidableEq
def RelV:V->Value->Prop
 | .eM,u=>u=Value.none
 | .bl b,u=>u=Value.bool b
 | .int i,u=>∃ t,u=Value.int i t
 | .str x,u=>∃ t,u=Value.str x t
 | .HA b,u=>∃ t,u=Value.bytes b t
 | .P1 b,u=>∃ t,u=Value.float b t
 | .ref a,u=>u=Value.ref a
 | .ty n,u=>u=Value.type n
abbrev Vals:List V->List Value->Prop:=Paired RelV
theorem Vals.length{xs:List V}{us:List Value}(r:Vals xs us):xs.length=us.length:=Paired.length r
theorem Vals.get:∀{xs:List V} {us:List Value} {i:Nat} {x:V},Vals xs us->xs[i]?=some x->∃ u,us[i]?=some u/\RelV x u
 | _,_,_,_,.nil,e=>by simp at e
 | _,_,0,_,.cons r _,e=>by simp at e;subst e;exact⟨_,rfl,r⟩
 | _,_,i+1,x,.cons _ t,e=>by
   obtain⟨u,h1,h2⟩:=Vals.get (i:=i) (x:=x) t (by simpa using e)
   exact⟨u,by simpa using h1,h2⟩
theorem Vals.set{x:V}{u:Value}(r:RelV x u):∀{xs:List V} {us:List Value} (i:Nat),Vals xs us->Vals (xs.set i x) (us.set i u)
 | _,_,_,.nil=>.nil
 | _,_,0,.cons _ t=>.cons r t
 | _,_,i+1,.cons q t=>.cons q (Vals.set r i t)
theorem Vals.append:∀{xs ys:List V} {us ws:List Value},Vals xs us->Vals ys ws->Vals (xs++ys) (us++ws)
 | _,_,_,_,.nil,s=>s
 | _,_,_,_,.cons r t,s=>.cons r (Vals.append t s)
theorem Vals.take:∀{xs:List V} {us:List Value} (n:Nat),Vals xs us->Vals (xs.take n) (us.take n)
 | _,_,0,_=>.nil
 | _,_,_+1,.nil=>.nil
 | _,_,n+1,.cons r t=>.cons r (Vals.take n t)
theorem Vals.drop:∀{xs:List V} {us:List Value} (n:Nat),Vals xs us->Vals (xs.drop n) (us.drop n)
 | _,_,0,r=>r
 | _,_,_+1,.nil=>.nil
 | _,_,n+1,.cons _ t=>Vals.drop n t
def oQ:Option V->Option Value->Prop
 | some v,some u=>RelV v u
 | none,none=>True
 | _,_=>False
def KV{κ:Type}:List (κ×V)->List (κ×Value)->Prop:=Paired fun(p:κ×V) (q:κ×Value)=>p.1=q.1/\RelV p.2 q.2
def kV:Key->V
 | .inl i=>.int i
 | .inr x=>.str x
inductive HO where
 | lst (xs:List V)
 | tup (xs:List V)
 | dK (kvs:List (Key×V)) | dT (kvs:List (List Key×V))
 | set (S:Int->Bool) (n:Nat)
 | ins (C dx:Addr) (fs:List (Str×V))
 | own (x:Addr)
 | xd (fs:List (Str×V))
 | met (f x:Addr)
 | E7 (lo hi:Int)
 | kF (o:Obj) (u:HO)
 | jz (ps:Array Value)
 | ext (φ:Heap->Prop)
abbrev Hp:=Addr->Option HO
def upd(H:Hp)(a:Addr)(o:HO):Hp:=fun b=>if b=a then some o else H b
theorem ae{H:Hp}{a:Addr}{o:HO}:upd H a o a=some o:=by unfold upd;rw[if_pos rfl]
theorem aq{H:Hp}{a b:Addr}{o:HO}(h:b≠a):upd H a o b=H b:=by unfold upd;rw[if_neg h]
theorem aW{H:Hp}{a b:Addr}{o u:HO}(h:H a=some o)(h' : H b=some u)(d:o≠u):a≠b:=by
 intro e;subst e;rw[h]at h';exact d (Option.some.inj h')
theorem bg{H:Hp}{a b:Addr}{o:HO}(h:H a=some o)(h' : H b=none):a≠b:=by
 intro e;subst e;rw[h]at h';cases h'
def Ln(qs:Array Value):Str:=match (qs[0]?:Option Value) with | some (Value.str q _)=>q | _=>""
section
variable (P:Program)(w:World)
def br(H:Hp)(h:Heap)(a:Addr):HO->Prop
 | .lst xs=>xs.length<=sizeLine/\∃(its:List Value) (n:Nat),Vals xs its/\h.get? a=some { cls:=.type "list",data:=.seq its.toArray n}
 | .tup xs=>xs.length<=sizeLine/\∃ its:List Value,Vals xs its/\IsTup h a its.toArray
 | .dK kvs=>kvs.length<=sizeLine/\(a==sysModules)=false/\∃ vs,KV kvs vs/\h.DictOf (dz P w) a vs
 | .dT kvs=>kvs.length<=sizeLine/\(a==sysModules)=false/\∃ xs:List (List Key×Addr×Value),
  Paired (fun(p:List Key×V) (q:List Key×Addr×Value)=>p.1=q.1/\H q.2.1=some (.tup (p.1.map kV))/\RelV p.2 q.2.2) kvs xs/\
  ∃ o es ep,h.get? a=some o/\o.ExactDict/\o.data = .dict es ep/\es.toList=xs.map (entryOfKey (tupleKind (dz P w)))/\(xs.map (·.1)).Nodup
 | .set S n=>h.SetOf (intKind P w) a S n
 | .ins C dx fs=>H dx=some (.own a)/\fs.length<=1000/\dx≠a/\h.get? a=some (PySem.W.instObj C dx)/\
  ∃ mA,h.Ns1 dx mA/\(∀ f,oQ (fs.lookup f) (mA f))/\PySem.Within mA (fs.map (·.1))
 | .own _=>∃ o,h.get? a=some o
 | .xd fs=>∃ mA,h.Ns1 a mA/\∀ f,oQ (fs.lookup f) (mA f)
 | .E7 lo hi=>∃ t u v,h.get? a=some { cls:=.type "range",data:=.fields #[.int lo t,.int hi u,.int 1 v]}
 | .kF o u=>h.get? a=some o/\br H h a u
 | .jz qs=>∃ ps:Array Value,h.get? a=some { cls:=.none,data:=.fields ps}/\((qs.size=3/\(ps = #[]\/∃ c,ps = #[qs.getD 1 .none,qs.getD 2 .none,.ref c]/\H c=some (.own a)/\h.CodeRec (.ref c) (Ln qs)))\/∃ q l k,qs = #[q,l,k]++ps/\ps.size=3)
 | .met f x=>h.get? a=some (PySem.W.methodObj (.ref f) (.ref x))
 | .ext φ=>φ h/\(∃ o,h.get? a=some o)/\∀ h1 h2:Heap,φ h1->(∀ o,h1.get? a=some o->h2.get? a=some o)->φ h2
def lU(H:Hp)(h:Heap):Prop:=∀ a o,H a=some o->br P w H h a o
end
section
variable {P:Program}{w:World}{H H' : Hp}{h h' : Heap}{a:Addr}{o:HO}
theorem br.lt(x:br P w H h a o):a<h.objs.size:=by
 cases o with
 | lst xs=>obtain⟨_,_,_,_,e⟩:=x;exact Heap.lt_size e
 | tup xs=>obtain⟨_,_,_,p⟩:=x;exact p.lt
 | dK kvs=>obtain⟨_,_,_,_,o,_,_,e,_⟩:=x;exact Heap.lt_size e
 | dT kvs=>obtain⟨_,_,_,_,o,_,_,e,_⟩:=x;exact Heap.lt_size e
 | set S n=>obtain⟨o,_,_,_,e,_⟩:=x;exact Heap.lt_size e
 | ins C dx fs=>obtain⟨_,_,_,e,_⟩:=x;exact Heap.lt_size e
 | own y=>obtain⟨_,e⟩:=x;exact Heap.lt_size e
 | xd fs=>obtain⟨_,⟨_,_,_,e,_⟩,_⟩:=x;exact Heap.lt_size e
 | E7 lo hi=>obtain⟨_,_,_,e⟩:=x;exact Heap.lt_size e
 | kF ob u=>obtain⟨e,_⟩:=x;exact Heap.lt_size e
 | jz ps=>obtain⟨_,e,_⟩:=x;exact Heap.lt_size e
 | met f y=>exact Heap.lt_size (show h.get? a=some _ from x)
 | ext φ=>obtain⟨_,⟨_,e⟩,_⟩:=x;exact Heap.lt_size e
theorem Paired.yg{α β:Type}{F G:α->β->Prop}:∀{l₁:List α} {l₂:List β},Paired F l₁ l₂->(∀ a b,F a b->G a b)->Paired G l₁ l₂
 | _,_,.nil,_=>.nil
 | _,_,.cons r t,f=>.cons (f _ _ r) (Paired.yg t f)
theorem Paired.imp'{α β:Type}{F G:α->β->Prop}(f:∀ a b,F a b->G a b){l₁:List α}{l₂:List β}(r:Paired F l₁ l₂):Paired G l₁ l₂:=Paired.yg r f
theorem br.stay(x:br P w H h a o)(k:∀ b u,(b=a\/H b=some (.own a))->h.get? b=some u->h'.get? b=some u)
 (ho:∀ b,H b=some (.own a)->H' b=some (.own a)) (ht:∀ b xs,H b=some (.tup xs)->H' b=some (.tup xs)):br P w H' h' a o:=by
 induction o with
 | lst xs=>obtain⟨z,its,n,r,e⟩:=x;exact⟨z,its,n,r,k _ _ (.inl rfl) e⟩
 | tup xs=>obtain⟨z,its,r,ob,e,c⟩:=x;exact⟨z,its,r,ob,k _ _ (.inl rfl) e,c⟩
 | dK kvs=>obtain⟨z,y,vs,r,ob,es,ep,e,c⟩:=x;exact⟨z,y,vs,r,ob,es,ep,k _ _ (.inl rfl) e,c⟩
 | dT kvs =>
   obtain⟨z,y,xs,r,ob,es,ep,e,c⟩:=x;exact⟨z,y,xs,Paired.yg r fun p q z=>⟨z.1,ht _ _ z.2.1,z.2.2⟩,ob,es,ep,k _ _ (.inl rfl) e,c⟩
 | set S n=>obtain⟨ob,es,ep,t,e,c⟩:=x;exact⟨ob,es,ep,t,k _ _ (.inl rfl) e,c⟩
 | ins C dx fs =>
   obtain⟨d,z,ne,e,mA,⟨od,es,ep,e2,c⟩,r⟩:=x;exact⟨ho _ d,z,ne,k _ _ (.inl rfl) e,mA,⟨od,es,ep,k _ _ (.inr d) e2,c⟩,r⟩
 | own y=>obtain⟨ob,e⟩:=x;exact⟨ob,k _ _ (.inl rfl) e⟩
 | xd fs=>obtain⟨mA,⟨od,es,ep,e,c⟩,r⟩:=x;exact⟨mA,⟨od,es,ep,k _ _ (.inl rfl) e,c⟩,r⟩
 | E7 lo hi=>obtain⟨t,u,v,e⟩:=x;exact⟨t,u,v,k _ _ (.inl rfl) e⟩
 | kF ob u ih=>obtain⟨e,q⟩:=x;exact⟨k _ _ (.inl rfl) e,ih q⟩
 | jz qs =>
   obtain⟨ps,e,f⟩:=x;refine⟨ps,k _ _ (.inl rfl) e,?_⟩;rcases f with⟨hz,f|⟨c,e1,e2,c',oc,vs,tq,hc,ho',hd,hv⟩⟩|f
   ·exact .inl ⟨hz,.inl f⟩
   ·cases hc;exact .inl ⟨hz,.inr ⟨c,e1,ho _ e2,c,oc,vs,tq,rfl,k _ _ (.inr e2) ho',hd,hv⟩⟩
   ·exact .inr f
 | met f y =>
   have e:h.get? a=some (PySem.W.methodObj (.ref f) (.ref y)):=x;show h'.get? a=some (PySem.W.methodObj (.ref f) (.ref y));exact k a _ (.inl rfl) e
 | ext φ=>obtain⟨p,⟨o,e⟩,st⟩:=x;exact⟨st _ _ p fun o q=>k _ _ (.inl rfl) q,⟨o,k _ _ (.inl rfl) e⟩,st⟩
theorem lU.lt(x:lU P w H h)(e:H a=some o):a<h.objs.size:=(x a o e).lt
theorem lU.fresh(x:lU P w H h)(e:h.objs.size<=a):H a=none:=by
 cases q:H a with
 | none=>rfl
 | some u=>exact absurd (Nat.lt_of_lt_of_le (x.lt q) e) (Nat.lt_irrefl _)
theorem lU.kept(x:lU P w H h)(k:∀ b u,h.get? b=some u->h'.get? b=some u):lU P w H h':=fun a o e =>
 (x a o e).stay (fun b u _ q=>k b u q) (fun _ q=>q) fun _ _ q=>q
theorem lU.laid(x:lU P w H h)(k:∀ b u,h.get? b=some u->h'.get? b=some u)(hp:h.objs.size<=a)(new:br P w (upd H a o) h' a o):lU P w (upd H a o) h':=fun b u e=>by
 have hn:=x.fresh hp
 by_cases hb:b=a
 ·subst hb;rw[ae]at e;cases e;exact new
 ·rw[aq hb]at e;exact(x b u e).stay (fun c v _ q=>k c v q) (fun c q=>by rw[aq (bg q hn)];exact q) fun c xs q=>by rw[aq (bg q hn)];exact q
end
def Rd(H:Hp)(a:Addr)(u:HO):Prop:=H a=some u\/∃ o,H a=some (.kF o u)
theorem Rd.ok{P:Program}{w:World}{H:Hp}{h:Heap}{a:Addr}{u:HO}(r:Rd H a u)(x:lU P w H h):br P w H h a u:=by
 rcases r with r|⟨o,r⟩
 ·exact x a u r
 ·obtain⟨_,q⟩:=x a _ r;exact q
def Qz:Option HO->Prop
 | some (.lst _)=>True
 | some (.dK _)=>True
 | some (.dT _)=>True
 | some (.set _ _)=>True
 | some (.ins _ _ _)=>True
 | some (.ext _)=>True
 | _=>False
section
variable {P:Program}{w:World}{H:Hp}{h h' : Heap}{x e:Addr}{o' : HO}
theorem lU.write(ok:lU P w H h)(mu:Qz (H x))(he:e=x\/H e=some (.own x))(k:∀ b u,b≠e->h.get? b=some u->h'.get? b=some u)(P4:∃ u,h'.get? e=some u)
 (new:br P w (upd H x o') h' x o'):lU P w (upd H x o') h':=fun b u q=>by
 have QA:∀ c y,H c=some (.own y)->c≠x:=fun c y r z=>by subst z;rw[r]at mu;exact mu
 have Um:∀ c xs,H c=some (.tup xs)->c≠x:=fun c xs r z=>by subst z;rw[r]at mu;exact mu
 by_cases hb:b=x
 ·subst hb;rw[ae]at q;cases q;exact new
 ·rw[aq hb]at q
  by_cases NO:b=e
  ·have q' : H b=some (.own x):=by
    rcases he with z|z
    ·exact absurd (NO.trans z) hb
    ·rw[NO];exact z
   rw[q]at q';cases q';obtain⟨v,hv⟩:=P4;exact⟨v,by rw[NO];exact hv⟩
  ·refine(ok b u q).stay (fun c v hc r=>k c v ?_ r) (fun c r=>by rw[aq (QA c b r)];exact r) fun c xs r=>by rw[aq (Um c xs r)];exact r
   rcases hc with rfl|hc
   ·exact NO
   ·rintro rfl;rcases he with z|z
    ·exact QA c b hc z
    ·rw[hc]at z;cases z;exact hb rfl
end
structure Un(fs ex:List Addr)(H H' : Hp)(h h' : Heap):Prop where
 keep:∀ b o,h.get? b=some o->H b=none->b∉fs->b∉ex->h'.get? b=some o
 slot:∀ b o,h.get? b=some o->H b=none->b∈fs->b∉ex->∃ sl,h'.get? b=some { o with slots:=sl}
 free:∀ b o,h.get? b=some o->H b=none->b∉ex->H' b=none
 there:∀ b o,h.get? b=some o->b∉ex->∃ o',h'.get? b=some o'
 tups:∀ b xs,H b=some (.tup xs)->H' b=some (.tup xs)
 kG:∀ b o u,H b=some (.kF o u)->H' b=some (.kF o u)
 lV:∀ b ps,H b=some (.jz ps)->∃ more,H' b=some (.jz (ps++more))
section
variable {fs fs' ex ex' : List Addr}{H H1 H2:Hp}{h h1 h2 h' : Heap}{a x e:Addr}{o:HO}
theorem Un.any(u:Un fs ex H H1 h h1){b:Addr}{ob:Obj}(q:h.get? b=some ob)(n:H b=none)(hx:b∉ex):∃ sl,h1.get? b=some { ob with slots:=sl}:=by
 by_cases hb:b∈fs
 ·exact u.slot b ob q n hb hx
 ·exact⟨ob.slots,u.keep b ob q n hb hx⟩
theorem Un.kept(k:∀ b u,h.get? b=some u->h'.get? b=some u):Un fs ex H H h h' :=
 ⟨fun b ob q _ _ _=>k b ob q,fun b ob q _ _ _=>⟨ob.slots,k b ob q⟩,fun _ _ _ n _=>n,fun b ob q _=>⟨ob,k b ob q⟩,fun _ _ q=>q,fun _ _ _ q=>q,fun _ ps q=>⟨#[],by rw[q];simp⟩⟩
theorem Un.refl:Un fs ex H H h h:=Un.kept fun _ _ q=>q
theorem Un.laid(k:∀ b u,h.get? b=some u->h'.get? b=some u)(hp:h.objs.size<=a)(hn:H a=none):Un fs ex H (upd H a o) h h' where
 keep:=fun b u q _ _ _=>k b u q
 slot:=fun b u q _ _ _=>⟨u.slots,k b u q⟩
 free:=fun b u q n _=>by rw[aq (Nat.ne_of_lt (Nat.lt_of_lt_of_le (Heap.lt_size q) hp))];exact n
 there:=fun b u q _=>⟨u,k b u q⟩
 tups:=fun b xs q=>by rw[aq (bg q hn)];exact q
 kG:=fun b u xs q=>by rw[aq (bg q hn)];exact q
 lV:=fun b ps q=>⟨#[],by rw[aq (bg q hn),q];simp⟩
theorem Un.write(mu:Qz (H x))(he:e=x\/H e=some (.own x))(k:∀ b u,b≠e->h.get? b=some u->h'.get? b=some u)(P4:∃ u,h'.get? e=some u):Un fs ex H (upd H x o) h h':=by
 have hx:∀ b,H b=none->b≠x:=fun b n z=>by subst z;rw[n]at mu;exact mu
 have hb:∀ b,H b=none->b≠e:=fun b n z=>by
  subst z;rcases he with r|r
  ·exact hx b n r
  ·rw[n]at r;cases r
 have hm:∀ b u,H b=some u->¬ Qz (some u)->b≠x:=fun b u q nm z=>by subst z;rw[q]at mu;exact nm mu
 refine⟨fun b u q n _ _=>k b u (hb b n) q,fun b u q n _ _=>⟨u.slots,k b u (hb b n) q⟩,fun b u q n _=>by rw[aq (hx b n)];exact n,fun b u q _=>?_,
  fun b xs q=>by rw[aq (hm b _ q fun z=>z)];exact q,fun b u xs q=>by rw[aq (hm b _ q fun z=>z)];exact q,fun b ps q=>⟨#[],by rw[aq (hm b _ q fun z=>z),q];simp⟩⟩
 by_cases NO:b=e
 ·subst NO;exact P4
 ·exact⟨u,k b u NO q⟩
end
def P5(h:Heap)(H:Hp):List Addr:=(List.range h.objs.size).filter fun a=>(H a).isSome
def zT(h:Heap)(H:Hp):Heap:=PySem.W.hideAll h (P5 h H)
theorem E8(h:Heap)(H:Hp):(zT h H).objs.size=h.objs.size:=PySem.W.hideAll_size _ _
theorem tO{h:Heap}{H:Hp}{b:Addr}{o:Obj}(e:h.get? b=some o)(n:H b=none):(zT h H).get? b=some o :=
 PySem.W.hideAll_get _ e fun hm=>by
  have q:(H b).isSome=true:=(List.mem_filter.mp hm).2;rw[n]at q;simp at q
theorem Lp{h:Heap}{H:Hp}{b:Addr}{o:Obj}(e:(zT h H).get? b=some o):h.get? b=some o/\H b=none:=by
 have e' : h.get? b=some o:=PySem.W.of_hideAll (P5 h H) e;refine⟨e',?_⟩;cases q:H b with
 | none=>rfl
 | some x =>
   have hm:b∈P5 h H:=List.mem_filter.mpr ⟨List.mem_range.mpr (Heap.lt_size e'),by simp[q]⟩
   have z:(zT h H).get? b=none:=PySem.W.hideAll_none (P5 h H) hm;rw[z]at e;cases e
def sX(g h:Heap)(L:Addr):aV:=(List.range h.objs.size).filterMap fun a=>if a=L\/(g.get? a).isSome=true then none else(h.get? a).map fun o=>(a,o)
theorem zU{g h:Heap}{L a:Addr}{o:Obj}(h1:a≠L)(h2:g.get? a=none)(h3:h.get? a=some o):(a,o)∈sX g h L :=
 List.mem_filterMap.mpr ⟨a,List.mem_range.mpr (Heap.lt_size h3),by simp[h1,h2,h3]⟩
theorem tP{g h:Heap}{L:Addr}{p:Addr×Obj}(hp:p∈sX g h L):p.1≠L/\g.get? p.1=none/\h.get? p.1=some p.2:=by
 obtain⟨b,_,e⟩:=List.mem_filterMap.mp hp
 split at e
 ·cases e
 ·rename_i hn
  cases q:h.get? b with
  | none=>rw[q]at e;simp at e
  | some u =>
    rw[q]at e;simp only[Option.map_some,Option.some.injEq]at e;subst e;refine⟨fun z=>hn (.inl z),?_,q⟩
    show g.get? b=none;cases r:g.get? b with
    | none=>rfl
    | some v=>exact(hn (.inr (by simp[r]))).elim
def rest(g h:Heap)(L d:Addr):aV:=(sX g h L).filter fun p=>decide (p.1≠d)
theorem DU{g h:Heap}{L d:Addr}:∀ p∈rest g h L d,p.1≠d:=fun p hp=>of_decide_eq_true (List.mem_filter.mp hp).2
theorem HB{g h:Heap}{L d a:Addr}{o:Obj}(h1:a≠L)(h2:g.get? a=none)(h3:h.get? a=some o)(h4:a≠d):(a,o)∈rest g h L d :=
 List.mem_filter.mpr ⟨zU h1 h2 h3,decide_eq_true h4⟩
theorem HC{g h:Heap}{L:Addr}:News g L h (sX g h L):=fun p hp=>let⟨a,b,c⟩:=tP hp;⟨c,a,b⟩
theorem oR{g h h' : Heap}{L d:Addr}{m:lT}(k:∀ b o,g.get? b=some o->h.get? b=some o)(F:Fr g L h' m)(N:News g L h' (rest g h L d)):
 ∀ b o,b≠L->b≠d->h.get? b=some o->h'.get? b=some o:=fun b o h1 h2 e=>by
 cases q:g.get? b with
 | some u =>
   have:=k b u q;rw[e]at this;cases this;exact F.keep b _ q
 | none=>exact(N (b,o) (HB h1 q e h2)).1
structure Mod(K:bK)(mg:lT)(base:Heap):Prop where
 Td:K.In base
 glob:base.Ns mainGlobals mg
 blt:∃ mb,base.Ns builtinsNs mb/\∀ x:Str,x≠"__name__"->mb x=bootBuiltins x
 nolimit:base.NoLimit
 bmain:∃ bm ob,mg "__builtins__"=some (.ref bm)/\bm≠builtinsNs/\base.get? bm=some ob/\ob.cls = .type "module"/\ob.dict=some builtinsNs/\ob.data = .plain
structure Cx where
 prog:Program
 w:World
 K:bK
 mg:Str->Option Value
 base:Heap
 A:Around
 N:List Str
 s₀:Shared
 H₀:Hp
 env:Env
 outer:List Env
 stack:List Env
 ex:List Addr
 fn:Str->Bool
 calm:Bool
 pn:aV
 xe:Value->Shared->Prop
def frs(l:List Env):List Addr:=l.filterMap (·.frame)
abbrev Cx.fs(X:Cx):List Addr:=frs X.outer
def Tf(sc:Scope)(x:Str):Prop:=sc.names.lookup x=some .local\/sc.names.lookup x=some .cell\/sc.names.lookup x=some .free
def Loc(sc:Scope)(x:Str):Prop:=sc.names.lookup x=some .local\/sc.names.lookup x=some .cell
def Look(env:Env)(h:Heap)(m:lT)(x:Str)(u:Value):Prop :=
 (env.kindOf x=some .local/\m x=some u)\/((env.kindOf x=some .cell\/env.kindOf x=some .free)/\∃ c,env.cells.lookup x=some c/\h.IsCell c (some u))
structure Cx.Ok(X:Cx):Prop where
 mod:Mod X.K X.mg X.base
 kind:X.env.scope.kind = .function
 glob:X.env.globals=mainGlobals
 blt:X.env.builtins=builtinsNs
 above:X.s₀.heap.objs.size<=X.env.locals
 inj:∀ x y c,X.env.cells.lookup x=some c->X.env.cells.lookup y=some c->x=y
 has:∀ x,(X.env.kindOf x=some .cell\/X.env.kindOf x=some .free)->∃ c,X.env.cells.lookup x=some c
 QB:∀ x c,X.fn x=true->X.env.cells.lookup x=some c->X.s₀.heap.objs.size<=c
 hd:X.calm=true->X.A.handled=none
 frames:X.A.frames=some X.stack
 Hr:X.stack=X.outer\/(X.stack=X.env::X.outer/\X.env.frame=some X.env.locals)
 Wv:∀ b∈X.ex,b≠X.env.locals/\∀ x c,X.env.cells.lookup x=some c->c≠b
 bs:∀ b o,X.base.get? b=some o->X.s₀.heap.get? b=some o/\X.H₀ b=none
 Lq:X.base.objs.size<=X.s₀.heap.objs.size
 HD:∀ b o,X.base.get? b=some o->b∉X.ex
 Lr:∀ b∈X.ex,b∉X.fs
 funs:X.s₀.heap.FunFrames X.base X.outer
 NP:∀ b∈X.fs,X.H₀ b=none
structure Inv(X:Cx)(pins:aV)(σ:List (Option V))(H:Hp)(s:Shared):Prop where
 ok:X.Ok
 os:s.os=X.s₀.os
 bare:AllBare s.gens
 base:Un X.fs X.ex X.H₀ H X.s₀.heap s.heap
 loc:∃ m,s.heap.Ns X.env.locals m/\∀(i:Nat) (x:Str) (v:V),X.N[i]?=some x->σ[i]?=some (some v)->Tf X.env.scope x->∃ u,RelV v u/\Look X.env s.heap m x u
 cell:∀ x c,X.env.cells.lookup x=some c->∃ v,s.heap.IsCell c v
 free:H X.env.locals=none
 fB:∀ x c,X.env.cells.lookup x=some c->H c=none
 pin:∀ p∈X.pn++pins,s.heap.get? p.1=some p.2/\H p.1=none/\p.1≠X.env.locals/\p.1∉X.fs/\∀ v,p.2.data≠.cell v
 hok:lU X.prog X.w H s.heap
 len:σ.length=X.N.length
section
variable {X:Cx}{pins:aV}{σ:List (Option V)}{H H' : Hp}{s:Shared}{h' : Heap}
theorem Cx.Ok.Uo(ok:X.Ok){b:Addr}{o:Obj}(e:X.base.get? b=some o):b∉X.fs:=fun hb=>by
 have:=(ok.funs.mem hb).1;rw[e]at this;cases this
theorem Inv.bs(I:Inv X pins σ H s):∀ b o,X.base.get? b=some o->s.heap.get? b=some o/\H b=none:=fun b o e =>
 ⟨I.base.keep b o (I.ok.bs b o e).1 (I.ok.bs b o e).2 (I.ok.Uo e) (I.ok.HD b o e),I.base.free b o (I.ok.bs b o e).1 (I.ok.bs b o e).2 (I.ok.HD b o e)⟩
theorem Inv.bk(I:Inv X pins σ H s):∀ b o,X.base.get? b=some o->s.heap.get? b=some o:=fun b o e=>(I.bs b o e).1
theorem Inv.mod(I:Inv X pins σ H s):Mod X.K X.mg X.base:=I.ok.mod
theorem Inv.zN(I:Inv X pins σ H s):X.K.In s.heap:=I.ok.mod.Td.keeps I.bk
theorem Inv.nolimit(I:Inv X pins σ H s):s.heap.NoLimit:=I.ok.mod.nolimit.keeps I.bk
theorem Inv.fr(I:Inv X pins σ H s):∃ m,Fr X.base X.env.locals s.heap m :=
 let⟨m,hn,_⟩:=I.loc
 ⟨m,hn,I.bk,Nat.le_trans I.ok.Lq I.ok.above⟩
theorem Inv.lt(I:Inv X pins σ H s):X.env.locals<s.heap.objs.size:=let⟨_,hn,_⟩:=I.loc;hn.lt
theorem Inv.sz(I:Inv X pins σ H s):X.s₀.heap.objs.size<=s.heap.objs.size:=Nat.le_trans I.ok.above (Nat.le_of_lt I.lt)
theorem Inv.QC(I:Inv X pins σ H s){a:Addr}(h:s.heap.objs.size<=a):a∉X.fs:=fun hb=>by
 obtain⟨_,o,ho,_⟩:=I.ok.funs.mem hb;exact absurd (Nat.lt_of_lt_of_le (Heap.lt_size ho) (Nat.le_trans I.sz h)) (Nat.lt_irrefl _)
theorem Inv.NQ(I:Inv X pins σ H s):∀ x c,X.env.cells.lookup x=some c->c≠X.env.locals:=fun x c e z=>by
 obtain⟨v,o,ho,hd⟩:=I.cell x c e;obtain⟨m,⟨o',es,ep,ho',hd',_⟩,_⟩:=I.loc;rw[z,ho']at ho;cases ho;rw[hd']at hd;cases hd
theorem Inv.funs(I:Inv X pins σ H s):s.heap.FunFrames X.base X.outer:=by
 have all:∀(l:List Env),(∀ b∈frs l,b∈X.fs)->X.s₀.heap.FunFrames X.base l->s.heap.FunFrames X.base l:=by
  intro l
  induction l with
  | nil=>intro _ _;trivial
  | cons env r ih =>
    intro hs hl;obtain⟨hk,⟨L,o,hf,hn,ho,hd⟩,hr⟩:=hl;have hL:L∈X.fs:=hs L (by unfold frs;rw[List.filterMap_cons,hf];exact List.mem_cons_self)
    obtain⟨sl,e⟩:=I.base.slot L o ho (I.ok.NP L hL) hL fun z=>I.ok.Lr L z hL
    exact⟨hk,⟨L,_,hf,hn,e,hd⟩,ih (fun b hb=>hs b (by unfold frs;rw[List.filterMap_cons,hf];exact List.mem_cons_of_mem _ hb)) hr⟩
 exact all X.outer (fun _ hb=>hb) I.ok.funs
theorem Inv.stack(I:Inv X pins σ H s):s.heap.FunFrames X.base X.stack:=by
 rcases I.ok.Hr with e|⟨e,hf⟩
 ·rw[e];exact I.funs
 ·rw[e];obtain⟨m,hn,_⟩:=I.loc;refine .cons (by rw[I.ok.kind];decide) hf hn ?_ I.funs
  exact Heap.get?_none_of_le (Nat.le_trans I.ok.Lq I.ok.above)
theorem Inv.tQ(I:Inv X pins σ H s):∀ b∈frs X.stack,b∈X.env.locals::X.fs:=fun b hb=>by
 rcases I.ok.Hr with e|⟨e,hf⟩
 ·rw[e]at hb;exact List.mem_cons_of_mem _ hb
 ·rw[e]at hb;unfold frs at hb;rw[List.filterMap_cons,hf]at hb;exact hb
theorem Inv.yh(I:Inv X pins σ H s):∀ b∈frs X.stack,H b=none:=fun b hb=>by
 rcases List.mem_cons.mp (I.tQ b hb) with e|hb
 ·rw[e];exact I.free
 ·obtain⟨_,o,ho,_⟩:=I.ok.funs.mem hb;exact I.base.free b o ho (I.ok.NP b hb) fun z=>I.ok.Lr b z hb
theorem Inv.step{g' : Array GenState}{t' : Nat}{d' : Drawn}{ch:List Addr}(I:Inv X pins σ H s)
 (hch:∀ b∈ch,(b∈X.ex\/X.s₀.heap.objs.size<=b)/\b≠X.env.locals/\(∀ x c,X.env.cells.lookup x=some c->c≠b)/\∀ p∈X.pn++pins,p.1≠b)
 (keep:∀ b o,b≠X.env.locals->b∉X.fs->b∉ch->s.heap.get? b=some o->H b=none->h'.get? b=some o)
 (slot:∀ b o,b≠X.env.locals->b∈X.fs->b∉ch->s.heap.get? b=some o->H b=none->∃ sl,h'.get? b=some { o with slots:=sl}) (free:∀ b o,b∉ch->s.heap.get? b=some o->H b=none->H' b=none)
 (there:∀ b o,b∉ch->s.heap.get? b=some o->∃ o',h'.get? b=some o')
 (tups:∀ b xs,H b=some (.tup xs)->H' b=some (.tup xs)) (kG:∀ b o u,H b=some (.kF o u)->H' b=some (.kF o u)) (lV:∀ b ps,H b=some (.jz ps)->∃ more,H' b=some (.jz (ps++more)))
 (ns:∀ m,s.heap.Ns X.env.locals m->h'.Ns X.env.locals m) (hok:lU X.prog X.w H' h') (hg:AllBare g') :
 Inv X pins σ H' { s with heap:=h',gens:=g',drawn:=d',toks:=t'}:=by
 have Ww:∀ b o,X.s₀.heap.get? b=some o->b≠X.env.locals:=fun b o e=>Nat.ne_of_lt (Nat.lt_of_lt_of_le (Heap.lt_size e) I.ok.above)
 have Tg:∀ b o,X.s₀.heap.get? b=some o->b∉X.ex->b∉ch:=fun b o e hx hb=>by
  rcases(hch b hb).1 with z|z
  ·exact hx z
  ·exact absurd (Nat.lt_of_lt_of_le (Heap.lt_size e) z) (Nat.lt_irrefl _)
 have cellK:∀ x c,X.env.cells.lookup x=some c->∀ v,s.heap.IsCell c v->h'.IsCell c v:=fun x c e v ⟨o,ho,hd⟩=>by
  have QD:c∉ch:=fun z=>(hch c z).2.2.1 x c e rfl
  by_cases hc:c∈X.fs
  ·obtain⟨sl,q⟩:=slot c o (I.NQ x c e) hc QD ho (I.fB x c e);exact⟨_,q,hd⟩
  ·exact⟨o,keep c o (I.NQ x c e) hc QD ho (I.fB x c e),hd⟩
 refine⟨I.ok,I.os,hg,⟨fun b o e n hb hx=>?_,fun b o e n hb hx=>?_,fun b o e n hx=>?_,fun b o e hx=>?_,fun b xs e=>tups b xs (I.base.tups b xs e),fun b o xs e=>kG b o xs (I.base.kG b o xs e),fun b ps e=>?_⟩,?_,fun x c e=>?_,?_,fun x c e=>?_,fun p hp=>?_,hok,I.len⟩
 ·exact keep b o (Ww b o e) hb (Tg b o e hx) (I.base.keep b o e n hb hx) (I.base.free b o e n hx)
 ·obtain⟨sl,e1⟩:=I.base.slot b o e n hb hx;obtain⟨Th,e2⟩:=slot b _ (Ww b o e) hb (Tg b o e hx) e1 (I.base.free b o e n hx);exact⟨Th,e2⟩
 ·obtain⟨o',e1⟩:=I.base.there b o e hx;exact free b o' (Tg b o e hx) e1 (I.base.free b o e n hx)
 ·obtain⟨o',e1⟩:=I.base.there b o e hx;exact there b o' (Tg b o e hx) e1
 ·obtain⟨m1,e1⟩:=I.base.lV b ps e;obtain⟨m2,e2⟩:=lV b _ e1;exact⟨m1++m2,by rw[e2,Array.append_assoc]⟩
 ·obtain⟨m,hn,hl⟩:=I.loc;refine⟨m,ns m hn,fun i x v e1 e2 e3=>?_⟩
  obtain⟨u,r,l⟩:=hl i x v e1 e2 e3;refine⟨u,r,?_⟩;rcases l with l|⟨k,c,e,z⟩
  ·exact .inl l
  ·exact .inr ⟨k,c,e,cellK x c e _ z⟩
 ·obtain⟨v,z⟩:=I.cell x c e;exact⟨v,cellK x c e v z⟩
 ·obtain⟨m,⟨o,_,_,ho,_⟩,_⟩:=I.loc;exact free _ o (fun z=>(hch _ z).2.1 rfl) ho I.free
 ·obtain⟨v,o,ho,hd⟩:=I.cell x c e;exact free c o (fun z=>(hch c z).2.2.1 x c e rfl) ho (I.fB x c e)
 ·obtain⟨e,n,ne,nf,d⟩:=I.pin p hp;have QD:p.1∉ch:=fun z=>(hch p.1 z).2.2.2 p hp rfl
  exact⟨keep p.1 p.2 ne nf QD e n,free p.1 p.2 QD e n,ne,nf,d⟩
theorem Inv.un{t' : Nat}(I:Inv X pins σ H s)(u:Un X.fs [] H H' s.heap h')(hok:lU X.prog X.w H' h'):Inv X pins σ H' { s with heap:=h',toks:=t'}:=by
 obtain⟨m,⟨o,es,ep,ho,r⟩,_⟩:=id I.loc;obtain⟨sl,hL⟩:=u.any ho I.free (by simp)
 exact I.step (g':=s.gens) (d':=s.drawn) (ch:=[]) (fun _ z=>nomatch z) (fun b o _ hb _ e n=>u.keep b o e n hb (by simp)) (fun b o _ hb _ e n=>u.slot b o e n hb (by simp)) (fun b o _ e n=>u.free b o e n (by simp)) (fun b o _ e=>u.there b o e (by simp)) u.tups u.kG u.lV (fun m' hm=>by
  obtain⟨o',es',DV,ho',r'⟩:=hm;rw[ho]at ho';cases ho';exact⟨_,es',DV,hL,r'⟩) hok I.bare
theorem Inv.call{g' : Array GenState}{t' : Nat}{d' : Drawn}{ch:List Addr}(I:Inv X pins σ H s)(u:Un (frs X.stack) ch H H' s.heap h')(hok:lU X.prog X.w H' h')(hg:AllBare g')
 (hch:∀ b∈ch,(b∈X.ex\/X.s₀.heap.objs.size<=b)/\b≠X.env.locals/\(∀ x c,X.env.cells.lookup x=some c->c≠b)/\∀ p∈X.pn++pins,p.1≠b) :
 Inv X pins σ H' { s with heap:=h',gens:=g',drawn:=d',toks:=t'}:=by
 obtain⟨m,⟨o,es,ep,ho,r⟩,_⟩:=id I.loc;obtain⟨sl,hL⟩:=u.any ho I.free fun z=>(hch _ z).2.1 rfl
 exact I.step (ch:=ch) hch (fun b o hL hb hc e n=>u.keep b o e n (fun z=>(List.mem_cons.mp (I.tQ b z)).elim hL hb) hc) (fun b o _ _ hc e n=>u.any e n hc) (fun b o hc e n=>u.free b o e n hc) (fun b o hc e=>u.there b o e hc) u.tups u.kG u.lV (fun m' hm=>by
  obtain⟨o',es',DV,ho',r'⟩:=hm;rw[ho]at ho';cases ho';exact⟨_,es',DV,hL,r'⟩) hok hg
theorem Inv.turned{t' : Nat}{it:Addr}(I:Inv X pins σ H s)(k:∀ b o,b≠it->s.heap.get? b=some o->h'.get? b=some o)(hn:H it=none)(hL:it≠X.env.locals)
 (h1:it∈X.ex\/X.s₀.heap.objs.size<=it) (h2:∀ x c,X.env.cells.lookup x=some c->c≠it) (h3:∀ p∈X.pn++pins,p.1≠it):Inv X pins σ H { s with heap:=h',toks:=t'}:=by
 have WA:∀ b u,H b=some u->b≠it:=fun b u e z=>by rw[z,hn]at e;cases e
 refine I.step (g':=s.gens) (d':=s.drawn) (ch:=[it]) (fun b hb=>?_) (fun b o _ _ hc e _=>k b o (fun z=>hc (by simp[z])) e) (fun b o _ _ hc e _=>⟨o.slots,k b o (fun z=>hc (by simp[z])) e⟩) (fun _ _ _ _ n=>n)
  (fun b o hc e=>⟨o,k b o (fun z=>hc (by simp[z])) e⟩) (fun _ _ e=>e) (fun _ _ _ e=>e) (fun b ps e=>⟨#[],by rw[e];simp⟩) (fun m hm=>?_) (fun b u e=>?_) I.bare
 ·have e:b=it:=by simpa using hb
  subst e;exact⟨h1,hL,h2,h3⟩
 ·obtain⟨o,es,ep,ho,r⟩:=hm;exact⟨o,es,ep,k _ o (Ne.symm hL) ho,r⟩
 ·refine(I.hok b u e).stay (fun c v hc q=>k c v ?_ q) (fun _ q=>q) fun _ _ q=>q
  rcases hc with z|z
  ·rw[z];exact WA b u e
  ·exact WA c _ z
theorem Inv.tok(I:Inv X pins σ H s)(t:Nat):Inv X pins σ H { s with toks:=t}:=I.un (h':=s.heap) (t':=t) Un.refl I.hok
theorem Inv.kept{t' : Nat}(I:Inv X pins σ H s)(k:∀ b u,s.heap.get? b=some u->h'.get? b=some u):Inv X pins σ H { s with heap:=h',toks:=t'}:=I.un (Un.kept k) (I.hok.kept k)
theorem Inv.laid{a:Addr}{o:HO}{t' : Nat}(I:Inv X pins σ H s)(k:∀ b u,s.heap.get? b=some u->h'.get? b=some u)(hp:s.heap.objs.size<=a)(new:br X.prog X.w (upd H a o) h' a o):
 Inv X pins σ (upd H a o) { s with heap:=h',toks:=t'}:=I.un (Un.laid k hp (I.hok.fresh hp)) (I.hok.laid k hp new)
theorem Inv.write{x e:Addr}{o:HO}{t' : Nat}(I:Inv X pins σ H s)(mu:Qz (H x))(he:e=x\/H e=some (.own x))(k:∀ b u,b≠e->s.heap.get? b=some u->h'.get? b=some u)(P4:∃ u,h'.get? e=some u)
 (new:br X.prog X.w (upd H x o) h' x o):Inv X pins σ (upd H x o) { s with heap:=h',toks:=t'}:=I.un (Un.write mu he k P4) (I.hok.write mu he k P4 new)
theorem Inv.weak{σ' : List (Option V)}(I:Inv X pins σ H s)(hl:σ'.length=σ.length)(w:∀(i:Nat) v,σ'[i]?=some (some v)->σ[i]?=some (some v)):Inv X pins σ' H s :=
 ⟨I.ok,I.os,I.bare,I.base,let⟨m,hn,hl'⟩:=I.loc;⟨m,hn,fun i x v e1 e2 e3=>hl' i x v e1 (w i v e2) e3⟩,I.cell,I.free,I.fB,I.pin,I.hok,hl.trans I.len⟩
theorem Inv.gn{DW:aV}(I:Inv X pins σ H s)(h:∀ p∈DW,s.heap.get? p.1=some p.2/\H p.1=none/\p.1≠X.env.locals/\p.1∉X.fs/\∀ v,p.2.data≠.cell v):Inv X DW σ H s :=
 ⟨I.ok,I.os,I.bare,I.base,I.loc,I.cell,I.free,I.fB,fun p hp=>(List.mem_append.mp hp).elim (fun z=>I.pin p (List.mem_append_left _ z)) (h p),I.hok,I.len⟩
theorem zV{N:List Str}(hN:N.Nodup){i j:Nat}{x:Str}(a:N[i]?=some x)(b:N[j]?=some x):i=j:=by
 obtain⟨h1,e1⟩:=List.getElem?_eq_some_iff.mp a;obtain⟨h2,e2⟩:=List.getElem?_eq_some_iff.mp b;exact(List.getElem_inj hN).mp (e1.trans e2.symm)
theorem E9{M:Model}{A:Around}{E:dw}{i:Nat}{x:Str}{v:V}{u:Value}{Q:Unit->Shared->Prop}(I:Inv X pins σ H s)(hN:X.N.Nodup)(hi:X.N[i]?=some x)(hx:Loc X.env.scope x)(r:RelV v u)
 (h:∀ s',Inv X pins (σ.set i (some v)) H s'->(∃ a,Heap.SameBut a s.heap s'.heap/\(a=X.env.locals\/X.env.cells.lookup x=some a))->Q () s') (hf:X.fn x=true\/X.env.scope.names.lookup x=some .local:=by first | exact .inl rfl | exact .inr rfl | assumption):wpAny M A (storeName X.env x u) Q E s:=by
 obtain⟨m,hn,hl⟩:=id I.loc;have hcls:(X.env.scope.kind == .class || (X.env.scope.kind == .module&&X.env.locals != X.env.globals))=false:=by rw[I.ok.kind];rfl
 have WB:i<σ.length:=by rw[I.len];exact(List.getElem?_eq_some_iff.mp hi).1
 have NQ:=I.NQ;have tracked:∀{a:Addr} {h' : Heap},(∃ o,s.heap.get? a=some o/\H a=none)->Heap.SameBut a s.heap h'->lU X.prog X.w H h':=fun {a h'} ha hs b ob e=>by
  obtain⟨_,_,hfree⟩:=ha;refine(I.hok b ob e).stay (fun c w' hc q=>(hs.2 c ?_).trans q) (fun _ q=>q) fun _ _ q=>q
  rintro rfl;rcases hc with rfl|hc
  ·rw[hfree]at e;cases e
  ·rw[hfree]at hc;cases hc
 rcases hx with hk|hk
 ·refine wpAny_storeName_local hk hn (fun h' hn' hs=>?_) hcls
  obtain⟨oL,_,_,BP,_⟩:=id hn;refine h _ ⟨I.ok,I.os,I.bare,⟨fun b o e n hb hx=>?_,fun b o e n hb hx=>?_,I.base.free,fun b o e hx=>?_,I.base.tups,I.base.kG,I.base.lV⟩,⟨_,hn',fun j y v' e1 e2 e3=>?_⟩,fun y c e=>?_,I.free,I.fB,fun p hp=>?_,tracked ⟨oL,BP,I.free⟩ hs,by simpa using I.len⟩ ⟨_,hs,.inl rfl⟩
  ·exact(hs.2 b (Nat.ne_of_lt (Nat.lt_of_lt_of_le (Heap.lt_size e) I.ok.above))).trans (I.base.keep b o e n hb hx)
  ·obtain⟨sl,e1⟩:=I.base.slot b o e n hb hx;exact⟨sl,(hs.2 b (Nat.ne_of_lt (Nat.lt_of_lt_of_le (Heap.lt_size e) I.ok.above))).trans e1⟩
  ·obtain⟨o',e1⟩:=I.base.there b o e hx;exact⟨o',(hs.2 b (Nat.ne_of_lt (Nat.lt_of_lt_of_le (Heap.lt_size e) I.ok.above))).trans e1⟩
  ·by_cases hj:j=i
   ·subst hj;rw[hi]at e1;cases e1;rw[List.getElem?_set_self WB]at e2;cases e2;exact⟨u,r,.inl ⟨hk,by simp⟩⟩
   ·rw[List.getElem?_set_ne (Ne.symm hj)]at e2;obtain⟨u',r',q⟩:=hl j y v' e1 e2 e3;refine⟨u',r',?_⟩;rcases q with⟨k,e⟩|⟨k,c,e,z⟩
    ·refine .inl ⟨k,?_⟩;have:y≠x:=fun e=>hj (zV hN e1 (e▸hi))
     simp[this,e]
    ·exact .inr ⟨k,c,e,z.sameBut hs (NQ y c e)⟩
  ·obtain⟨w',z⟩:=I.cell y c e;exact⟨w',z.sameBut hs (NQ y c e)⟩
  ·obtain⟨e,n,ne,nf,d⟩:=I.pin p hp;exact⟨(hs.2 p.1 ne).trans e,n,ne,nf,d⟩
 ·have hfn:X.fn x=true:=by
   rcases hf with z|z
   ·exact z
   ·rw[z]at hk;cases hk
  obtain⟨c,hc⟩:=I.ok.has x (.inl hk);obtain⟨w',z⟩:=I.cell x c hc;refine wpAny_storeName_cell I.ok.kind hk hc z (fun h' hc' hs=>?_)
  obtain⟨oc,hoc,Uq⟩:=id z;refine h { s with heap:=h'} ⟨I.ok,I.os,I.bare,⟨fun b o e n hb hx=>?_,fun b o e n hb hx=>?_,I.base.free,fun b o e hx=>?_,I.base.tups,I.base.kG,I.base.lV⟩,⟨m,hn.sameBut hs (Ne.symm (NQ x c hc)),fun j y v' e1 e2 e3=>?_⟩,fun y c' e=>?_,I.free,I.fB,fun p hp=>?_,tracked ⟨oc,hoc,I.fB x c hc⟩ hs,by simpa using I.len⟩ ⟨c,hs,.inr hc⟩
  ·exact(hs.2 b (Nat.ne_of_lt (Nat.lt_of_lt_of_le (Heap.lt_size e) (I.ok.QB x c hfn hc)))).trans (I.base.keep b o e n hb hx)
  ·obtain⟨sl,e1⟩:=I.base.slot b o e n hb hx;exact⟨sl,(hs.2 b (Nat.ne_of_lt (Nat.lt_of_lt_of_le (Heap.lt_size e) (I.ok.QB x c hfn hc)))).trans e1⟩
  ·obtain⟨o',e1⟩:=I.base.there b o e hx;exact⟨o',(hs.2 b (Nat.ne_of_lt (Nat.lt_of_lt_of_le (Heap.lt_size e) (I.ok.QB x c hfn hc)))).trans e1⟩
  ·by_cases hj:j=i
   ·subst hj;rw[hi]at e1;cases e1;rw[List.getElem?_set_self WB]at e2;cases e2;exact⟨u,r,.inr ⟨.inl hk,c,hc,hc'⟩⟩
   ·rw[List.getElem?_set_ne (Ne.symm hj)]at e2;obtain⟨u',r',q⟩:=hl j y v' e1 e2 e3;refine⟨u',r',?_⟩;rcases q with q|⟨k,c',e,z'⟩
    ·exact .inl q
    ·refine .inr ⟨k,c',e,z'.sameBut hs ?_⟩;rintro rfl;exact hj (zV hN e1 (I.ok.inj _ _ _ e hc▸hi))
  ·by_cases hcc:c' = c
   ·subst hcc;exact⟨_,hc'⟩
   ·obtain⟨w2,z2⟩:=I.cell y c' e;exact⟨w2,z2.sameBut hs hcc⟩
  ·obtain⟨e,n,ne,nf,d⟩:=I.pin p hp;refine⟨(hs.2 p.1 ?_).trans e,n,ne,nf,d⟩;intro q;rw[q,hoc]at e;have q' : oc=p.2:=Option.some.inj e;exact d w' (by rw[<-q'];exact Uq)
theorem oU{M:Model}{A:Around}{E:dw}{i:Nat}{x:Str}{v:V}{u:Value}{Q:Unit->Shared->Prop}(I:Inv X pins σ H s)(hN:X.N.Nodup)(hi:X.N[i]?=some x)(hx:Loc X.env.scope x)(r:RelV v u)
 (h:∀ s',Inv X pins (σ.set i (some v)) H s'->Q () s') (hf:X.fn x=true\/X.env.scope.names.lookup x=some .local:=by first | exact .inl rfl | exact .inr rfl | assumption):wpAny M A (storeName X.env x u) Q E s :=
 E9 I hN hi hx r (fun s' I' _=>h s' I') hf
theorem Inv.HE{s' : Shared}{ch:List Addr}(I:Inv X pins σ H s)(ho:s'.os=s.os)(u:Un (frs X.stack) ch H H' s.heap s'.heap)(hok:lU X.prog X.w H' s'.heap)(hg:AllBare s'.gens)
 (hch:∀ b∈ch,(b∈X.ex\/X.s₀.heap.objs.size<=b)/\b≠X.env.locals/\(∀ x c,X.env.cells.lookup x=some c->c≠b)/\∀ p∈X.pn++pins,p.1≠b):Inv X pins σ H' s':=by
 obtain⟨h',g',d',t',o'⟩:=s';have e:o' = s.os:=ho;subst e;exact I.call (g':=g') (t':=t') (d':=d') u hok hg hch
end
abbrev XK:=Value->Option Addr->Hp->Prop
abbrev St:=List (Option V)
abbrev VK:=V->Hp->Prop
abbrev TE:=St->Hp->VK->Prop
abbrev TT:=St->Hp->(Bool->Hp->Prop)->Prop
abbrev TA:=St->Hp->(List V->Hp->Prop)->Prop
structure Ends where
 nx:St->Hp->Prop
 rt:VK
 bk:St->Hp->Prop:=fun _ _=>False
 ct:St->Hp->Prop:=fun _ _=>False
abbrev TS:=Ends->St->Hp->Prop
def EP(X:Cx)(pins:aV)(σ:St)(Q:VK)(u:Value)(s' : Shared):Prop:=∃ v H',Inv X pins σ H' s'/\RelV v u/\Q v H'
def TP(X:Cx)(pins:aV)(σ:St)(Q:Bool->Hp->Prop)(b:Bool)(s' : Shared):Prop:=∃ H',Inv X pins σ H' s'/\Q b H'
def AP(X:Cx)(pins:aV)(σ:St)(Q:List V->Hp->Prop)(us:List Value)(s' : Shared):Prop:=∃ vs H',Inv X pins σ H' s'/\Vals vs us/\Q vs H'
def SP(X:Cx)(pins:aV)(D:Ends)(f:Flow)(s' : Shared):Prop :=
 match f with
 | .next=>∃ σ' H',Inv X pins σ' H' s'/\D.nx σ' H'
 | .brk=>∃ σ' H',Inv X pins σ' H' s'/\D.bk σ' H'
 | .cont=>∃ σ' H',Inv X pins σ' H' s'/\D.ct σ' H'
 | .ret u=>∃ v σ' H',Inv X pins σ' H' s'/\RelV v u/\D.rt v H'
def PE(X:Cx)(e:Expr)(t:TE):Prop :=
 ∀(pins:aV) (s:Shared) (σ:St) (H:Hp) (Q:VK),Inv X pins σ H s->t σ H Q->wpAny (model X.prog X.w) X.A (eval e X.env) (EP X pins σ Q) X.xe s
def PT(X:Cx)(e:Expr)(t:TT):Prop :=
 ∀(pins:aV) (s:Shared) (σ:St) (H:Hp) (Q:Bool->Hp->Prop),Inv X pins σ H s->t σ H Q->wpAny (model X.prog X.w) X.A (isTrue e X.env (eval e X.env)) (TP X pins σ Q) X.xe s
def PW(X:Cx)(e:Expr)(t:TT):Prop :=
 ∀(whole:Sem Value) (pins:aV) (s:Shared) (σ:St) (H:Hp) (Q:Bool->Hp->Prop),Inv X pins σ H s->t σ H Q->wpAny (model X.prog X.w) X.A (isTrue e X.env whole) (TP X pins σ Q) X.xe s
theorem PW.pt{X:Cx}{e:Expr}{t:TT}(h:PW X e t):PT X e t:=h _
def PA(X:Cx)(es:List Expr)(t:TA):Prop :=
 ∀(pos:Pos) (pins:aV) (s:Shared) (σ:St) (H:Hp) (Q:List V->Hp->Prop),Inv X pins σ H s->t σ H Q->wpAny (model X.prog X.w) X.A (spliced (backTo pos (starEach es X.env))) (AP X pins σ Q) X.xe s
def PS(X:Cx)(st:Stmt)(t:TS):Prop :=
 ∀(pins:aV) (s:Shared) (σ:St) (H:Hp) (D:Ends),Inv X pins σ H s->t D σ H->wpAny (model X.prog X.w) X.A (exec st X.env) (SP X pins D) X.xe s
def wQ(X:Cx)(st:List Stmt)(t:TS):Prop :=
 ∀(pins:aV) (s:Shared) (σ:St) (H:Hp) (D:Ends),Inv X pins σ H s->t D σ H->wpAny (model X.prog X.w) X.A (execs st X.env) (SP X pins D) X.xe s
theorem dB{α:Type}{t:Sem α}{Q Q' : α->Shared->Prop}{M:Model}{A:Around}{E:dw}{s:Shared}(h:wpAny M A t Q E s)(hQ:∀ a s,Q a s->Q' a s):wpAny M A t Q' E s:=wpAny_mono h hQ fun _ _ x=>x
section
variable {X:Cx}
def QE(i:Nat):TE:=fun σ H Q=>∃ v,σ[i]?=some (some v)/\Q v H
def tC(v:V):TE:=fun _ H Q=>Q v H
theorem NR{i:Nat}{x:Str}{pos:Pos}(hN:X.N[i]?=some x)(hv:Tf X.env.scope x)(hd:(x==("__debug__":Str))=false:=by decide)(hcd:(x==("__classdict__":Str))=false:=by decide):PE X (.Name x pos) (QE i):=by
 intro pins s σ H Q I h;obtain⟨v,e,h⟩:=h;obtain⟨m,hn,hl⟩:=I.loc;obtain⟨u,r,l⟩:=hl i x v hN e hv;have fin:EP X pins σ Q u s:=⟨v,H,I,r,h⟩;rcases l with⟨hk,hm⟩|⟨hk,c,hc,hcell⟩
 ·exact wpAny_Name (wpAny_loadName_local I.ok.kind hk hn hm fin) hd
 ·rcases hk with hk|hk
  ·exact wpAny_Name (wpAny_loadName_cell I.ok.kind hk hc hcell fin) hd
  ·exact wpAny_Name (wpAny_loadName_free I.ok.kind hk hc hcell fin hcd) hd
theorem ai{i j pos}:PE X (.Constant (.int i) j pos) (tC (.int i)):=fun _ _ _ H _ I h=>wpAny_Constant_int ⟨.int i,H,I.tok _,⟨_,rfl⟩,h⟩
theorem cS{b j pos}:PE X (.Constant (.bool b) j pos) (tC (.bl b)):=fun _ _ _ H _ I h=>Constant_bool ⟨.bl b,H,I,rfl,h⟩
theorem iE{j pos}:PE X (.Constant .none j pos) (tC .eM):=fun _ _ _ H _ I h=>Constant_none ⟨.eM,H,I,rfl,h⟩
theorem qh{x j pos}:PE X (.Constant (.str x) j pos) (tC (.str x)):=fun _ _ _ H _ I h=>Calls.Constant_str ⟨.str x,H,I.tok _,⟨_,rfl⟩,h⟩
def Gl(X:Cx)(x:Str):Prop:=X.env.kindOf x=some .globalImplicit
theorem DX{E:dw}{pins:aV}{s:Shared}{σ:St}{H:Hp}{x:Str}{u:Value}{pos:Pos}{Q:dw}(I:Inv X pins σ H s)(hg:Gl X x)(hm:X.mg x=some u)(h:Q u s)
 (hd:(x==("__debug__":Str))=false:=by decide):wpAny (model X.prog X.w) X.A (eval (.Name x pos) X.env) Q E s :=
 Calls.Name_function_global I.ok.kind hg (Calls.loadGlobal_global (by rw[I.ok.glob];exact I.mod.glob.keeps I.bk) hm h) hd
theorem kH{E:dw}{pins:aV}{s:Shared}{σ:St}{H:Hp}{x:Str}{u:Value}{pos:Pos}{Q:dw}(I:Inv X pins σ H s)(hg:Gl X x)(hm:X.mg x=none)(hv:bootBuiltins x=some u)(h:Q u s)
 (hn:x≠"__name__":=by decide) (hd:(x==("__debug__":Str))=false:=by decide):wpAny (model X.prog X.w) X.A (eval (.Name x pos) X.env) Q E s:=by
 obtain⟨mb,h1,h2⟩:=I.mod.blt;exact Calls.Name_function_global I.ok.kind hg (Calls.loadGlobal_builtin (by rw[I.ok.glob];exact I.mod.glob.keeps I.bk) hm (by rw[I.ok.blt];exact h1.keeps I.bk) ((h2 x hn).trans hv) h) hd
theorem Ls{x:Str}{v:V}{u:Value}{pos:Pos}(hg:Gl X x)(hm:X.mg x=none)(hv:bootBuiltins x=some u)(r:RelV v u)(hn:x≠"__name__":=by decide)(hd:(x==("__debug__":Str))=false:=by decide):PE X (.Name x pos) (tC v) :=
 fun _ _ _ H _ I h=>kH I hg hm hv ⟨v,H,I,r,h⟩ hn hd
variable {a b:Expr}{ta tb:TE}{pos:Pos}
def tB(t:TE):TT:=fun σ H Q=>t σ H fun x H1=>∃ c,x = .bl c/\Q c H1
theorem bM{e:Expr}{t:TE}(h:PE X e t)(he:∀ whole,isTrue e X.env whole=(do let v←whole;standAt e.pos;holding [v] (truthy v)):=by intro _;rfl):PT X e (tB t):=by
 intro pins s σ H Q I hw;refine isTrue_plain (dB (h pins s σ H _ I hw) fun v s1 ⟨x,H1,I1,r1,q1⟩=>?_) (he _)
 obtain⟨d,rfl,q⟩:=q1;cases r1;exact wpAny_truthy_bool ⟨H1,I1,q⟩
variable {tA Ti:TT}{rest:List Expr}
def Ur(t u:TT):TT:=fun σ H Q=>t σ H fun c H1=>if c=true then u σ H1 Q else Q false H1
def Ze(t u:TT):TT:=fun σ H Q=>t σ H fun c H1=>if c=true then Q true H1 else u σ H1 Q
def Us(t:TT):TT:=fun σ H Q=>t σ H fun c H1=>Q (!c) H1
theorem yi(ha:PT X a tA):PW X (.BoolOp .And [a] pos) tA:=by
 intro wh pins s σ H Q I h;refine isTrue_and (dB (ha pins s σ H Q I h) fun c s1 e=>?_)
 cases c with
 | true=>exact isTrue_and_nil e
 | false=>exact e
theorem fQ(ha:PT X a tA):PW X (.BoolOp .Or [a] pos) tA:=by
 intro wh pins s σ H Q I h;refine isTrue_or (dB (ha pins s σ H Q I h) fun c s1 e=>?_)
 cases c with
 | false=>exact isTrue_or_nil e
 | true=>exact e
theorem B3(ha:PT X a tA)(hb:PW X (.BoolOp .And (b::rest) pos) Ti):PW X (.BoolOp .And (a::b::rest) pos) (Ur tA Ti):=by
 intro wh pins s σ H Q I h;refine isTrue_and (dB (ha pins s σ H _ I h) fun c s1 ⟨H1,I1,q1⟩=>?_)
 cases c with
 | true=>exact hb wh pins s1 σ H1 Q I1 q1
 | false=>exact⟨H1,I1,q1⟩
theorem gG(ha:PT X a tA)(hb:PW X (.BoolOp .Or (b::rest) pos) Ti):PW X (.BoolOp .Or (a::b::rest) pos) (Ze tA Ti):=by
 intro wh pins s σ H Q I h;refine isTrue_or (dB (ha pins s σ H _ I h) fun c s1 ⟨H1,I1,q1⟩=>?_)
 cases c with
 | true=>exact⟨H1,I1,q1⟩
 | false=>exact hb wh pins s1 σ H1 Q I1 q1
theorem cZ(ha:PT X a tA):PT X (.UnaryOp .Not a pos) (Us tA):=by
 intro pins s σ H Q I h;exact isTrue_not (ha pins s σ H (fun c H1=>Q (!c) H1) I h)
def QF(ta tb:TE):TE:=fun σ H Q=>ta σ H fun x H1=>∃ c,x = .bl c/\if c=true then tb σ H1 Q else Q (.bl false) H1
def QG(ta:TE):TE:=fun σ H Q=>ta σ H fun x H1=>∃ c,x = .bl c/\Q (.bl (!c)) H1
theorem tR{op}{t:TE}(h:PE X a t):PE X (.BoolOp op [a] pos) t:=fun pins s σ H Q I hw=>BoolOp_one (h pins s σ H Q I hw)
theorem tS(ha:PE X a ta)(hb:PE X (.BoolOp .And (b::rest) pos) tb):PE X (.BoolOp .And (a::b::rest) pos) (QF ta tb):=by
 intro pins s σ H Q I h;refine BoolOp_and (dB (ha pins s σ H _ I h) fun v s1 ⟨x,H1,I1,r1,q1⟩=>?_)
 obtain⟨c,rfl,q1⟩:=q1;cases r1;refine wpAny_truthy_bool ?_;cases c with
 | true=>exact hb pins s1 σ H1 Q I1 q1
 | false=>exact⟨.bl false,H1,I1,rfl,q1⟩
theorem HF(ha:PE X a ta):PE X (.UnaryOp .Not a pos) (QG ta):=by
 intro pins s σ H Q I h;refine UnaryOp_ (dB (ha pins s σ H _ I h) fun v s1 ⟨x,H1,I1,r1,q1⟩=>?_)
 obtain⟨c,rfl,q1⟩:=q1;cases r1;exact not_of (wpAny_truthy_bool ⟨.bl (!c),H1,I1,rfl,q1⟩)
def Zf(t:TT)(ta tb:TE):TE:=fun σ H Q=>t σ H fun c H1=>if c=true then ta σ H1 Q else tb σ H1 Q
theorem lW{c:Expr}(hc:PT X c tA)(ha:PE X a ta)(hb:PE X b tb):PE X (.IfExp c a b pos) (Zf tA ta tb):=by
 intro pins s σ H Q I h;refine wpAny_IfExp (dB (hc pins s σ H _ I h) fun d s1 ⟨H1,I1,q1⟩=>?_)
 cases d with
 | true=>exact ha pins s1 σ H1 Q I1 q1
 | false=>exact hb pins s1 σ H1 Q I1 q1
end
def aO(K:bK)(H:Hp)(a:Addr)(xs:List V):Prop :=
 Rd H a (.lst xs)\/
  ∃(o:Obj) (its:Array Value) (n:Nat),K.lookup a=some o/\o.cls = .type "list"/\o.dict=none/\o.data = .seq its n/\its.size<=sizeLine/\Vals xs its.toList
def aP(K:bK)(H:Hp)(a:Addr)(xs:List V):Prop :=
 Rd H a (.tup xs)\/
  ∃(o:Obj) (its:Array Value) (n:Nat),K.lookup a=some o/\o.cls = .type "tuple"/\o.data = .seq its n/\its.size<=sizeLine/\Vals xs its.toList
def Ut:Value->Option V
 | .none=>some .eM
 | .bool b=>some (.bl b)
 | .int i _=>some (.int i)
 | .str x _=>some (.str x)
 | .bytes b _=>some (.HA b)
 | .float b _=>some (.P1 b)
 | .ref a=>some (.ref a)
 | .type n=>some (.ty n)
 | _=>none
theorem RelV.abs{x:V}{u:Value}(r:RelV x u):Ut u=some x:=by
 cases x with
 | eM=>cases r;rfl
 | bl _=>cases r;rfl
 | int _=>obtain⟨t,rfl⟩:=r;rfl
 | str _=>obtain⟨t,rfl⟩:=r;rfl
 | HA _=>obtain⟨t,rfl⟩:=r;rfl
 | P1 _=>obtain⟨t,rfl⟩:=r;rfl
 | ref _=>cases r;rfl
 | ty _=>cases r;rfl
theorem RelV.inj{x y:V}{u:Value}(r:RelV x u)(q:RelV y u):x=y:=Option.some.inj (r.abs.symm.trans q.abs)
theorem Vals.inj:∀{xs ys:List V} {us:List Value},Vals xs us->Vals ys us->xs=ys
 | _,_,_,.nil,.nil=>rfl
 | _,_,_,.cons r t,.cons r' t'=>by rw[r.inj r',Vals.inj t t']
section
variable {X:Cx}{pins:aV}{σ:St}{H:Hp}{s:Shared}{a:Addr}{xs ys:List V}
theorem aO.of{K:bK}(h:H a=some (.lst xs)):aO K H a xs:=.inl (.inl h)
theorem aP.of{K:bK}(h:H a=some (.tup xs)):aP K H a xs:=.inl (.inl h)
theorem Inv.list(I:Inv X pins σ H s)(h:aO X.K H a xs):∃ its:List Value,Vals xs its/\PlainL s.heap a its.toArray/\xs.length<=sizeLine:=by
 rcases h with h|⟨o,its,n,hk,hc,hd,hs,hz,r⟩
 ·obtain⟨z,its,n,r,e⟩:=h.ok I.hok;exact⟨its,r,⟨_,n,e,rfl,rfl,rfl⟩,z⟩
 ·refine⟨its.toList,r,⟨o,n,I.zN a o hk,hc,hd,by simpa using hs⟩,?_⟩
  have e:=r.length;simp only[Array.length_toList]at e
  lia
theorem Inv.tuple(I:Inv X pins σ H s)(h:aP X.K H a xs):∃ its:List Value,Vals xs its/\IsTup s.heap a its.toArray/\xs.length<=sizeLine:=by
 rcases h with h|⟨o,its,n,hk,hc,hs,hz,r⟩
 ·obtain⟨z,its,r,p⟩:=h.ok I.hok;exact⟨its,r,p,z⟩
 ·refine⟨its.toList,r,⟨o,I.zN a o hk,hc,n,by simpa using hs⟩,?_⟩
  have e:=r.length;simp only[Array.length_toList]at e
  lia
theorem Inv.oW(I:Inv X pins σ H s)(h:aO X.K H a xs)(h' : aO X.K H a ys):xs=ys:=by
 obtain⟨its,r,⟨o,n,e,_,_,d⟩,_⟩:=I.list h;obtain⟨its',r',⟨o',n',e',_,_,d'⟩,_⟩:=I.list h';rw[e]at e';cases e';rw[d]at d';injection d' with d1 _
 have:its=its':=by simpa using congrArg Array.toList d1
 subst this;exact r.inj r'
theorem Inv.wR(I:Inv X pins σ H s)(h:aP X.K H a xs)(h' : aP X.K H a ys):xs=ys:=by
 obtain⟨its,r,⟨o,e,_,n,d⟩,_⟩:=I.tuple h;obtain⟨its',r',⟨o',e',_,n',d'⟩,_⟩:=I.tuple h';rw[e]at e';cases e';rw[d]at d';injection d' with d1 _
 have:its=its':=by simpa using congrArg Array.toList d1
 subst this;exact r.inj r'
end
abbrev Cx.tT(X:Cx)(E:dw):Cx:={ X with xe:=E}
abbrev Cx.BQ(X:Cx):Cx:=X.tT fun _ _=>False
theorem Cx.Ok.tT{X:Cx}(ok:X.Ok)(E:dw):(X.tT E).Ok :=
 ⟨ok.mod,ok.kind,ok.glob,ok.blt,ok.above,ok.inj,ok.has,ok.QB,ok.hd,ok.frames,ok.Hr,ok.Wv,ok.bs,ok.Lq,ok.HD,ok.Lr,ok.funs,ok.NP⟩
theorem Cx.Ok.je{X:Cx}{E:dw}(ok:(X.tT E).Ok):X.Ok :=
 ⟨ok.mod,ok.kind,ok.glob,ok.blt,ok.above,ok.inj,ok.has,ok.QB,ok.hd,ok.frames,ok.Hr,ok.Wv,ok.bs,ok.Lq,ok.HD,ok.Lr,ok.funs,ok.NP⟩
section
variable {X:Cx}{pins:aV}{σ:St}{H:Hp}{s:Shared}{E:dw}
theorem Inv.tT(I:Inv X pins σ H s)(E:dw):Inv (X.tT E) pins σ H s:=⟨I.ok.tT E,I.os,I.bare,I.base,I.loc,I.cell,I.free,I.fB,I.pin,I.hok,I.len⟩
theorem Inv.je(I:Inv (X.tT E) pins σ H s):Inv X pins σ H s:=⟨I.ok.je,I.os,I.bare,I.base,I.loc,I.cell,I.free,I.fB,I.pin,I.hok,I.len⟩
theorem SP.je{D:Ends}{f:Flow}{s' : Shared}(h:SP (X.tT E) pins D f s'):SP X pins D f s':=by
 cases f with
 | next=>obtain⟨σ',H',I,q⟩:=h;exact⟨σ',H',I.je,q⟩
 | brk=>obtain⟨σ',H',I,q⟩:=h;exact⟨σ',H',I.je,q⟩
 | cont=>obtain⟨σ',H',I,q⟩:=h;exact⟨σ',H',I.je,q⟩
 | ret u=>obtain⟨v,σ',H',I,r,q⟩:=h;exact⟨v,σ',H',I.je,r,q⟩
theorem wQ.BQ{st:List Stmt}{t:TS}(h:wQ X.BQ st t):wQ X st t:=fun pins s σ H D I hw =>
 wpAny_mono (h pins s σ H D (I.tT _) hw) (fun _ _ q=>q.je) fun _ _ z=>False.elim z
end
section
variable {X:Cx}{st:Stmt}{rest:List Stmt}{t u:TS}{e:Expr}{te:TE}{pos:Pos}
def aQ:TS:=fun D σ H=>D.nx σ H
def Ends.on(D:Ends)(u:TS):Ends:={ D with nx:=u D}
def ay(t u:TS):TS:=fun D σ H=>t (D.on u) σ H
theorem aR:wQ X [] aQ:=fun _ _ σ H _ I h=>wpAny_execs_nil ⟨σ,H,I,h⟩
theorem ah(h1:PS X st t)(h2:wQ X rest u):wQ X (st::rest) (ay t u):=by
 intro pins s σ H D I h;refine wpAny_execs_cons (dB (h1 pins s σ H { D with nx:=u D} I h) fun f s1 q=>?_)
 cases f with
 | next =>
   obtain⟨σ',H',I',q⟩:=q;exact h2 pins s1 σ' H' D I' q
 | ret v=>exact q
 | brk=>exact q
 | cont=>exact q
theorem au(h1:PS X st t):wQ X [st] t:=by
 intro pins s σ H D I h;refine wpAny_execs_cons (dB (h1 pins s σ H D I h) fun f s1 q=>?_)
 cases f with
 | next=>exact wpAny_execs_nil q
 | ret v=>exact q
 | brk=>exact q
 | cont=>exact q
theorem Inv.quiet{pins:aV}{σ:St}{H:Hp}{s:Shared}(I:Inv X pins σ H s):interactive X.env=false:=by simp[interactive,I.ok.kind]
def QH(te:TE):TS:=fun D σ H=>te σ H fun _ H1=>D.nx σ H1
theorem dW(he:PE X e te)(hs:swapsWith e none pos.line X.env=pure false:=by rfl):PS X (.Expr e pos) (QH te):=by
 intro pins s σ H D I h;exact wpAny_Expr_any (dB (he pins s σ H _ I h) fun v s1 ⟨x,H1,I1,r1,q1⟩=>⟨σ,H1,I1,q1⟩) I.quiet hs
def Uu(te:TE):TS:=fun D σ H=>te σ H D.rt
theorem aB(he:PE X e te):PS X (.Return (some e) pos) (Uu te):=by
 intro pins s σ H D I h;exact wpAny_Return_some (dB (he pins s σ H _ I h) fun v s1 ⟨x,H1,I1,r1,q1⟩=>⟨x,σ,H1,I1,r1,q1⟩)
def bh(c:TT)(t u:TS):TS:=fun D σ H=>c σ H fun b H1=>if b=true then t D σ H1 else u D σ H1
theorem bF{c:Expr}{a b:List Stmt}{tc:TT}(hc:PT X c tc)(ha:wQ X a t)(hb:wQ X b u):PS X (.If c a b pos) (bh tc t u):=by
 intro pins s σ H D I h;refine wpAny_If (dB (hc pins s σ H _ I h) fun d s1 ⟨H1,I1,q1⟩=>?_)
 cases d with
 | true=>exact ha pins s1 σ H1 D I1 q1
 | false=>exact hb pins s1 σ H1 D I1 q1
def NS:TS:=fun _ _ _=>False
theorem wU{sts:List Stmt}:wQ X sts NS:=fun _ _ _ _ _ _ h=>h.elim
end
abbrev TG:=V->St->Hp->(St->Hp->Prop)->Prop
abbrev La:=List V->St->Hp->(St->Hp->Prop)->Prop
def PG(X:Cx)(target:Expr)(t:TG):Prop :=
 ∀(pins:aV) (s:Shared) (σ:St) (H:Hp) (v:V) (u:Value) (Q:St->Hp->Prop),Inv X pins σ H s->RelV v u->t v σ H Q->
  wpAny (model X.prog X.w) X.A (assign target X.env u) (fun _ s'=>∃ σ' H',Inv X pins σ' H' s'/\Q σ' H') X.xe s
def P6(X:Cx)(ts:List Expr)(t:La):Prop :=
 ∀(pins:aV) (s:Shared) (σ:St) (H:Hp) (vs:List V) (us:List Value) (Q:St->Hp->Prop),Inv X pins σ H s->Vals vs us->t vs σ H Q->
  wpAny (model X.prog X.w) X.A (assignInOrder ((assignEach ts X.env).map (·.2)) us) (fun _ s'=>∃ σ' H',Inv X pins σ' H' s'/\Q σ' H') X.xe s
abbrev HG:=V->V->V->Hp->(Hp->Prop)->Prop
def NT(X:Cx)(t:HG):Prop :=
 ∀(pins:aV) (s:Shared) (σ:St) (H:Hp) (o i v:V) (ov iv u:Value) (Q:Hp->Prop),Inv X pins σ H s->RelV o ov->RelV i iv->RelV v u->t o i v H Q->
  wpAny (model X.prog X.w) X.A (setItem ov iv u) (fun _ s'=>∃ H',Inv X pins σ H' s'/\Q H') X.xe s
abbrev QI:=V->V->Hp->VK->Prop
def WC(X:Cx)(op:Operator)(t:QI):Prop :=
 ∀(pins:aV) (s:Shared) (σ:St) (H:Hp) (x y:V) (v u:Value) (Q:VK),Inv X pins σ H s->RelV x v->RelV y u->t x y H Q->
  wpAny (model X.prog X.w) X.A (inplaceOp op v u) (EP X pins σ Q) X.xe s
section
variable {X:Cx}{pos:Pos}
def HH(i:Nat):TG:=fun v σ H Q=>Q (σ.set i (some v)) H
theorem oX{i:Nat}{x:Str}(hN:X.N.Nodup)(hi:X.N[i]?=some x)(hx:Loc X.env.scope x)(hf:X.fn x=true\/X.env.scope.names.lookup x=some .local:=by first | exact .inl rfl | exact .inr rfl | assumption):PG X (.Name x pos) (HH i):=by
 intro pins s σ H v u Q I r h;exact wpAny_assign_Name (oU I hN hi hx r (fun s' I'=>⟨_,H,I',h⟩) hf)
def Uv:La:=fun vs σ H Q=>vs=[]/\Q σ H
def QJ(t:TG)(u:La):La:=fun vs σ H Q=>∃ v r,vs=v::r/\t v σ H fun σ' H'=>u r σ' H' Q
theorem dX:P6 X [] Uv:=by
 intro pins s σ H vs us Q I r h;obtain⟨e,h⟩:=h;subst e;cases r;exact assignInOrder_nil ⟨σ,H,I,h⟩
theorem aS{e:Expr}{es:List Expr}{t:TG}{u:La}(h1:PG X e t)(h2:P6 X es u)
 (hs:(assignEach (e::es) X.env).map (·.2)=assign e X.env::(assignEach es X.env).map (·.2):=by rfl):P6 X (e::es) (QJ t u):=by
 intro pins s σ H vs us Q I r h;obtain⟨v,vr,e1,h⟩:=h;subst e1;cases r with
 | cons r rr =>
   rw[hs];refine assignInOrder_cons (dB (h1 pins s σ H _ _ _ I r h) fun _ s1 ⟨σ1,H1,I1,q1⟩=>?_)
   exact h2 pins s1 σ1 H1 _ _ Q I1 rr q1
def QK(K:bK)(n:Nat)(t:La):TG:=fun v σ H Q=>∃ a xs,v = .ref a/\aP K H a xs/\xs.length=n/\t xs σ H Q
theorem NU{es:List Expr}{k:Nat}{t:La}{n:Nat}(hc:X.calm=true)(h:P6 X es t)
 (hn:(assignEach es X.env).length=n:=by rfl) (hst:(assignEach es X.env).findIdx? (·.1)=none:=by rfl):PG X (.Tuple es k pos) (QK X.K n t):=by
 intro pins s σ H v u Q I r hw;obtain⟨a,xs,e1,hq,hl,hw⟩:=hw;subst e1;cases r;obtain⟨its,rv,ht,hz⟩:=I.tuple hq;refine assign_Tuple_tuple (I.ok.hd hc) ht (by simp[hn,<-hl,rv.length]) hst fun h' hx=>?_
 have I1:Inv X pins σ H { s with heap:=h'}:=I.kept (t':=s.toks) fun b o e=>hx b o (Nat.ne_of_lt (Heap.lt_size e)) e
 exact h pins _ σ H xs _ Q I1 (by simpa using rv) hw
def Uw(to ti:TE)(t:HG):TG:=fun v σ H Q=>to σ H fun o H1=>ti σ H1 fun i H2=>t o i v H2 fun H3=>Q σ H3
theorem B4{o i:Expr}{to ti:TE}{t:HG}(ho:PE X o to)(hi:PE X i ti)(hs:NT X t)
 (ha:∀ v,assign (.Subscript o i pos) X.env v=(do
  let ov←holding [v] (eval o X.env)
  let iv←holding [v,ov] (eval i X.env)
  standAt pos
  holding [v,ov,iv] (setItem ov iv v)
  release [v,ov,iv] []):=by intro _;rfl):PG X (.Subscript o i pos) (Uw to ti t):=by
 intro pins s σ H v u Q I r h;rw[ha];refine wpAny_bind (wpAny_holding (dB (ho pins s σ H _ I h) fun ov s1 ⟨x,H1,I1,r1,q1⟩=>?_))
 refine wpAny_bind (wpAny_holding (dB (hi pins s1 σ H1 _ I1 q1) fun iv s2 ⟨y,H2,I2,r2,q2⟩=>?_))
 refine wpAny_bind (wpAny_standAt (wpAny_bind (wpAny_holding (dB (hs pins s2 σ H2 x y v ov iv u _ I2 r1 r2 r q2) fun _ s3 ⟨H3,I3,q3⟩=>?_))))
 exact wpAny_release ⟨σ,H3,I3,q3⟩
def QL(te:TE)(g:TG):TS:=fun D σ H=>te σ H fun x H1=>g x σ H1 D.nx
theorem yj{tg e:Expr}{te:TE}{g:TG}(he:PE X e te)(hg:PG X tg g)(hs:swapsWithSole [tg] e pos.line X.env=pure false:=by rfl)(hw:swappedStores [tg] e X.env=pure none:=by rfl)
 (h1:(assignEach [tg] X.env).map (·.2)=[assign tg X.env]:=by rfl):PS X (.Assign [tg] e pos) (QL te g):=by
 intro pins s σ H D I h;refine wpAny_Assign_stores (dB (he pins s σ H _ I h) fun v s1 ⟨x,H1,I1,r1,q1⟩=>?_) hs hw
 rw[h1];exact dB (hg pins s1 σ H1 x v _ I1 r1 q1) fun _ s2 q=>q
theorem aI{i:Nat}{x:Str}{e:Expr}{te:TE}{pos' : Pos}(hN:X.N.Nodup)(hi:X.N[i]?=some x)(hx:Loc X.env.scope x)(he:PE X e te)(hs:swapsWith e (some (.Name x pos')) pos.line X.env=pure false:=by rfl)(hf:X.fn x=true\/X.env.scope.names.lookup x=some .local:=by first | exact .inl rfl | exact .inr rfl | assumption):
 PS X (.Assign [.Name x pos'] e pos) (QL te (HH i)):=by
 intro pins s σ H D I h;refine wpAny_Assign_Name (dB (he pins s σ H _ I h) fun v s1 ⟨y,H1,I1,r1,q1⟩=>?_) hs
 exact oU I1 hN hi hx r1 (fun s2 I2=>⟨_,H1,I2,q1⟩) hf
def Ux(i:Nat)(te:TE)(ti:QI):TS:=fun D σ H=>∃ x,σ[i]?=some (some x)/\te σ H fun y H1=>ti x y H1 fun z H2=>D.nx (σ.set i (some z)) H2
theorem yk{i:Nat}{x:Str}{e:Expr}{te:TE}{op:Operator}{ti:QI}{pos' : Pos}(hN:X.N.Nodup)(hi:X.N[i]?=some x)(hx:Loc X.env.scope x)(he:PE X e te)(ho:WC X op ti)(hf:X.fn x=true\/X.env.scope.names.lookup x=some .local:=by first | exact .inl rfl | exact .inr rfl | assumption):
 PS X (.AugAssign (.Name x pos') op e pos) (Ux i te ti):=by
 intro pins s σ H D I h;obtain⟨v,e1,h⟩:=h;obtain⟨m,hn,hl⟩:=I.loc;have Zg:Tf X.env.scope x:=by rcases hx with k | k;exact .inl k;exact .inr (.inl k)
 obtain⟨u,r,l⟩:=hl i x v hi e1 Zg;refine wpAny_AugAssign_Name ?_;have go:wpAny (model X.prog X.w) X.A (eval e X.env) (fun w s₂=>wpAny (model X.prog X.w) X.A (inplaceOp op u w) (fun r s₃=>wpAny (model X.prog X.w) X.A (storeName X.env x r) (fun _=>SP X pins D .next) X.xe s₃) X.xe s₂) X.xe s:=by
  refine dB (he pins s σ H _ I h) fun w s1 ⟨y,H1,I1,r1,q1⟩=>?_
  refine dB (ho pins s1 σ H1 v y u w _ I1 r r1 q1) fun z s2 ⟨zv,H2,I2,r2,q2⟩=>?_
  exact oU I2 hN hi hx r2 (fun s3 I3=>⟨_,H2,I3,q2⟩) hf
 rcases l with⟨hk,hm⟩|⟨hk,c,hc,hcell⟩
 ·exact wpAny_loadName_local I.ok.kind hk hn hm go
 ·rcases hk with hk|hk
  ·exact wpAny_loadName_cell I.ok.kind hk hc hcell go
  ·rcases hx with k|k
   ·have:X.env.scope.names.lookup x=some .free:=hk;rw[k]at this;cases this
   ·have:X.env.scope.names.lookup x=some .free:=hk;rw[k]at this;cases this
def QM(to ti te:TE)(Lu:V->V->Hp->VK->Prop)(Tj:QI)(Lv:HG):TS:=fun D σ H=>to σ H fun o H1=>ti σ H1 fun i H2=>Lu o i H2 fun x H3=>te σ H3 fun y H4=>Tj x y H4 fun z H5=>Lv o i z H5 fun H6=>D.nx σ H6
def QN(X:Cx)(t:V->V->Hp->VK->Prop):Prop :=
 ∀(pins:aV) (s:Shared) (σ:St) (H:Hp) (o i:V) (ov iv:Value) (Q:VK),Inv X pins σ H s->RelV o ov->RelV i iv->t o i H Q->
  wpAny (model X.prog X.w) X.A (getItem ov iv) (EP X pins σ Q) X.xe s
theorem DY{o i e:Expr}{to ti te:TE}{Lu:V->V->Hp->VK->Prop}{Tj:QI}{Lv:HG}{op:Operator}{tpos:Pos}(ho:PE X o to)(hi:PE X i ti)(hg:QN X Lu)(he:PE X e te)(hp:WC X op Tj)(hs:NT X Lv)
 (ha:∀ ov iv new,augStore i ov iv new=(do holding [new,ov,iv] (setItem ov iv new);release [new,ov,iv] [];pure .next):=by intros;rfl):PS X (.AugAssign (.Subscript o i tpos) op e pos) (QM to ti te Lu Tj Lv):=by
 intro pins s σ H D I h;refine wpAny_AugAssign_SubscriptAny (dB (ho pins s σ H _ I h) fun ov s1 ⟨x1,H1,I1,r1,q1⟩=>?_) ha
 refine dB (hi pins s1 σ H1 _ I1 q1) fun iv s2 ⟨x2,H2,I2,r2,q2⟩=>?_
 refine dB (hg pins s2 σ H2 x1 x2 ov iv _ I2 r1 r2 q2) fun old s3 ⟨x3,H3,I3,r3,q3⟩=>?_
 refine dB (he pins s3 σ H3 _ I3 q3) fun v s4 ⟨x4,H4,I4,r4,q4⟩=>?_
 refine dB (hp pins s4 σ H4 x3 x4 old v _ I4 r3 r4 q4) fun new s5 ⟨x5,H5,I5,r5,q5⟩=>?_
 exact dB (hs pins s5 σ H5 x1 x2 x5 ov iv new _ I5 r1 r2 r5 q5) fun _ s6 ⟨H6,I6,q6⟩=>⟨σ,H6,I6,q6⟩
def nU(c:TT)(tb:TS):TS:=fun D σ H=>∃ W:Nat->St->Hp->Prop,(∃ m,W m σ H)/\∀ m σ H,W m σ H->
 c σ H fun b H1=>if b=true then ∃ N:St->Hp->Prop,(∀ σ' H',N σ' H'->∃ m',m'<m/\W m' σ' H')/\tb { D with nx:=N,ct:=N,bk:=D.nx} σ H1 else D.nx σ H1
theorem tU{c:Expr}{body:List Stmt}{tc:TT}{tb:TS}(hp:PassesOwn (model X.prog X.w) X.A X.env X.xe)(hc:PT X c tc)(hb:wQ X body tb):PS X (.While c body [] pos) (nU tc tb):=by
 intro pins s σ H D I h;obtain⟨W,⟨m0,w0⟩,turn⟩:=h;refine wpAny_While (codeAny_whileLoop (fun n s'=>∃ σ' H',Inv X pins σ' H' s'/\W n σ' H') ?_ m0 ⟨σ,H,I,w0⟩)
 rintro n s1 ⟨σ1,H1,I1,w1⟩;refine wpAny_passesOwn hp (dB (hc pins s1 σ1 H1 _ I1 (turn n σ1 H1 w1)) fun b s2 ⟨H2,I2,q2⟩=>?_)
 cases b with
 | true =>
   obtain⟨N,hN,q2⟩:=q2;rw[if_pos rfl];refine wpAny_passesOwn hp (dB (hb pins s2 σ1 H2 _ I2 q2) fun f s3 q3=>?_)
   cases f with
   | next =>
     obtain⟨σ3,H3,I3,n3⟩:=q3;obtain⟨m',hm,w3⟩:=hN σ3 H3 n3;exact⟨m',hm,σ3,H3,I3,w3⟩
   | cont =>
     obtain⟨σ3,H3,I3,n3⟩:=q3;obtain⟨m',hm,w3⟩:=hN σ3 H3 n3;exact⟨m',hm,σ3,H3,I3,w3⟩
   | brk=>exact q3
   | ret v=>exact q3
 | false =>
   rw[if_neg Bool.false_ne_true];exact wpAny_execs_nil ⟨σ1,H2,I2,q2⟩
end
structure It where
 go:Nat->Hp->Prop
 HJ:Nat->Hp->V->Hp->Prop
 stop:Nat->Hp->Prop
def nV(X:Cx)(pins:aV)(H:Hp)(b:Addr):Prop :=
 H b=none/\b≠X.env.locals/\b∉X.fs/\(b∈X.ex\/X.s₀.heap.objs.size<=b)/\(∀ x c,X.env.cells.lookup x=some c->c≠b)/\∀ p∈X.pn++pins,p.1≠b
theorem Inv.B5{X:Cx}{pins:aV}{σ:St}{H H' : Hp}{s:Shared}{b:Addr}(I:Inv X pins σ H s)(hb:s.heap.objs.size<=b)(hn:H' b=none):nV X pins H' b:=by
 refine⟨hn,Nat.ne_of_gt (Nat.lt_of_lt_of_le I.lt hb),I.QC hb,.inr (Nat.le_trans I.sz hb),fun x c e z=>?_,fun p hp z=>?_⟩
 ·obtain⟨v,q⟩:=I.cell x c e;exact absurd (Nat.lt_of_lt_of_le q.lt (by rw[z];exact hb)) (Nat.lt_irrefl _)
 ·exact absurd (Nat.lt_of_lt_of_le (Heap.lt_size (I.pin p hp).1) (by rw[z];exact hb)) (Nat.lt_irrefl _)
structure Turn(P:Program)(w:World)(K:bK)(tg:Expr)(J:It)(fp:List Addr)(it:Addr)(tn:Nat->Heap->Prop):Prop where
 mem:it∈fp
 obj:∀ i h,tn i h->∀ b∈fp,∃ o,h.get? b=some o/\∀ v,o.data≠.cell v
 keep:∀ i h h',tn i h->(∀ b∈fp,∀ o,h.get? b=some o->h'.get? b=some o)->tn i h'
 item:∀(X:Cx),X.prog=P->X.w=w->X.K=K->X.calm=true->∀(i:Nat) (pins:aV) (s:Shared) (σ:St) (H:Hp) (E:dw),Inv X pins σ H s->(∀ b∈fp,nV X pins H b)->tn i s.heap->J.go i H->
  wpAny (model P w) X.A (pyNext (.ref it)) (fun r s1=>∃ u,r=some u/\
   wpAny (model P w) X.A (letOwnedTupleGo tg (.ref it) u) (fun _ s2=>∃ x H',Inv X pins σ H' s2/\RelV x u/\J.HJ i H x H'/\tn (i+1) s2.heap/\∀ b∈fp,H' b=none) E s1) E s
 done:∀(X:Cx),X.prog=P->X.w=w->X.K=K->X.calm=true->∀(i:Nat) (pins:aV) (s:Shared) (σ:St) (H:Hp) (E:dw),Inv X pins σ H s->(∀ b∈fp,nV X pins H b)->tn i s.heap->J.stop i H->
  wpAny (model P w) X.A (pyNext (.ref it)) (fun r s1=>r=none/\Inv X pins σ H s1) E s
 self:∀(A:Around) (i:Nat) (s:Shared) (Q:dw) (E:dw),tn i s.heap->Q (.ref it) s->wpAny (model P w) A (pyIter (.ref it)) Q E s
abbrev TI:=St->Hp->(It->Hp->Prop)->Prop
def WD(X:Cx)(pins:aV)(σ:St)(tg:Expr)(R:It->Hp->Prop)(itv:Value)(s2:Shared):Prop :=
 ∃(it:Addr) (fp:List Addr) (tn:Nat->Heap->Prop) (J:It) (H' : Hp),itv = .ref it/\Inv X pins σ H' s2/\Turn X.prog X.w X.K tg J fp it tn/\tn 0 s2.heap/\(∀ b∈fp,nV X pins H' b)/\R J H'
def PI(X:Cx)(tg iter:Expr)(wi:TI):Prop :=
 ∀(pins:aV) (s:Shared) (σ:St) (H:Hp) (R:It->Hp->Prop),Inv X pins σ H s->wi σ H R->
  wpAny (model X.prog X.w) X.A (eval iter X.env) (fun v s1=>wpAny (model X.prog X.w) X.A (pyIter v) (WD X pins σ tg R) X.xe s1) X.xe s
theorem HK{M:Model}{A:Around}{E:dw}{s:Shared}{tg:Expr}{it:Addr}{u:Value}{o:Obj}{n:String}{vs:Array Value}{Q:Unit->Shared->Prop}(ho:s.heap.get? it=some o)(hc:o.cls = .type n)(hd:o.data = .fields vs)
 (hn:["enumerate","zip","dict_itemiterator","dict_reverseitemiterator","odict_iterator","itertools.zip_longest","itertools.pairwise"].contains n=false) (hQ:Q () s):wpAny M A (letOwnedTupleGo tg (.ref it) u) Q E s:=by
 unfold letOwnedTupleGo;cases tg<;>first
  | exact wpAny_pure hQ
  | (cases u<;>first
   | exact wpAny_pure hQ
   | (refine wpAny_bind (wpAny_load ho ?_)
      rw[hc,hd];show wpAny M A (if(["enumerate","zip","dict_itemiterator","dict_reverseitemiterator","odict_iterator","itertools.zip_longest","itertools.pairwise"].contains n&&vs[0]? == some (rawInt _))=true then _ else _) Q E s
      rw[if_neg (by intro h;rw[hn,Bool.false_and]at h;cases h)]
      exact wpAny_pure hQ))
def Lw(K:bK)(a:Addr):It :=
 ⟨fun i H=>∃ xs x,aO K H a xs/\xs[i]?=some x,fun i H x H'=>H' = H/\∀ xs,aO K H a xs->xs[i]?=some x,fun i H=>∃ xs,aO K H a xs/\xs.length<=i⟩
def P7(K:bK)(a:Addr):It :=
 ⟨fun i H=>∃ xs x,aP K H a xs/\xs[i]?=some x,fun i H x H'=>H' = H/\∀ xs,aP K H a xs->xs[i]?=some x,fun i H=>∃ xs,aP K H a xs/\xs.length<=i⟩
def Lb(lo:Int)(n:Nat):It:=⟨fun i _=>i<n,fun i H x H'=>H' = H/\x = .int (lo+i),fun i _=>n<=i⟩
theorem Fb{P:Program}{w:World}{K:bK}{tg:Expr}(a it:Addr):Turn P w K tg (Lw K a) [it] it (fun i h=>h.IsListIter it a i) where
 mem:=by simp
 obj:=fun i h st b hb=>by
  have e:b=it:=by simpa using hb
  subst e;obtain⟨o,e,c,d⟩:=st;exact⟨o,e,fun v z=>by rw[d]at z;cases z⟩
 keep:=fun i h h' st k=>st.at fun o e=>k it (by simp) o e
 item:=by
  intro X hP hw hK hc i pins s σ H E I hf st hg;subst hP hw hK;obtain⟨xs,x,hq,hx⟩:=hg;obtain⟨its,rv,p,hz⟩:=I.list hq;obtain⟨u,hu,ru⟩:=rv.get hx;obtain⟨f0,f1,f2,f3,f4,f5⟩:=hf it (by simp)
  refine wpAny_pyNext_list_item st p.isList (x:=u) (by simpa using hu) fun h' st' sb=>?_
  have I1:Inv X pins σ H { s with heap:=h'}:=I.turned (t':=s.toks) (fun b o hb e=>(sb.2 b hb).trans e) f0 f1 f3 f4 f5
  obtain⟨o,e,c,d⟩:=id st';exact⟨u,rfl,HK (s:={ s with heap:=h'}) e c d (by decide) ⟨x,H,I1,ru,⟨rfl,fun ys hy=>by rw[I.oW hy hq];exact hx⟩,st',fun b hb=>(hf b hb).1⟩⟩
 done:=by
  intro X hP hw hK hc i pins s σ H E I hf st hg;subst hP hw hK;obtain⟨xs,hq,hx⟩:=hg;obtain⟨its,rv,p,hz⟩:=I.list hq;obtain⟨f0,f1,f2,f3,f4,f5⟩:=hf it (by simp)
  have hl:=rv.length;exact wpAny_pyNext_list_end (I.ok.hd hc) st p.isList (by simp;lia) fun h' eb=>⟨rfl,I.turned (t':=s.toks) (fun b o hb e=>eb b o hb e) f0 f1 f3 f4 f5⟩
 self:=fun _ _ _ _ _ st h=>wpAny_pyIter_listiter st h
theorem B6{P:Program}{w:World}{K:bK}{tg:Expr}(a it:Addr):Turn P w K tg (P7 K a) [it] it (fun i h=>h.IsTupleIter it a i) where
 mem:=by simp
 obj:=fun i h st b hb=>by
  have e:b=it:=by simpa using hb
  subst e;obtain⟨o,e,c,d⟩:=st;exact⟨o,e,fun v z=>by rw[d]at z;cases z⟩
 keep:=fun i h h' st k=>st.at fun o e=>k it (by simp) o e
 item:=by
  intro X hP hw hK hc i pins s σ H E I hf st hg;subst hP hw hK;obtain⟨xs,x,hq,hx⟩:=hg;obtain⟨its,rv,p,hz⟩:=I.tuple hq;obtain⟨u,hu,ru⟩:=rv.get hx;obtain⟨f0,f1,f2,f3,f4,f5⟩:=hf it (by simp)
  refine wpAny_pyNext_tuple_item st (show s.heap.IsTuple a its.toArray from p) (x:=u) (by simpa using hu) fun h' st' sb=>?_
  have I1:Inv X pins σ H { s with heap:=h'}:=I.turned (t':=s.toks) (fun b o hb e=>(sb.2 b hb).trans e) f0 f1 f3 f4 f5
  obtain⟨o,e,c,d⟩:=id st';exact⟨u,rfl,HK (s:={ s with heap:=h'}) e c d (by decide) ⟨x,H,I1,ru,⟨rfl,fun ys hy=>by rw[I.wR hy hq];exact hx⟩,st',fun b hb=>(hf b hb).1⟩⟩
 done:=by
  intro X hP hw hK hc i pins s σ H E I hf st hg;subst hP hw hK;obtain⟨xs,hq,hx⟩:=hg;obtain⟨its,rv,p,hz⟩:=I.tuple hq;obtain⟨f0,f1,f2,f3,f4,f5⟩:=hf it (by simp)
  have hl:=rv.length;exact wpAny_pyNext_tuple_end (I.ok.hd hc) st (show s.heap.IsTuple a its.toArray from p) (by simp;lia) fun h' eb=>⟨rfl,I.turned (t':=s.toks) (fun b o hb e=>eb b o hb e) f0 f1 f3 f4 f5⟩
 self:=fun _ _ _ _ _ st h=>wpAny_pyIter_tupleiter st h
theorem B7{P:Program}{w:World}{K:bK}{tg:Expr}(it:Addr)(lo:Int)(n:Nat):Turn P w K tg (Lb lo n) [it] it (fun i h=>IsRangeIter h it (lo+(i:Nat)*1) ((n:Int)-(i:Nat)) 1) where
 mem:=by simp
 obj:=fun i h st b hb=>by
  have e:b=it:=by simpa using hb
  subst e;exact⟨_,st,fun v z=>by
   have z' : Data.fields _=Data.cell v:=z;cases z'⟩
 keep:=fun i h h' st k=>k it (by simp) _ st
 item:=by
  intro X hP hw hK hc i pins s σ H E I hf st hg;subst hP hw hK;obtain⟨f0,f1,f2,f3,f4,f5⟩:=hf it (by simp)
  have W:=Walks.range (prog:=X.prog) (w:=X.w) (I.ok.hd hc) it lo 1 n;refine W.item i s _ _ hg st fun v h' tk hv st' kk=>?_
  obtain⟨t,rfl⟩:=hv;have I1:Inv X pins σ H { s with heap:=h',toks:=tk}:=I.turned (fun b o hb e=>kk b o (by simpa using hb) e) f0 f1 f3 f4 f5
  refine⟨_,rfl,HK (s:={ s with heap:=h',toks:=tk}) (n:="range_iterator") st' rfl rfl (by decide) ⟨.int (lo+i),H,I1,⟨t,?_⟩,⟨rfl,rfl⟩,st',fun b hb=>(hf b hb).1⟩⟩
  rw[Int.mul_one]
 done:=by
  intro X hP hw hK hc i pins s σ H E I hf st hg;subst hP hw hK;obtain⟨f0,f1,f2,f3,f4,f5⟩:=hf it (by simp)
  exact wpAny_pyNext_range_end (I.ok.hd hc) st (by have:n<=i:=hg;lia) fun h' eb=>⟨rfl,I.turned (t':=s.toks) (fun b o hb e=>eb b o hb e) f0 f1 f3 f4 f5⟩
 self:=fun _ _ _ _ _ st h=>wpAny_pyIter_rangeiter st h
section
variable {X:Cx}{tg:Expr}
def MY(K:bK)(tl:TE):TI:=fun σ H R=>tl σ H fun x H1=>∃ a,x = .ref a/\(∃ xs,aO K H1 a xs)/\R (Lw K a) H1
def QO(K:bK)(tl:TE):TI:=fun σ H R=>tl σ H fun x H1=>∃ a,x = .ref a/\(∃ xs,aP K H1 a xs)/\R (P7 K a) H1
theorem Lx{l:Expr}{tl:TE}(hl:PE X l tl):PI X tg l (MY X.K tl):=by
 intro pins s σ H R I h;refine dB (hl pins s σ H _ I h) fun v s1 ⟨x,H1,I1,r1,q1⟩=>?_
 obtain⟨a,e,⟨xs,hq⟩,q⟩:=q1;subst e;cases r1;obtain⟨its,rv,p,hz⟩:=I1.list hq;refine wpAny_pyIter_list p.isList ?_;refine⟨s1.heap.objs.size,[s1.heap.objs.size],_,_,H1,rfl,I1.kept (t':=s1.toks) fun b o e=>Heap.get?_push_of_some _ e,Fb a _,⟨_,Heap.get?_push_size _ rfl,rfl,rfl⟩,fun b hb=>?_,q⟩
 have e:b=s1.heap.objs.size:=by simpa using hb
 subst e;exact I1.B5 (Nat.le_refl _) (I1.hok.fresh (Nat.le_refl _))
theorem NV{l:Expr}{tl:TE}(hl:PE X l tl):PI X tg l (QO X.K tl):=by
 intro pins s σ H R I h;refine dB (hl pins s σ H _ I h) fun v s1 ⟨x,H1,I1,r1,q1⟩=>?_
 obtain⟨a,e,⟨xs,hq⟩,q⟩:=q1;subst e;cases r1;obtain⟨its,rv,p,hz⟩:=I1.tuple hq;refine wpAny_pyIter_tuple (show s1.heap.IsTuple a its.toArray from p) ?_
 refine⟨s1.heap.objs.size,[s1.heap.objs.size],_,_,H1,rfl,I1.kept (t':=s1.toks) fun b o e=>Heap.get?_push_of_some _ e,B6 a _,⟨_,Heap.get?_push_size _ rfl,rfl,rfl⟩,fun b hb=>?_,q⟩
 have e:b=s1.heap.objs.size:=by simpa using hb
 subst e;exact I1.B5 (Nat.le_refl _) (I1.hok.fresh (Nat.le_refl _))
theorem HM{pins:aV}{σ:St}{H:Hp}{s:Shared}{R:It->Hp->Prop}{E:dw}{lo hi:Int}{t u v:Tok}{tk:Nat}(I:Inv X pins σ H s)(h1 : -(2^62)<=lo)(h2:lo<2^62)(h3 : -(2^62)<=hi)(h4:hi<2^62)
 (q:R (Lb lo (hi-lo).toNat) H):wpAny (model X.prog X.w) X.A (pyIter (.ref s.heap.objs.size)) (WD X pins σ tg R) E { s with heap:=s.heap.push { cls:=.type "range",data:=.fields #[.int lo t,.int hi u,.int 1 v]},toks:=tk}:=by
 refine wpAny_pyIter_range (IsRange.new ..) (small_one h1 h2 h3 h4) ?_;have I1:Inv X pins σ H { s with heap:=s.heap.push { cls:=.type "range",data:=.fields #[.int lo t,.int hi u,.int 1 v]},toks:=tk}:=I.kept fun b o e=>Heap.get?_push_of_some _ e
 refine⟨(s.heap.push { cls:=.type "range",data:=.fields #[.int lo t,.int hi u,.int 1 v]}).objs.size,[(s.heap.push { cls:=.type "range",data:=.fields #[.int lo t,.int hi u,.int 1 v]}).objs.size],_,_,H,rfl,
  I1.kept (t':=tk) fun b o e=>Heap.get?_push_of_some _ e,B7 _ lo (hi-lo).toNat,?_,fun b hb=>?_,q⟩
 ·have e1:lo+((0:Nat):Int)*1=lo:=by simp
  have e2:(((hi-lo).toNat:Nat):Int)-((0:Nat):Int)=Builtin.Range.rangeSize lo hi 1:=by rw[rangeSize_one];split<;>lia
  show IsRangeIter _ _ (lo+((0:Nat):Int)*1) ((((hi-lo).toNat:Nat):Int)-((0:Nat):Int)) 1;rw[e1,e2];exact Heap.get?_push_size _ rfl
 ·have e:b=(s.heap.push { cls:=.type "range",data:=.fields #[.int lo t,.int hi u,.int 1 v]}).objs.size:=by simpa using hb
  subst e;exact I1.B5 (Nat.le_refl _) (I1.hok.fresh (Nat.le_refl _))
def QS(ta:TA):TI:=fun σ H R=>ta σ H fun vs H1=>∃ j:Int,vs=[.int j]/\-(2^62)<=j/\j<2^62/\R (Lb 0 j.toNat) H1
theorem bf{a:Expr}{ta:TA}{p pos:Pos}(hg:Gl X "range")(hm:X.mg "range"=none)(ha:PA X [a] ta)(hs:starEach [a] X.env=[(false,eval a X.env)]:=by rfl):PI X tg (.Call (.Name "range" p) [a] [] pos) (QS ta):=by
 intro pins s σ H R I h;refine Call_ (kH I hg hm boot_range (PyProof.Rows.callWith_type1 (dB (ha pos pins s σ H _ I h) fun us s1 ⟨vs,H1,I1,r1,q1⟩=>?_) hs rfl))
 obtain⟨j,e,q1,q2,q⟩:=q1;subst e;cases r1 with
 | cons r rr =>
   cases rr;obtain⟨t,rfl⟩:=r;exact call_range_1 (HM I1 (by lia) (by lia) q1 q2 (by simpa using q))
def cu(wi:TI)(g:TG)(tb:TS):TS:=fun D σ H=>wi σ H fun J H1=>∃ W:Nat->Nat->St->Hp->Prop,(∃ m,W 0 m σ H1)/\∀ i m σ H,W i m σ H->
 (J.stop i H/\D.nx σ H)\/(J.go i H/\∃ N:St->Hp->Prop,(∀ σ' H',N σ' H'->∃ m',m'<m/\W (i+1) m' σ' H')/\∀ x H',J.HJ i H x H'->g x σ H' fun σ2 H2=>tb { D with nx:=N,ct:=N,bk:=D.nx} σ2 H2)
def qi(fp:List Addr)(h:Heap):aV:=fp.filterMap fun b=>(h.get? b).map fun o=>(b,o)
theorem gJ{fp:List Addr}{h:Heap}{b:Addr}{o:Obj}(hb:b∈fp)(e:h.get? b=some o):(b,o)∈qi fp h:=List.mem_filterMap.mpr ⟨b,hb,by rw[e];rfl⟩
theorem Fc{fp:List Addr}{h:Heap}{p:Addr×Obj}(hp:p∈qi fp h):p.1∈fp/\h.get? p.1=some p.2:=by
 obtain⟨b,hb,e⟩:=List.mem_filterMap.mp hp;cases q:h.get? b with
 | none=>rw[q]at e;cases e
 | some o =>
   rw[q]at e;have e' : (b,o)=p:=Option.some.inj e;subst e';exact⟨hb,q⟩
theorem Inv.pinned{pins:aV}{σ:St}{H:Hp}{s:Shared}{fp:List Addr}(I:Inv X pins σ H s)(hf:∀ b∈fp,nV X pins H b)(ho:∀ b∈fp,∃ o,s.heap.get? b=some o/\∀ v,o.data≠.cell v):Inv X (pins++qi fp s.heap) σ H s :=
 I.gn fun p hp=>(List.mem_append.mp hp).elim (fun z=>I.pin p (List.mem_append_right _ z)) fun z=>by
  obtain⟨hb,e⟩:=Fc z;obtain⟨f0,f1,f2,_⟩:=hf p.1 hb;obtain⟨o,e',d⟩:=ho p.1 hb;rw[e]at e';cases e';exact⟨e,f0,f1,f2,d⟩
theorem Inv.jf{pins pl:aV}{σ:St}{H:Hp}{s:Shared}(I:Inv X (pins++pl) σ H s):Inv X pins σ H s:=I.gn fun p hp=>I.pin p (List.mem_append_right _ (List.mem_append_left _ hp))
theorem cK{iter:Expr}{body:List Stmt}{wi:TI}{g:TG}{tb:TS}{pos:Pos}(hp:PassesOwn (model X.prog X.w) X.A X.env X.xe)(hc:X.calm=true)(hi:PI X tg iter wi)(hg:PG X tg g)(hb:wQ X body tb)
 (hs:∀ x,foldedSetIterable iter X.env x=pure x:=by intro _;rfl):PS X (.For tg iter body [] pos) (cu wi g tb):=by
 intro pins s σ H D I h;refine wpAny_For (dB (hi pins s σ H _ I h) fun v s1 h1=>dB h1 fun itv s2 h2=>?_) hs
 obtain⟨it,fp,tn,J,H2,e,I2,T,st2,f2,W,⟨m0,w0⟩,turn⟩:=h2;subst e;have B8:∀{H' : Hp},(∀ b∈fp,H' b=none)->∀ b∈fp,nV X pins H' b:=fun hn b hb=>⟨hn b hb,(f2 b hb).2⟩
 refine codeAny_forLoop_any (fun n s'=>∃ i σ' H',Inv X pins σ' H' s'/\tn i s'.heap/\(∀ b∈fp,H' b=none)/\W i n σ' H') ?_ m0 ⟨0,σ,H2,I2,st2,fun b hb=>(f2 b hb).1,w0⟩
 rintro n s3 ⟨i,σ3,H3,I3,st3,MZ,w3⟩;rcases turn i n σ3 H3 w3 with⟨stop,qn⟩|⟨go,N,hN,step⟩
 ·refine wpAny_passesOwn hp (dB (T.done X rfl rfl rfl hc i pins s3 σ3 H3 X.xe I3 (B8 MZ) st3 stop) fun r s4 ⟨hr,I4⟩=>?_)
  subst hr;exact wpAny_execs_nil ⟨σ3,H3,I4,qn⟩
 ·refine wpAny_passesOwn hp (dB (T.item X rfl rfl rfl hc i pins s3 σ3 H3 X.xe I3 (B8 MZ) st3 go) fun r s4 ⟨u,hr,h4⟩=>?_)
  subst hr;refine wpAny_passesOwn hp (dB h4 fun _ s5 ⟨x,H5,I5,r5,y5,HN,QT⟩=>?_)
  have QU:=I5.pinned (B8 QT) (T.obj _ _ HN);refine wpAny_passesOwn hp (dB (hg _ s5 σ3 H5 x u _ QU r5 (step x H5 y5)) fun _ s6 ⟨σ6,H6,I6,q6⟩=>?_)
  refine wpAny_passesOwn hp (dB (hb _ s6 σ6 H6 _ I6 q6) fun f s7 q7=>?_)
  have again:∀{σ7:St} {H7:Hp},Inv X (pins++qi fp s5.heap) σ7 H7 s7->N σ7 H7->∃ m,m<n/\∃ i σ' H',Inv X pins σ' H' s7/\tn i s7.heap/\(∀ b∈fp,H' b=none)/\W i m σ' H':=fun {σ7 H7} I7 n7=>by
   obtain⟨m',hm,w7⟩:=hN σ7 H7 n7;refine⟨m',hm,i+1,σ7,H7,I7.jf,T.keep _ _ _ HN fun b hb o e=>(I7.pin (b,o) (List.mem_append_right _ (List.mem_append_right _ (gJ hb e)))).1,fun b hb=>?_,w7⟩
   obtain⟨o,e,d⟩:=T.obj _ _ HN b hb;exact(I7.pin (b,o) (List.mem_append_right _ (List.mem_append_right _ (gJ hb e)))).2.1
  cases f with
  | next=>obtain⟨σ7,H7,I7,n7⟩:=q7;exact again I7 n7
  | cont=>obtain⟨σ7,H7,I7,n7⟩:=q7;exact again I7 n7
  | brk=>obtain⟨σ7,H7,I7,q7⟩:=q7;exact⟨σ7,H7,I7.jf,q7⟩
  | ret v=>obtain⟨x7,σ7,H7,I7,r7,q7⟩:=q7;exact⟨x7,σ7,H7,I7.jf,r7,q7⟩
end
theorem tV{K:bK}{a:Addr}{xs:List V}{g:TG}{tb:TS}{D:Ends}{σ:St}{H:Hp}(Pv:Nat->St->Hp->Prop)(h0:Pv 0 σ H)(hl:∀ i σ H,i<=xs.length->Pv i σ H->aO K H a xs)
 (hs:∀ i x σ H,xs[i]?=some x->Pv i σ H->g x σ H fun σ2 H2=>tb { D with nx:=Pv (i+1),ct:=Pv (i+1),bk:=D.nx} σ2 H2) (hd:∀ σ H,Pv xs.length σ H->D.nx σ H) :
 ∃ W:Nat->Nat->St->Hp->Prop,(∃ m,W 0 m σ H)/\∀ i m σ H,W i m σ H->
   ((Lw K a).stop i H/\D.nx σ H)\/((Lw K a).go i H/\∃ N:St->Hp->Prop,(∀ σ' H',N σ' H'->∃ m',m'<m/\W (i+1) m' σ' H')/\∀ x H',(Lw K a).HJ i H x H'->g x σ H' fun σ2 H2=>tb { D with nx:=N,ct:=N,bk:=D.nx} σ2 H2):=by
 refine⟨fun i m σ H=>m=xs.length-i/\i<=xs.length/\Pv i σ H,⟨xs.length,by simp,Nat.zero_le _,h0⟩,?_⟩
 rintro i m σ H ⟨rfl,hi,p⟩;have q:=hl i σ H hi p
 by_cases hlt:i<xs.length
 ·refine .inr ⟨⟨xs,xs[i],q,by simp[hlt]⟩,Pv (i+1),fun σ' H' p'=>⟨xs.length-(i+1),by lia,rfl,hlt,p'⟩,fun x H' y=>?_⟩
  obtain⟨e,y⟩:=y;subst e;exact hs i x σ _ (y xs q) p
 ·have e:i=xs.length:=by lia
  subst e;exact .inl ⟨⟨xs,q,Nat.le_refl _⟩,hd σ H p⟩
theorem oY{K:bK}{a:Addr}{xs:List V}{g:TG}{tb:TS}{D:Ends}{σ:St}{H:Hp}(Pv:Nat->St->Hp->Prop)(h0:Pv 0 σ H)(hl:∀ i σ H,i<=xs.length->Pv i σ H->aP K H a xs)
 (hs:∀ i x σ H,xs[i]?=some x->Pv i σ H->g x σ H fun σ2 H2=>tb { D with nx:=Pv (i+1),ct:=Pv (i+1),bk:=D.nx} σ2 H2) (hd:∀ σ H,Pv xs.length σ H->D.nx σ H) :
 ∃ W:Nat->Nat->St->Hp->Prop,(∃ m,W 0 m σ H)/\∀ i m σ H,W i m σ H->
   ((P7 K a).stop i H/\D.nx σ H)\/((P7 K a).go i H/\∃ N:St->Hp->Prop,(∀ σ' H',N σ' H'->∃ m',m'<m/\W (i+1) m' σ' H')/\∀ x H',(P7 K a).HJ i H x H'->g x σ H' fun σ2 H2=>tb { D with nx:=N,ct:=N,bk:=D.nx} σ2 H2):=by
 refine⟨fun i m σ H=>m=xs.length-i/\i<=xs.length/\Pv i σ H,⟨xs.length,by simp,Nat.zero_le _,h0⟩,?_⟩
 rintro i m σ H ⟨rfl,hi,p⟩;have q:=hl i σ H hi p
 by_cases hlt:i<xs.length
 ·refine .inr ⟨⟨xs,xs[i],q,by simp[hlt]⟩,Pv (i+1),fun σ' H' p'=>⟨xs.length-(i+1),by lia,rfl,hlt,p'⟩,fun x H' y=>?_⟩
  obtain⟨e,y⟩:=y;subst e;exact hs i x σ _ (y xs q) p
 ·have e:i=xs.length:=by lia
  subst e;exact .inl ⟨⟨xs,q,Nat.le_refl _⟩,hd σ H p⟩
theorem Fd{lo:Int}{n:Nat}{g:TG}{tb:TS}{D:Ends}{σ:St}{H:Hp}(Pv:Nat->St->Hp->Prop)(h0:Pv 0 σ H)
 (hs:∀ i σ H,i<n->Pv i σ H->g (.int (lo+i)) σ H fun σ2 H2=>tb { D with nx:=Pv (i+1),ct:=Pv (i+1),bk:=D.nx} σ2 H2) (hd:∀ σ H,Pv n σ H->D.nx σ H) :
 ∃ W:Nat->Nat->St->Hp->Prop,(∃ m,W 0 m σ H)/\∀ i m σ H,W i m σ H->
   ((Lb lo n).stop i H/\D.nx σ H)\/((Lb lo n).go i H/\∃ N:St->Hp->Prop,(∀ σ' H',N σ' H'->∃ m',m'<m/\W (i+1) m' σ' H')/\∀ x H',(Lb lo n).HJ i H x H'->g x σ H' fun σ2 H2=>tb { D with nx:=N,ct:=N,bk:=D.nx} σ2 H2):=by
 refine⟨fun i m σ H=>m=n-i/\i<=n/\Pv i σ H,⟨n,by simp,Nat.zero_le _,h0⟩,?_⟩
 rintro i m σ H ⟨rfl,hi,p⟩
 by_cases hlt:i<n
 ·refine .inr ⟨hlt,Pv (i+1),fun σ' H' p'=>⟨n-(i+1),by lia,rfl,hlt,p'⟩,fun x H' y=>?_⟩
  obtain⟨e,y⟩:=y;subst e y;exact hs i σ _ hlt p
 ·have e:i=n:=by lia
  subst e;exact .inl ⟨Nat.le_refl _,hd σ H p⟩
abbrev R2:=V->V->Hp->VK->Prop
def lO(X:Cx)(f:Value->Value->Sem Value)(r:R2):Prop :=
 ∀(pins:aV) (s:Shared) (σ:St) (H:Hp) (x y:V) (v u:Value) (Q:VK),Inv X pins σ H s->RelV x v->RelV y u->r x y H Q->
  wpAny (model X.prog X.w) X.A (f v u) (EP X pins σ Q) X.xe s
def Uy(X:Cx)(f:Value->Sem Value)(r:V->Hp->VK->Prop):Prop :=
 ∀(pins:aV) (s:Shared) (σ:St) (H:Hp) (x:V) (v:Value) (Q:VK),Inv X pins σ H s->RelV x v->r x H Q->
  wpAny (model X.prog X.w) X.A (f v) (EP X pins σ Q) X.xe s
def fC(X:Cx)(f:Value)(r:List V->Hp->VK->Prop):Prop :=
 ∀(pins:aV) (s:Shared) (σ:St) (H:Hp) (xs:List V) (us:List Value) (Q:VK),Inv X pins σ H s->Vals xs us->r xs H Q->
  wpAny (model X.prog X.w) X.A (call f us) (EP X pins σ Q) X.xe s
def QV(r:R2)(ta tb:TE):TE:=fun σ H Q=>ta σ H fun x H1=>tb σ H1 fun y H2=>r x y H2 Q
def Zh(r:V->Hp->VK->Prop)(ta:TE):TE:=fun σ H Q=>ta σ H fun x H1=>r x H1 Q
def rI(C:Int->Int->Prop)(g:Int->Int->V):R2:=fun x y H Q=>∃ i j,x = .int i/\y = .int j/\C i j/\Q (g i j) H
def Fe(g:Int->Int->V):R2:=fun x y H Q=>∃ i j,x = .int i/\y = .int j/\Q (g i j) H
def rU(g:Int->V):V->Hp->VK->Prop:=fun x H Q=>∃ i,x = .int i/\Q (g i) H
section
variable {X:Cx}{a b c:Expr}{ta tb tc:TE}{pos:Pos}
theorem NW(ha:PE X a ta)(hb:PE X b tb){pins:aV}{s:Shared}{σ:St}{H:Hp}{R:V->V->Hp->Prop}(I:Inv X pins σ H s)
 (h:ta σ H fun x H1=>tb σ H1 fun y H2=>R x y H2) {Q:dw} {f:Value->Value->Sem Value}
 (hf:∀ v u s2 x y H2,Inv X pins σ H2 s2->RelV x v->RelV y u->R x y H2->wpAny (model X.prog X.w) X.A (f v u) Q X.xe s2) :
 wpAny (model X.prog X.w) X.A (eval a X.env) (fun v s₁=>wpAny (model X.prog X.w) X.A (eval b X.env) (fun u s₂=>wpAny (model X.prog X.w) X.A (f v u) Q X.xe s₂) X.xe s₁) X.xe s:=by
 refine dB (ha pins s σ H _ I h) fun v s1 ⟨x,H1,I1,r1,q1⟩=>?_
 refine dB (hb pins s1 σ H1 _ I1 q1) fun u s2 ⟨y,H2,I2,r2,q2⟩=>?_
 exact hf v u s2 x y H2 I2 r1 r2 q2
theorem aL{op:Operator}{r:R2}(ho:lO X (binaryOp op) r)(ha:PE X a ta)(hb:PE X b tb):PE X (.BinOp a op b pos) (QV r ta tb):=by
 intro pins s σ H Q I h;exact wpAny_BinOp (NW ha hb I h fun v u s2 x y H2 I2 rx ry q=>ho pins s2 σ H2 x y v u Q I2 rx ry q)
theorem QW{op:UnaryOp}{r:V->Hp->VK->Prop}(ho:Uy X (unaryOp op) r)(ha:PE X a ta):PE X (.UnaryOp op a pos) (Zh r ta):=by
 intro pins s σ H Q I h;exact UnaryOp_ (dB (ha pins s σ H _ I h) fun v s1 ⟨x,H1,I1,r1,q1⟩=>ho pins s1 σ H1 x v Q I1 r1 q1)
theorem P8{f:Value->Value->Sem Value}{C:Int->Int->Prop}{g:Int->Int->Int}
 (rule:∀(i j:Int) (t u:Tok) (s:Shared) (Q:dw) (E:dw),C i j->Q (.int (g i j) s.toks) { s with toks:=s.toks+1}->wpAny (model X.prog X.w) X.A (f (.int i t) (.int j u)) Q E s) :
 lO X f (rI C fun i j=>.int (g i j)):=by
 intro pins s σ H x y v u Q I rx ry h;obtain⟨i,j,rfl,rfl,hc,q⟩:=h;obtain⟨t,rfl⟩:=rx;obtain⟨t',rfl⟩:=ry;exact rule i j t t' s _ _ hc ⟨.int (g i j),H,I.tok _,⟨_,rfl⟩,q⟩
theorem B9{f:Value->Value->Sem Value}{g:Int->Int->Int}
 (rule:∀(i j:Int) (t u:Tok) (s:Shared) (Q:dw) (E:dw),Q (.int (g i j) s.toks) { s with toks:=s.toks+1}->wpAny (model X.prog X.w) X.A (f (.int i t) (.int j u)) Q E s) :
 lO X f (Fe fun i j=>.int (g i j)):=by
 intro pins s σ H x y v u Q I rx ry h;obtain⟨i,j,rfl,rfl,q⟩:=h;obtain⟨t,rfl⟩:=rx;obtain⟨t',rfl⟩:=ry;exact rule i j t t' s _ _ ⟨.int (g i j),H,I.tok _,⟨_,rfl⟩,q⟩
theorem Ly{f:Value->Value->Sem Value}{g:Int->Int->Bool}
 (rule:∀(i j:Int) (t u:Tok) (s:Shared) (Q:dw) (E:dw),Q (.bool (g i j)) s->wpAny (model X.prog X.w) X.A (f (.int i t) (.int j u)) Q E s) :
 lO X f (Fe fun i j=>.bl (g i j)):=by
 intro pins s σ H x y v u Q I rx ry h;obtain⟨i,j,rfl,rfl,q⟩:=h;obtain⟨t,rfl⟩:=rx;obtain⟨t',rfl⟩:=ry;exact rule i j t t' s _ _ ⟨.bl (g i j),H,I,rfl,q⟩
def Uz(i j:Int):Prop:=0<j/\j<1073741824
def QX(i j:Int):Prop:=0<=j/\j<=1000000/\i.natAbs<2^64
def NX(i j:Int):Prop:=(-(2^64)<i/\i<2^64)\/(-(2^64)<j/\j<2^64)
theorem NX.ok{i j:Int}(h:NX i j):IntMulOk i j:=by
 rcases h with⟨h1,h2⟩|⟨h1,h2⟩
 ·exact .of_left (intBits_le_64 h1 h2)
 ·exact .of_right (intBits_le_64 h1 h2)
theorem Ca(k:Nat):(0:Int)<=2^k:=by
 rw[two_pow_cast];exact Int.natCast_nonneg _
theorem dS:lO X (binaryOp .Add) (Fe fun i j=>.int (i+j)):=B9 fun _ _ _ _ _ _ _ q=>add_int q
theorem jg:lO X (binaryOp .Sub) (Fe fun i j=>.int (i-j)):=B9 fun _ _ _ _ _ _ _ q=>sub_int q
theorem Cb:lO X (binaryOp .Mult) (rI NX fun i j=>.int (i*j)):=P8 fun _ _ _ _ _ _ _ hc q=>mul_int q hc.ok
theorem oZ:lO X (binaryOp .FloorDiv) (rI Uz fun i j=>.int (i/j)):=P8 fun i j _ _ _ _ _ hc q=>by
 have h1:(0:Int)<j:=hc.1;have h2:j<1073741824:=hc.2;exact floordiv_int (by lia) (by rw[Int.fdiv_eq_ediv_of_nonneg i (by lia)];exact q) (.inl (PyProof.noPylong_small (by lia)))
theorem dD:lO X (binaryOp .Mod) (rI (fun _ j=>0<j) fun i j=>.int (i%j)):=P8 fun i j _ _ _ _ _ hc q=>by
 have h1:(0:Int)<j:=hc;exact mod_int' (by lia) (by rw[Int.fmod_eq_emod_of_nonneg i (by lia)];exact q)
theorem NY:lO X (binaryOp .Pow) (rI QX fun i j=>.int (i^j.toNat)):=P8 fun _ _ _ _ _ _ _ hc q=>pow_int_small hc.1 hc.2.1 hc.2.2 q
theorem kI:lO X (binaryOp .LShift) (rI QX fun i j=>.int (i*2^j.toNat)):=P8 fun _ _ _ _ _ _ _ hc q=>lshift_int_small hc.1 hc.2.1 hc.2.2 q
theorem tW:lO X (binaryOp .RShift) (rI (fun _ j=>0<=j) fun i j=>.int (i/2^j.toNat)):=P8 fun i j _ _ _ _ _ hc q =>
 rshift_int hc (by rw[Int.fdiv_eq_ediv_of_nonneg i (Ca _)];exact q)
theorem yl:lO X (binaryOp .BitAnd) (Fe fun i j=>.int (Builtin.bitAnd i j)):=B9 fun _ _ _ _ _ _ _ q=>and_int q
theorem gp:lO X (binaryOp .BitXor) (Fe fun i j=>.int (Builtin.bitXor i j)):=B9 fun _ _ _ _ _ _ _ q=>xor_int q
theorem DZ:lO X (inplaceOp .Add) (Fe fun i j=>.int (i+j)):=B9 fun _ _ _ _ _ _ _ q=>iadd_int q
theorem HP:lO X (inplaceOp .BitOr) (Fe fun i j=>.int (Builtin.bitOr i j)):=B9 fun _ _ _ _ _ _ _ q=>ior_int q
theorem D0:lO X (inplaceOp .BitXor) (Fe fun i j=>.int (Builtin.bitXor i j)):=B9 fun _ _ _ _ _ _ _ q=>ixor_int q
theorem Zi{f:Value->Sem Value}{g:Int->Int}
 (rule:∀(i:Int) (t:Tok) (s:Shared) (Q:dw) (E:dw),Q (.int (g i) s.toks) { s with toks:=s.toks+1}->wpAny (model X.prog X.w) X.A (f (.int i t)) Q E s) :
 Uy X f (rU fun i=>.int (g i)):=by
 intro pins s σ H x v Q I rx h;obtain⟨i,rfl,q⟩:=h;obtain⟨t,rfl⟩:=rx;exact rule i t s _ _ ⟨.int (g i),H,I.tok _,⟨_,rfl⟩,q⟩
theorem NZ:Uy X (unaryOp .USub) (rU fun i=>.int (-i)):=Zi fun _ _ _ _ _ q=>neg_int q
end
def N1:V->V->Bool
 | .eM,.eM=>true | .eM,.int _=>true | .int _,.eM=>true | .eM,.bl _=>true | .bl _,.eM=>true | .eM,.str _=>true | .str _,.eM=>true
 | .int _,.int _=>true | .bl _,.bl _=>true | .str _,.str _=>true | .HA _,.HA _=>true
 | .int _,.str _=>true | .str _,.int _=>true | .bl _,.str _=>true | .str _,.bl _=>true
 | _,_=>false
def Zj:R2:=fun x y H Q=>N1 x y=true/\Q (.bl (decide (x=y))) H
def Zk:R2:=fun x y H Q=>N1 x y=true/\Q (.bl (!decide (x=y))) H
theorem D5{i j:Int}:decide (V.int i=V.int j)=(i==j):=by
 rw[Bool.eq_iff_iff];simp
theorem HQ{i j:Bool}:decide (V.bl i=V.bl j)=(i==j):=by
 rw[Bool.eq_iff_iff];simp
theorem D6{i j:Str}:decide (V.str i=V.str j)=(i==j):=by
 rw[Bool.eq_iff_iff];simp
theorem D7{i j:Array UInt8}:decide (V.HA i=V.HA j)=(i.toList==j.toList):=by
 rw[Bool.eq_iff_iff];cases i;cases j;simp
section
variable {X:Cx}{a b c:Expr}{ta tb tc:TE}{pos:Pos}
theorem bH{pins:aV}{σ:St}{H:Hp}{s:Shared}{Q:VK}{k k' : Bool}(I:Inv X pins σ H s)(q:Q (.bl k) H)(e:k=k'):EP X pins σ Q (.bool k') s:=by
 subst e;exact⟨.bl k,H,I,rfl,q⟩
theorem ee:lO X (compareOp .Eq) Zj:=by
 intro pins s σ H x y v u Q I rx ry h;obtain⟨hs,q⟩:=h;cases x with
 | eM =>
   cases rx;cases y with
   | eM=>cases ry;exact PySem.EqNone.eq_none_none (bH I q (by simp))
   | bl j=>cases ry;exact PySem.EqNone.eq_none_bool (bH I q (by simp))
   | int j=>obtain⟨t',rfl⟩:=ry;exact PySem.EqNone.eq_none_int (bH I q (by simp))
   | str j=>obtain⟨t',rfl⟩:=ry;exact PySem.EqNone.eq_none_str (bH I q (by simp))
   | _=>exact absurd (show false=true from hs) Bool.false_ne_true
 | bl i =>
   cases rx;cases y with
   | eM=>cases ry;exact PySem.EqNone.eq_bool_none (bH I q (by simp))
   | bl j=>cases ry;exact eq_bool (bH I q HQ)
   | str j=>obtain⟨t',rfl⟩:=ry;exact PySem.EqMixed.eq_bool_str (bH I q (by simp))
   | _=>exact absurd (show false=true from hs) Bool.false_ne_true
 | int i =>
   obtain⟨t,rfl⟩:=rx;cases y with
   | eM=>cases ry;exact PySem.EqNone.eq_int_none (bH I q (by simp))
   | int j=>obtain⟨t',rfl⟩:=ry;exact eq_int (bH I q D5)
   | str j=>obtain⟨t',rfl⟩:=ry;exact PySem.EqMixed.eq_int_str (bH I q (by simp))
   | _=>exact absurd (show false=true from hs) Bool.false_ne_true
 | str i =>
   obtain⟨t,rfl⟩:=rx;cases y with
   | eM=>cases ry;exact PySem.EqNone.eq_str_none (bH I q (by simp))
   | bl j=>cases ry;exact PySem.EqMixed.eq_str_bool (bH I q (by simp))
   | int j=>obtain⟨t',rfl⟩:=ry;exact PySem.EqMixed.eq_str_int (bH I q (by simp))
   | str j=>obtain⟨t',rfl⟩:=ry;exact eq_str (bH I q D6)
   | _=>exact absurd (show false=true from hs) Bool.false_ne_true
 | HA i =>
   obtain⟨t,rfl⟩:=rx;cases y with
   | HA j=>obtain⟨t',rfl⟩:=ry;exact PySem.W.eq_bytes (bH I q D7)
   | _=>exact absurd (show false=true from hs) Bool.false_ne_true
 | _=>cases y<;>exact absurd (show false=true from hs) Bool.false_ne_true
theorem nJ:lO X (compareOp .NotEq) Zk:=by
 intro pins s σ H x y v u Q I rx ry h;obtain⟨hs,q⟩:=h;cases x with
 | eM =>
   cases rx;cases y with
   | eM=>cases ry;exact PySem.EqNone.ne_none_none (bH I q (by simp))
   | bl j=>cases ry;exact PySem.EqNone.ne_none_bool (bH I q (by simp))
   | int j=>obtain⟨t',rfl⟩:=ry;exact PySem.EqNone.ne_none_int (bH I q (by simp))
   | str j=>obtain⟨t',rfl⟩:=ry;exact PySem.EqNone.ne_none_str (bH I q (by simp))
   | _=>exact absurd (show false=true from hs) Bool.false_ne_true
 | bl i =>
   cases rx;cases y with
   | eM=>cases ry;exact PySem.EqNone.ne_bool_none (bH I q (by simp))
   | bl j=>cases ry;exact ne_bool (bH I q (congrArg not HQ))
   | str j=>obtain⟨t',rfl⟩:=ry;exact PySem.EqMixed.ne_bool_str (bH I q (by simp))
   | _=>exact absurd (show false=true from hs) Bool.false_ne_true
 | int i =>
   obtain⟨t,rfl⟩:=rx;cases y with
   | eM=>cases ry;exact PySem.EqNone.ne_int_none (bH I q (by simp))
   | int j=>obtain⟨t',rfl⟩:=ry;exact ne_int (bH I q (congrArg not D5))
   | str j=>obtain⟨t',rfl⟩:=ry;exact PySem.EqMixed.ne_int_str (bH I q (by simp))
   | _=>exact absurd (show false=true from hs) Bool.false_ne_true
 | str i =>
   obtain⟨t,rfl⟩:=rx;cases y with
   | eM=>cases ry;exact PySem.EqNone.ne_str_none (bH I q (by simp))
   | bl j=>cases ry;exact PySem.EqMixed.ne_str_bool (bH I q (by simp))
   | int j=>obtain⟨t',rfl⟩:=ry;exact PySem.EqMixed.ne_str_int (bH I q (by simp))
   | str j=>obtain⟨t',rfl⟩:=ry;exact ne_str (bH I q (congrArg not D6))
   | _=>exact absurd (show false=true from hs) Bool.false_ne_true
 | HA i =>
   obtain⟨t,rfl⟩:=rx;cases y with
   | HA j=>obtain⟨t',rfl⟩:=ry;exact PySem.W.ne_bytes (bH I q (congrArg not D7))
   | _=>exact absurd (show false=true from hs) Bool.false_ne_true
 | _=>cases y<;>exact absurd (show false=true from hs) Bool.false_ne_true
theorem wW:lO X (compareOp .Lt) (Fe fun i j=>.bl (decide (i<j))):=Ly fun _ _ _ _ _ _ _ q=>lt_int q
theorem D8:lO X (compareOp .LtE) (Fe fun i j=>.bl (decide (i<=j))):=Ly fun _ _ _ _ _ _ _ q=>le_int q
theorem nK:lO X (compareOp .Gt) (Fe fun i j=>.bl (decide (j<i))):=Ly fun _ _ _ _ _ _ _ q=>gt_int q
theorem D9:lO X (compareOp .GtE) (Fe fun i j=>.bl (decide (j<=i))):=Ly fun _ _ _ _ _ _ _ q=>ge_int q
theorem qj:lO X (compareOp .Is) (fun x y H Q=>y = .eM/\Q (.bl (decide (x = .eM))) H):=by
 intro pins s σ H x y v u Q I rx ry h;obtain⟨rfl,q⟩:=h;cases ry;refine is_none_gen (bH I q ?_);cases x<;>first
  | (cases rx;rfl)
  | (obtain⟨t,rfl⟩:=rx;rfl)
theorem ym:lO X (compareOp .IsNot) (fun x y H Q=>y = .eM/\Q (.bl (!decide (x = .eM))) H):=by
 intro pins s σ H x y v u Q I rx ry h;obtain⟨rfl,q⟩:=h;cases ry;refine isnot_none_gen (bH I q ?_);cases x<;>first
  | (cases rx;rfl)
  | (obtain⟨t,rfl⟩:=rx;rfl)
theorem aJ(b:Expr){op:CmpOp}(h:op≠.In:=by decide)(h2:op≠.NotIn:=by decide):behindInMarks op b=false:=by
 have e1:(op==CmpOp.In)=false:=by cases op<;>first | rfl | exact absurd rfl h
 have e2:(op==CmpOp.NotIn)=false:=by cases op<;>first | rfl | exact absurd rfl h2
 cases b<;>simp[behindInMarks,e1,e2]
theorem cQ{op:CmpOp}{r:R2}(ho:lO X (compareOp op) r)(ha:PE X a ta)(hb:PE X b tb)(hm:behindInMarks op b=false):PE X (.Compare a [op] [b] pos) (QV r ta tb):=by
 intro pins s σ H Q I h;exact wpAny_Compare1 (NW ha hb I h fun v u s2 x y H2 I2 rx ry q=>ho pins s2 σ H2 x y v u Q I2 rx ry q) hm
def QY(t:TE):TT:=fun σ H Q=>t σ H fun x H'=>∃ k,x = .bl k/\Q k H'
theorem aH{op:CmpOp}{r:R2}(ho:lO X (compareOp op) r)(ha:PE X a ta)(hb:PE X b tb)(hm:behindInMarks op b=false):PT X (.Compare a [op] [b] pos) (QY (QV r ta tb)):=by
 intro pins s σ H Q I h;refine wpAny_isTrue_Compare1 (dB (ha pins s σ H _ I h) fun v s1 ⟨x,H1,I1,r1,q1⟩=>dB (hb pins s1 σ H1 _ I1 q1) fun u s2 ⟨y,H2,I2,r2,q2⟩ =>
  dB (ho pins s2 σ H2 x y v u _ I2 r1 r2 q2) fun c s3 ⟨z,H3,I3,r3,k,e,q3⟩=>?_) hm
 subst e;cases r3;exact wpAny_truthy_bool ⟨H3,I3,q3⟩
theorem tX:(sizeLine:Nat)<2^63:=by rw[sizeLine_eq];decide
theorem vals1{x:V}{us:List Value}(r:Vals [x] us):∃ u,us=[u]/\RelV x u:=by
 cases r with
 | cons r1 r2=>cases r2;exact⟨_,rfl,r1⟩
theorem vals2{x y:V}{us:List Value}(r:Vals [x,y] us):∃ u w',us=[u,w']/\RelV x u/\RelV y w':=by
 cases r with
 | cons r1 r2 =>
   cases r2 with
   | cons r3 r4=>cases r4;exact⟨_,_,rfl,r1,r3⟩
theorem HR:fC X (.builtin "abs") (fun xs H Q=>∃ i,xs=[.int i]/\Q (.int (if i<0 then -i else i)) H):=by
 intro pins s σ H xs us Q I r h;obtain⟨i,rfl,q⟩:=h;obtain⟨u,rfl,t,rfl⟩:=vals1 r;exact call_abs_int fun u tk=>⟨.int (if i<0 then -i else i),H,I.tok _,⟨_,rfl⟩,q⟩
theorem wX(hc:X.calm=true):fC X (.builtin "max") (fun xs H Q=>∃ i j,xs=[.int i,.int j]/\Q (.int (if j > i then j else i)) H):=by
 intro pins s σ H xs us Q I r h;obtain⟨i,j,rfl,q⟩:=h;obtain⟨u,w',rfl,⟨t,rfl⟩,⟨t',rfl⟩⟩:=vals2 r;refine max_two_ints (I.ok.hd hc) fun h' tk k=>⟨_,H,I.kept k,?_,q⟩
 by_cases hj:j > i
 ·rw[if_pos hj,if_pos hj];exact⟨_,rfl⟩
 ·rw[if_neg hj,if_neg hj];exact⟨_,rfl⟩
theorem wY(hc:X.calm=true):fC X (.builtin "min") (fun xs H Q=>∃ i j,xs=[.int i,.int j]/\Q (.int (if j<i then j else i)) H):=by
 intro pins s σ H xs us Q I r h;obtain⟨i,j,rfl,q⟩:=h;obtain⟨u,w',rfl,⟨t,rfl⟩,⟨t',rfl⟩⟩:=vals2 r;refine min_two_ints (I.ok.hd hc) fun h' tk k=>⟨_,H,I.kept k,?_,q⟩
 by_cases hj:j<i
 ·rw[if_pos hj,if_pos hj];exact⟨_,rfl⟩
 ·rw[if_neg hj,if_neg hj];exact⟨_,rfl⟩
theorem qk:fC X (.type "int") (fun xs H Q=>(∃ i,xs=[.int i]/\Q (.int i) H)\/∃ k,xs=[.bl k]/\Q (.int (if k then 1 else 0)) H):=by
 intro pins s σ H xs us Q I r h;rcases h with⟨i,rfl,q⟩|⟨k,rfl,q⟩
 ·obtain⟨u,rfl,t,rfl⟩:=vals1 r;exact call_int_int ⟨.int i,H,I,⟨_,rfl⟩,q⟩
 ·obtain⟨u,rfl,r1⟩:=vals1 r;cases r1;exact call_int_bool ⟨.int (if k then 1 else 0),H,I.tok _,⟨_,rfl⟩,q⟩
end
structure N2(h:Heap)(x dx C:Addr)(mA:lT):Prop where
 obj:h.get? x=some (PySem.W.instObj C dx)
 ns:h.Ns1 dx mA
 ne:dx≠x
theorem Ff{h:Heap}{dx:Addr}{mA:lT}(n:h.Ns1 dx mA):∃ od,h.get? dx=some od/\∀ name,PySem.W.lookIn name od=some (mA name):=by
 obtain⟨o,es,ep,ho,hd,hk,_,hm⟩:=n;refine⟨o,ho,fun name=>?_⟩
 have e:=hm name;unfold nsFind findBy at e;rw[<-Array.find?_toList]at e;unfold PySem.W.lookIn;rw[hd];dsimp only
 split
 ·rename_i y q
  rw[q]at e;exact congrArg some e
 ·rename_i q
  rw[q]at e;have a:es.toList.any (·.refKey)=false:=by
   rw[List.any_eq_false];intro y hy;obtain⟨z,t,hkey⟩:=hk y (Array.mem_toList_iff.mp hy);simp[DictEntry.refKey,hkey]
  have a' : ¬ es.toList.any (·.refKey)=true:=by rw[a];exact Bool.false_ne_true
  rw[if_neg a'];exact congrArg some e
theorem N2.look{h:Heap}{x dx C:Addr}{mA:lT}(I:N2 h x dx C mA):∃ od,PySem.W.InstAt h x (PySem.W.instObj C dx) C (some od)/\∀ name,PySem.W.lookIn name od=some (mA name) :=
 let⟨od,ho,hl⟩:=Ff I.ns
 ⟨od,⟨I.obj,rfl,rfl,ho⟩,hl⟩
theorem oQ.some_of{v:V}{o:Option Value}(r:oQ (some v) o):∃ u,o=some u/\RelV v u:=by
 cases o with
 | none=>exact(show False from r).elim
 | some u=>exact⟨u,rfl,r⟩
section
variable {P:Program}{w:World}{H H' : Hp}{h h' : Heap}{a C dx:Addr}{fs fs' : List (Str×V)}
theorem Lz(hok:lU P w H h)(e:H a=some (.ins C dx fs)):∃ mA,N2 h a dx C mA/\(∀ f,oQ (fs.lookup f) (mA f))/\PySem.Within mA (fs.map (·.1))/\fs.length<=1000/\H dx=some (.own a):=by
 obtain⟨d,z,ne,ob,mA,n,r,q⟩:=(show br P w H h a (.ins C dx fs) from hok a _ e)
 exact⟨mA,⟨ob,n,ne⟩,r,q,z,d⟩
end
structure UA(K:bK)(C:Addr):Prop where
 pg:PySem.W.plainGet K C Str.empty=true
 hd:PySem.W.hasDictIn K C=true
 po:PySem.W.plainOver K C=true
 sa:PySem.W.findIn K (.ref C) "__setattr__"=some (some (.builtin "object.__setattr__"))
theorem UA.get{K:bK}{C:Addr}(c:UA K C)(f:Str):PySem.W.plainGet K C f=true:=c.pg
section
variable {X:Cx}{pins:aV}{σ:St}{H:Hp}{s:Shared}{A:Around}{E:dw}{Q:dw}{c:Value}{b:Bool}
inductive ql(K:bK)(H:Hp):V->Value->Prop where
 | eM:ql K H .eM (.type "NoneType")
 | bl (x:Bool):ql K H (.bl x) (.type "bool")
 | int (i:Int):ql K H (.int i) (.type "int")
 | str (x:Str):ql K H (.str x) (.type "str")
 | P1 (x:UInt64):ql K H (.P1 x) (.type "float")
 | lst {a:Addr} {xs:List V} (e:H a=some (.lst xs)):ql K H (.ref a) (.type "list")
 | kF {a:Addr} {o:Obj} {xs:List V} (e:H a=some (.kF o (.lst xs))):ql K H (.ref a) (.type "list")
 | tup {a:Addr} {xs:List V} (e:H a=some (.tup xs)):ql K H (.ref a) (.type "tuple")
 | dK {a:Addr} {kvs:List (Key×V)} (e:H a=some (.dK kvs)):ql K H (.ref a) (.type "dict")
 | dT {a:Addr} {kvs:List (List Key×V)} (e:H a=some (.dT kvs)):ql K H (.ref a) (.type "dict")
 | ins {a C dx:Addr} {fs:List (Str×V)} (e:H a=some (.ins C dx fs)) (cl:UA K C) (ha:PySem.W.findIn K (.ref C) "__class__"=some (some (.builtin "object.__class__")))
  (hn:PySem.W.specialIn K (.builtin "object.__class__") "__get__"=some (some (.builtin "getset_descriptor.__get__"))) (htk:PySem.W.takesIn K (.builtin "object.__class__")=some true)
  (hm:PySem.W.mroIn K C (.type "object")=some true):ql K H (.ref a) (.ref C)
theorem Fg{x:V}{u t:Value}(I:Inv X pins σ H s)(rx:RelV x u)(ty:ql X.K H x t)(e:PySem.W.kitOne X.K t c=some b)(h:∀ tk,Q (.bool b) { s with toks:=tk}):
 wpAny (model X.prog X.w) A (call (.builtin "isinstance") [u,c]) Q E s:=by
 cases ty with
 | eM=>cases(show u=Value.none from rx);exact PySem.W.kia_one PySem.W.kitx_none I.zN True.intro e (fun z=>nomatch z) h
 | bl y=>cases(show u=Value.bool y from rx);exact PySem.W.kia_one PySem.W.kitx_bool I.zN True.intro e (fun z=>nomatch z) h
 | int i=>obtain⟨t,q⟩:=(show ∃ t,u=Value.int i t from rx);cases q;exact PySem.W.kia_one PySem.W.kitx_int I.zN True.intro e (fun z=>nomatch z) h
 | str y=>obtain⟨t,q⟩:=(show ∃ t,u=Value.str y t from rx);cases q;exact PySem.W.kia_one PySem.W.kitx_str I.zN True.intro e (fun z=>nomatch z) h
 | P1 y=>obtain⟨t,q⟩:=(show ∃ t,u=Value.float y t from rx);cases q;exact PySem.W.kia_one PySem.W.kitx_float I.zN True.intro e (fun z=>nomatch z) h
 | @lst a xs ea =>
   cases(show u=Value.ref a from rx)
   obtain⟨_,_,n,_,h1⟩:=(show br X.prog X.w H s.heap a (.lst xs) from I.hok a _ ea)
   exact PySem.W.kia_one PySem.W.kitx_list I.zN ⟨_,h1,rfl⟩ e (fun z=>nomatch z) h
 | @kF a ob xs ea =>
   cases(show u=Value.ref a from rx)
   obtain⟨_,_,_,n,_,h1⟩:=(show br X.prog X.w H s.heap a (.kF ob (.lst xs)) from I.hok a _ ea)
   exact PySem.W.kia_one PySem.W.kitx_list I.zN ⟨_,h1,rfl⟩ e (fun z=>nomatch z) h
 | @tup a xs ea =>
   cases(show u=Value.ref a from rx)
   obtain⟨_,_,_,p⟩:=(show br X.prog X.w H s.heap a (.tup xs) from I.hok a _ ea)
   obtain⟨o,h1,h2,_⟩:=p;exact PySem.W.kia_one PySem.W.kitx_tuple I.zN ⟨o,h1,h2⟩ e (fun z=>nomatch z) h
 | @dK a kvs ea =>
   cases(show u=Value.ref a from rx)
   obtain⟨_,_,vs,_,p⟩:=(show br X.prog X.w H s.heap a (.dK kvs) from I.hok a _ ea)
   obtain⟨o,es,ep,h1,h2,_⟩:=p;exact PySem.W.kia_one PySem.W.kitx_dict I.zN ⟨o,h1,h2.1⟩ e (fun z=>nomatch z) h
 | @dT a kvs ea =>
   cases(show u=Value.ref a from rx)
   obtain⟨_,_,xs,_,o,es,ep,h1,h2,_⟩:=(show br X.prog X.w H s.heap a (.dT kvs) from I.hok a _ ea)
   exact PySem.W.kia_one PySem.W.kitx_dict I.zN ⟨o,h1,h2.1⟩ e (fun z=>nomatch z) h
 | @ins a C dx fs ea cl ha hn htk hm =>
   cases(show u=Value.ref a from rx)
   obtain⟨mA,O,_⟩:=Lz I.hok ea;obtain⟨od,J,_⟩:=O.look;exact PySem.W.kia_one (PySem.W.kitx_own (cl.get _) cl.hd ha hn htk hm) I.zN J e (fun z=>nomatch z) h
end
structure fh(k:Nat)(A:Around):Prop where
 hd:A.handled=none
 dp:A.depth+3*k+5<recursionLimit
 un:A.units+16*k+200<cLine
theorem fh.mono{j k:Nat}{A:Around}(r:fh k A)(h:j<=k):fh j A:=⟨r.hd,by have:=r.dp;lia,by have:=r.un;lia⟩
theorem fh.deeper{k:Nat}{A:Around}(r:fh (k+1) A)(env:Env):fh k (A.deeper env) :=
 ⟨r.hd,by have:=r.dp;show A.depth+1+3*k+5<_;lia,by have:=r.un;show A.units+3+16*k+200<_;lia⟩
theorem fh.in1{k:Nat}{A:Around}(r:fh (k+1) A):fh k A.in1 :=
 ⟨r.hd,by have:=r.dp;show A.depth+3*k+5<_;lia,by have:=r.un;show A.units+1+16*k+200<_;lia⟩
theorem fh.depth{k:Nat}{A:Around}(r:fh k A):A.depth<recursionLimit:=by have:=r.dp;lia
theorem fh.units{k:Nat}{A:Around}(r:fh k A):A.units+64<cLine:=by have:=r.un;lia
theorem fh.Cc{k:Nat}{A:Around}(r:fh k A):A.units<cLine:=by have:=r.un;lia
def UB:TA:=fun _ H Q=>Q [] H
def QZ(ta:TE)(tr:TA):TA:=fun σ H Q=>ta σ H fun x H1=>tr σ H1 fun xs H2=>Q (x::xs) H2
section
variable {X:Cx}{e:Expr}{es:List Expr}{te:TE}{t:TA}{pos:Pos}
theorem af:PA X [] UB:=fun _ _ _ _ H Q I h=>Calls.spliced_nil ⟨[],H,I,.nil,h⟩
theorem aa(ha:PE X e te)(hr:PA X es t)(hs:starEach (e::es) X.env=(false,eval e X.env)::starEach es X.env:=by rfl):PA X (e::es) (QZ te t):=by
 intro pos pins s σ H Q I h;rw[hs];show wpAny _ _ (spliced ((false,eval e X.env)::backTo pos (starEach es X.env))) _ _ s;refine Calls.spliced_cons (dB (ha pins s σ H _ I h) fun u s1 ⟨x,H1,I1,r1,q1⟩=>?_)
 exact dB (hr pos pins s1 σ H1 _ I1 q1) fun us s2 ⟨xs,H2,I2,r2,q2⟩=>⟨x::xs,H2,I2,.cons r1 r2,q2⟩
def UC(t:TA):TE:=fun σ H Q=>t σ H fun xs H1=>xs.length<=sizeLine/\∀ p,H1 p=none->Q (.ref p) (upd H1 p (.tup xs))
def UD(t:TA):TE:=fun σ H Q=>t σ H fun xs H1=>xs.length<=sizeLine/\∀ p,H1 p=none->Q (.ref p) (upd H1 p (.lst xs))
theorem c7{x1}(h:PA X es t):PE X (.Tuple es x1 pos) (UC t):=by
 intro pins s σ H Q I hq;refine wpAny_Tuple_spliced (dB (h pos pins s σ H _ I hq) fun us s1 ⟨xs,H1,I1,r,z,q⟩=>⟨by rw[<-r.length];exact z,?_⟩)
 have hf:H1 s1.heap.objs.size=none:=I1.hok.fresh (Nat.le_refl _);refine⟨.ref s1.heap.objs.size,upd H1 s1.heap.objs.size (.tup xs),I1.laid (t':=s1.toks) (fun b u e=>Heap.get?_push_of_some _ e) (Nat.le_refl _) ?_,rfl,q _ hf⟩
 exact⟨z,us,r,⟨_,Heap.get?_push_size _ rfl,rfl,_,rfl⟩⟩
theorem eg(h:PA X es t):PE X (.List es pos) (UD t):=by
 intro pins s σ H Q I hq;refine wpAny_List_spliced (dB (h pos pins s σ H _ I hq) fun us s1 ⟨xs,H1,I1,r,z,q⟩=>⟨by rw[<-r.length];exact z,?_⟩)
 have hf:H1 s1.heap.objs.size=none:=I1.hok.fresh (Nat.le_refl _);refine⟨.ref s1.heap.objs.size,upd H1 s1.heap.objs.size (.lst xs),I1.laid (t':=s1.toks) (fun b u e=>Heap.get?_push_of_some _ e) (Nat.le_refl _) ?_,rfl,q _ hf⟩
 exact⟨z,us,0,r,Heap.get?_push_size _ rfl⟩
end
abbrev Sp:=List V->Hp->VK->XK->Prop
abbrev Hs:=List Env->Hp->Shared->XK->Value->Shared->Prop
structure LA(P:Program)(w:World)(K:bK)(mg:lT)(base:Heap)(A:Around)(outer:List Env)(s:Shared)(H:Hp):Prop where
 frames:A.frames=some outer
 mod:Mod K mg base
 bs:∀ b o,base.get? b=some o->s.heap.get? b=some o/\H b=none
 Lq:base.objs.size<=s.heap.objs.size
 funs:s.heap.FunFrames base outer
 NP:∀ b∈frs outer,H b=none
 hok:lU P w H s.heap
 bare:AllBare s.gens
def CE(outer:List Env)(P:Program)(w:World)(H:Hp)(s:Shared)(Q:VK)(u:Value)(s' : Shared):Prop :=
 ∃ v H',s'.os=s.os/\AllBare s'.gens/\Un (frs outer) [] H H' s.heap s'.heap/\lU P w H' s'.heap/\RelV v u/\Q v H'
def CR(CX:Hs)(outer:List Env)(P:Program)(w:World)(H:Hp)(s:Shared)(Q:VK)(E:XK)(r:Result)(s' : Shared):Prop :=
 match r with
 | .ok (.ret u)=>CE outer P w H s Q u s'
 | .ok _=>False
 | .error e=>CX outer H s E e s'
structure lX(P:Program)(w:World)(K:bK)(mg:lT)(base:Heap)(CX:Hs)(k:Nat)(f:Addr)(fd:FuncData)(ps:List Str)(sp:Sp):Prop where
 len:∀ vs H Q E,sp vs H Q E->vs.length=ps.length
 run:∀(A:Around) (outer:List Env) (s:Shared) (H:Hp) (args:Args) (us:List Value) (vs:List V) (Q:VK) (E:XK),fh k A->LA P w K mg base A outer s H->BindsTo s fd args (ps.zip us)->Vals vs us->sp vs H Q E->
  codeAny (model P w) A (.call (.ref f) args) (CR CX outer P w H s Q E) s
section
variable {X:Cx}{pins:aV}{σ:St}{H:Hp}{s s' : Shared}
theorem Inv.UE(I:Inv X pins σ H s):LA X.prog X.w X.K X.mg X.base X.A X.stack s H :=
 ⟨I.ok.frames,I.ok.mod,I.bs,Nat.le_trans I.ok.Lq I.sz,I.stack,I.yh,I.hok,I.bare⟩
theorem Inv.after{Q:VK}{u:Value}(I:Inv X pins σ H s)(h:CE X.stack X.prog X.w H s Q u s'):EP X pins σ Q u s':=by
 obtain⟨v,H',os,bare,un,hok,r,q⟩:=h;obtain⟨hh,g,d,t,os'⟩:=s';obtain rfl:os' = s.os:=os;exact⟨v,H',I.call (h':=hh) (g':=g) (d':=d) (t':=t) (ch:=[]) un hok bare (fun b z=>absurd z (by simp)),r,q⟩
end
def M0(sp:Sp)(M3:List V)(E:XK)(t:TA):TE:=fun σ H Q=>t σ H fun vs H1=>sp (vs++M3) H1 Q E
def Binds(K:bK)(fd:FuncData)(ps:List Str)(ds:List Value):Prop :=
 ∀(s:Shared) (us:List Value),K.In s.heap->(us++ds).length=ps.length->BindsTo s fd ⟨us,[]⟩ (ps.zip (us++ds))
theorem Binds.all{K:bK}{fd:FuncData}{ps:List Str}(h:∀ us:List Value,us.length=ps.length->bindArgs fd ⟨us,[]⟩=pure (ps.zip us)):Binds K fd ps []:=fun s us _ hl=>by
 rw[List.append_nil]at hl ⊢;exact .of_eq (h us hl)
def Passes(CX:Hs)(X:Cx)(E:XK):Prop:=∀(pins:aV) (σ:St) (H:Hp) (s:Shared) (e:Value) (s' : Shared),Inv X pins σ H s->CX X.stack H s E e s'->X.xe e s'
section
variable {X:Cx}{CX:Hs}{k:Nat}{f C:Addr}{fd:FuncData}{ps:List Str}{sp:Sp}{M3:List V}{ds:List Value}{E:XK}{x m:Str}{p pos apos:Pos}{e o:Expr}{es:List Expr}{ta:TE}{t:TA}
theorem N3{pins:aV}{σ:St}{H:Hp}{s:Shared}{Q:VK}{us:List Value}{vs:List V}(F:lX X.prog X.w X.K X.mg X.base CX k f fd ps sp)(hr:fh k X.A)(hb:Binds X.K fd ps ds)(hd:Vals M3 ds)(hx:Passes CX X E)
 (I:Inv X pins σ H s) (r:Vals vs us) (h:sp (vs++M3) H Q E):wpAny (model X.prog X.w) X.A (call (.ref f) us) (EP X pins σ Q) X.xe s:=by
 have r2:Vals (vs++M3) (us++ds):=r.append hd;have hl:(us++ds).length=ps.length:=by rw[<-r2.length];exact F.len _ _ _ _ h
 refine wpAny_call (codeAny_mono (F.run X.A X.stack s H ⟨us,[]⟩ (us++ds) (vs++M3) Q E hr I.UE (hb s us I.zN hl) r2 h) fun r s' hq=>?_)
 cases r with
 | error e=>exact hx pins σ H s e s' I hq
 | ok fl =>
   cases fl with
   | ret u=>exact I.after hq
   | next=>exact False.elim hq
   | brk=>exact False.elim hq
   | cont=>exact False.elim hq
theorem LC(F:lX X.prog X.w X.K X.mg X.base CX k f fd ps sp)(hr:fh k X.A)(hg:Gl X x)(hm:X.mg x=some (.ref f))(hk:PySem.W.keepIn X.K (.ref f)=true)(hb:Binds X.K fd ps ds)(hd:Vals M3 ds)(hx:Passes CX X E)
 (ha:PA X (e::es) t) (hdb:(x==("__debug__":Str))=false:=by decide) (he:starEach (e::es) X.env=(false,eval e X.env)::starEach es X.env:=by rfl) (hpl:(backTo pos (starEach es X.env)).any (·.1)=false:=by rfl) :
 PE X (.Call (.Name x p) (e::es) [] pos) (M0 sp M3 E t):=by
 intro pins s σ H Q I h;refine wpAny_Call_Name_kw (DX I hg hm ?_ hdb);refine PySem.W.callWith_K (h₀:=X.base) I.ok.mod.Td hk (dB (ha pos pins s σ H _ I h) fun us s1 ⟨vs,H1,I1,r,q⟩=>⟨I1.zN,?_⟩) he hpl
 exact N3 F hr hb hd hx I1 r q
end
structure aD(N P:List Str)(sc:Scope):Prop where
 kind:sc.kind = .function
 co:sc.isCoroutine=false
 gen:sc.isGenerator=false
 nd:N.Nodup
 pre:N.take P.length=P
 par:∀ x∈P,sc.names.lookup x=some .local\/sc.names.lookup x=some .cell
 N4:∀ y∈sc.names,y.2≠.free
theorem wZ{kindOf:Str->Option NameKind}{x:Str}:∀{binds:List (Str×Value)} {m:lT},(∀ v,(x,v)∉binds)->bindL kindOf binds m x=m x
 | [],_,_=>rfl
 | (n,v)::r,m,h=>by
   unfold bindL;rw[wZ fun w hw=>h w (List.mem_cons_of_mem _ hw)]
   split
   ·have:x≠n:=by rintro rfl;exact h v List.mem_cons_self
    simp[this]
   ·rfl
theorem w4{kindOf:Str->Option NameKind}{x:Str}:∀{binds:List (Str×Value)} {m:lT},(∀ v,(x,v)∉binds)->bindC kindOf binds m x=m x
 | [],_,_=>rfl
 | (n,v)::r,m,h=>by
   unfold bindC;rw[w4 fun w hw=>h w (List.mem_cons_of_mem _ hw)]
   split
   ·rfl
   ·have:x≠n:=by rintro rfl;exact h v List.mem_cons_self
    simp[this]
theorem w5{kindOf:Str->Option NameKind}{x:Str}{v:Value}:∀{P:List Str} {vs:List Value} {i:Nat} {m:lT},P.Nodup->P[i]?=some x->vs[i]?=some v->kindOf x=some .local->
 bindL kindOf (P.zip vs) m x=some v
 | [],_,_,_,_,h,_,_=>by simp at h
 | _::_,[],_,_,_,_,h,_=>by simp at h
 | p::P,w::vs,0,m,nd,h1,h2,hk=>by
   simp at h1 h2;subst h1;subst h2;show bindL kindOf ((p,w)::P.zip vs) m p=_;unfold bindL;rw[wZ fun v hv=>(List.nodup_cons.mp nd).1 (List.of_mem_zip hv).1,if_pos hk]
   simp
 | p::P,w::vs,i+1,m,nd,h1,h2,hk=>by
   show bindL kindOf ((p,w)::P.zip vs) m x=_;unfold bindL;exact w5 (i:=i) (List.nodup_cons.mp nd).2 (by simpa using h1) (by simpa using h2) hk
theorem w6{kindOf:Str->Option NameKind}{x:Str}{v:Value}:∀{P:List Str} {vs:List Value} {i:Nat} {m:lT},P.Nodup->P[i]?=some x->vs[i]?=some v->kindOf x≠some .local->
 bindC kindOf (P.zip vs) m x=some v
 | [],_,_,_,_,h,_,_=>by simp at h
 | _::_,[],_,_,_,_,h,_=>by simp at h
 | p::P,w::vs,0,m,nd,h1,h2,hk=>by
   simp at h1 h2;subst h1;subst h2;show bindC kindOf ((p,w)::P.zip vs) m p=_;unfold bindC;rw[w4 fun v hv=>(List.nodup_cons.mp nd).1 (List.of_mem_zip hv).1,if_neg hk]
   simp
 | p::P,w::vs,i+1,m,nd,h1,h2,hk=>by
   show bindC kindOf ((p,w)::P.zip vs) m x=_;unfold bindC;exact w6 (i:=i) (List.nodup_cons.mp nd).2 (by simpa using h1) (by simpa using h2) hk
def start(N:List Str)(vs:List V):St:=vs.map some++List.replicate (N.length-vs.length) none
def sH(CX:Hs)(P:Program)(w:World)(K:bK)(mg:lT)(base:Heap)(N:List Str)(qual:Str)(scope:Scope)(f:Addr)(cd:Value)(A:Around)(outer:List Env)(s:Shared)(H:Hp)(E:XK):Cx where
 prog:=P
 w:=w
 K:=K
 mg:=mg
 base:=base
 A:=A.deeper (envOfC qual scope s.heap.objs.size f cd)
 N:=N
 s₀:=s
 H₀:=H
 env:=envOfC qual scope s.heap.objs.size f cd
 outer:=outer
 stack:=envOfC qual scope s.heap.objs.size f cd::outer
 ex:=[]
 calm:=true
 fn:=fun _=>true
 pn:=[]
 xe:=fun e s'=>wpAny (model P w) (A.deeper (envOfC qual scope s.heap.objs.size f cd)) (leaving (envOfC qual scope s.heap.objs.size f cd) e) (fun _ s''=>CX outer H s E e s'') (fun e' s''=>CX outer H s E e' s'') s'
theorem zW{sc:Scope}{n:Nat}{x:Str}(h:sc.names.lookup x=some .cell):∃ c,(cellsFrom n sc.names []).lookup x=some c:=by
 have q:=PySem.W.cellsFrom_some sc.names n [] (.inl h);exact Option.isSome_iff_exists.mp q
theorem Fi{CX:Hs}{P:Program}{w:World}{K:bK}{mg:lT}{base:Heap}{N ps:List Str}{qual:Str}{scope:Scope}{f:Addr}{cd:Value}{A:Around}{outer:List Env}{s s1:Shared}{H:Hp}{E:XK}{us:List Value}{vs:List V}
 (S:aD N ps scope) (hd:A.handled=none) (e0:LA P w K mg base A outer s H) (hl:vs.length=ps.length) (r:Vals vs us)
 (x:InCallC s s.heap.objs.size (bindL (envOfC qual scope s.heap.objs.size f cd).kindOf (ps.zip us) fun _=>none) (cellsFrom (s.heap.objs.size+1) scope.names []) (bindC (envOfC qual scope s.heap.objs.size f cd).kindOf (ps.zip us) fun _=>none) s1) :
 Inv (sH CX P w K mg base N qual scope f cd A outer s H E) [] (start N vs) H s1:=by
 have hpl:ps.length<=N.length:=by have:=congrArg List.length S.pre;rw[List.length_take]at this;lia
 obtain⟨h1,tk,rfl,hk⟩:=x.done;have UG:∀ b:Addr,b∉(sH CX P w K mg base N qual scope f cd A outer s H E).ex:=fun b z=>absurd (show b∈([]:List Addr) from z) (by simp)
 refine⟨⟨e0.mod,S.kind,rfl,rfl,Nat.le_refl _,fun y z c h1 h2=>?_,fun y hy=>?_,fun y c _ h=>?_,fun _=>hd,Around.frames_deeper e0.frames,.inr ⟨rfl,rfl⟩,fun b z=>absurd z (UG b),e0.bs,e0.Lq,fun b _ _=>UG b,fun b z=>absurd z (UG b),e0.funs,e0.NP⟩,
  rfl,e0.bare,Un.kept hk,⟨_,x.toInCall.ns,fun i y v h1 h2 h3=>?_⟩,fun y c h=>⟨_,x.cell y c h⟩,e0.hok.fresh (Nat.le_refl _),fun y c h=>?_,fun p hp=>absurd (show p∈([]:aV) from hp) (by simp),e0.hok.kept hk,?_⟩
 ·exact name_of_addr x.apart (PySem.mem_of_lookup h1) (PySem.mem_of_lookup h2)
 ·have hy:scope.names.lookup y=some .cell\/scope.names.lookup y=some .free:=hy;rcases hy with hy|hy
  ·exact zW hy
  ·exact absurd rfl (S.N4 _ (PySem.mem_of_lookup hy))
 ·exact Nat.le_of_lt (x.above y c (PySem.mem_of_lookup h))
 ·have hi:i<vs.length:=by
   unfold start at h2
   by_cases hi:i<vs.length
   ·exact hi
   ·rw[List.getElem?_append_right (by simpa using hi)]at h2
    rw[List.getElem?_replicate]at h2
    split at h2<;>cases h2
  have ha:vs[i]?=some v:=by
   unfold start at h2;rw[List.getElem?_append_left (by simpa using hi),List.getElem?_map]at h2
   cases e:vs[i]? with
   | none=>rw[e]at h2;cases h2
   | some a=>rw[e]at h2;cases h2;rfl
  obtain⟨u,hu,rv⟩:=r.get ha;have hp:ps[i]?=some y:=by
   rw[<-S.pre,List.getElem?_take_of_lt (by lia)];exact h1
  have WE:ps.Nodup:=by rw[<-S.pre];exact S.nd.sublist (List.take_sublist _ _)
  refine⟨u,rv,?_⟩;rcases S.par y (List.mem_of_getElem? hp) with k|k
  ·exact .inl ⟨k,w5 WE hp hu k⟩
  ·obtain⟨c,e⟩:=zW (n:=s.heap.objs.size+1) k;refine .inr ⟨.inl k,c,e,?_⟩;have q:=x.cell y c e;rw[w6 WE hp hu (by show scope.names.lookup y≠_;rw[k];decide)]at q
   exact q
 ·exact e0.hok.fresh (Nat.le_of_lt (x.above y c (PySem.mem_of_lookup h)))
 ·unfold start;show _=N.length;rw[List.length_append,List.length_map,List.length_replicate]
  lia
theorem HS{CX:Hs}{P:Program}{w:World}{K:bK}{mg:lT}{base:Heap}{k:Nat}{f:Addr}{name qual:Str}{params:Arguments}{body:List Stmt}{scope:Scope}{dV kV doc pm cdv ct oc:Value}{an od:Option Addr}
 {osl:Array (Option Value)} {N ps:List Str} {sp:Sp} (lk:K.lookup f=some ⟨oc,od,.func (PySem.W.fnOf name qual params body scope dV kV doc pm an cdv ct),osl⟩) (hcd:PySem.W.codeIn K cdv qual=true) (S:aD N ps scope)
 (len:∀ vs H Q E,sp vs H Q E->vs.length=ps.length)
 (hbody:∀(A:Around) (outer:List Env) (s:Shared) (H:Hp) (vs:List V) (Q:VK) (E:XK),fh k (A.deeper (envOfC qual scope s.heap.objs.size f cdv))->sp vs H Q E->
  ∃ t,wQ (sH CX P w K mg base N qual scope f cdv A outer s H E) body t/\t { nx:=fun _ H'=>Q .eM H',rt:=Q} (start N vs) H) :
 lX P w K mg base CX (k+1) f (PySem.W.fnOf name qual params body scope dV kV doc pm an cdv ct) ps sp:=by
 refine⟨len,fun A outer s H args us vs Q E hr e0 hb r sI=>?_⟩
 have hl:=len _ _ _ _ sI;have KX:K.In s.heap:=e0.mod.Td.keeps fun b o e=>(e0.bs b o e).1
 have lim:s.heap.NoLimit:=e0.mod.nolimit.keeps fun b o e=>(e0.bs b o e).1
 have hkind:∀ y∈ps.zip us,scope.names.lookup y.1=some .local\/(scope.names.lookup y.1=some .cell/\((cellsFrom (s.heap.objs.size+1) scope.names []).lookup y.1).isSome=true):=fun⟨n,v⟩ hy=>by
  rcases S.par n (List.of_mem_zip hy).1 with q|q
  ·exact .inl q
  ·exact .inr ⟨q,PySem.W.cellsFrom_some _ _ _ (.inl q)⟩
 refine codeAny_call_function hr.depth (KX _ _ lk) rfl S.co S.gen rfl (PySem.W.codeRec_of KX hcd) (hb _ _ _ _ ?_);refine wpAny_newFunctionEnv_cells S.kind hkind fun env he s1 x=>?_
 subst he;refine⟨lim.keeps x.toInCall.keep,codeAny_func ?_⟩;obtain⟨t,ht,hq⟩:=hbody A outer s H vs Q E (hr.deeper _) sI;have I:Inv (sH CX P w K mg base N qual scope f cdv A outer s H E) [] (start N vs) H s1:=Fi S hr.hd e0 hl r x;refine wpAny_mono (ht [] s1 (start N vs) H _ I hq) (fun fl s' hs=>?_) fun e s' hs=>hs
 have fin:∀{σ' : St} {H' : Hp} {v:V} {u:Value},Inv (sH CX P w K mg base N qual scope f cdv A outer s H E) [] σ' H' s'->RelV v u->Q v H'->CE outer P w H s Q u s' :=
  fun {σ' H' v u} J rv q=>⟨v,H',J.os,J.bare,J.base,J.hok,rv,q⟩
 cases fl with
 | ret u =>
   obtain⟨v,σ',H',J,rv,q⟩:=hs;exact fin J rv q
 | next =>
   obtain⟨σ',H',J,q⟩:=hs;exact fin (v:=V.eM) (u:=Value.none) J rfl q
 | brk =>
   obtain⟨_,_,_,q⟩:=hs;exact False.elim q
 | cont =>
   obtain⟨_,_,_,q⟩:=hs;exact False.elim q
section
variable {X:Cx}{x:Str}{p pos:Pos}{e:Expr}{es:List Expr}{t:TA}{id T:String}{r:List V->Hp->VK->Prop}
def WG(r:List V->Hp->VK->Prop)(t:TA):TE:=fun σ H Q=>t σ H fun vs H1=>r vs H1 Q
theorem aF(hc:fC X (.builtin id) r)(hg:Gl X x)(hm:X.mg x=none)(hv:bootBuiltins x=some (.builtin id))(ha:PA X (e::es) t)(hn:x≠"__name__":=by decide)(hdb:(x==("__debug__":Str))=false:=by decide)
 (he:starEach (e::es) X.env=(false,eval e X.env)::starEach es X.env:=by rfl) (hpl:(backTo pos (starEach es X.env)).any (·.1)=false:=by rfl):PE X (.Call (.Name x p) (e::es) [] pos) (WG r t):=by
 intro pins s σ H Q I h;refine wpAny_Call_Name_kw (kH I hg hm hv ?_ hn hdb);exact PyProof.Rows.callWith_builtin1 (dB (ha pos pins s σ H _ I h) fun us s1 ⟨vs,H1,I1,r1,q1⟩=>hc pins s1 σ H1 vs us Q I1 r1 q1) he hpl
theorem cT(hc:fC X (.type T) r)(hg:Gl X x)(hm:X.mg x=none)(hv:bootBuiltins x=some (.type T))(ha:PA X (e::es) t)(hn:x≠"__name__":=by decide)(hdb:(x==("__debug__":Str))=false:=by decide)
 (he:starEach (e::es) X.env=(false,eval e X.env)::starEach es X.env:=by rfl) (hpl:(backTo pos (starEach es X.env)).any (·.1)=false:=by rfl):PE X (.Call (.Name x p) (e::es) [] pos) (WG r t):=by
 intro pins s σ H Q I h;refine wpAny_Call_Name_kw (kH I hg hm hv ?_ hn hdb);exact PyProof.Rows.callWith_type1 (dB (ha pos pins s σ H _ I h) fun us s1 ⟨vs,H1,I1,r1,q1⟩=>hc pins s1 σ H1 vs us Q I1 r1 q1) he hpl
end
end L2
namespace HT
open PySem PyProof.Rows
def lexLt:List Int->List Int->Bool
 | [],[]=>false
 | [],_::_=>true
 | _::_,[]=>false
 | x::xs,y::ys=>if x=y then lexLt xs ys else decide (x<y)
theorem gM(x y:Int)(xs ys:List Int):lexLt (x::xs) (y::ys)=if x=y then lexLt xs ys else decide (x<y):=rfl
theorem nL:lexLt [] []=false:=rfl
theorem tY(y:Int)(ys:List Int):lexLt [] (y::ys)=true:=rfl
theorem gq(x:Int)(xs:List Int):lexLt (x::xs) []=false:=rfl
theorem zX(A:Around)(s:Shared)(a:Int)(t:Tok)(c:Int)(u:Tok):∃ e,SeqAt.EqAt A s (.int a t) (.int c u) e/\(e=true↔a=c) :=
 ⟨(a==c),SeqAt.EqAt.int_int a t c u,by simp⟩
theorem HU(A:Around)(s:Shared)(a:Int)(t:Tok)(c:Int)(u:Tok)(prog:Program)(w:World)(E:dw)(Q:dw)(h:Q (.bool (decide (a<c))) s):
 wpAny (model prog w) A (richCompare .Lt (.int a t) (.int c u)) Q E s :=
 (PyProof.Rows.lt_int h:wpAny (model prog w) A (compareOp .Lt (.int a t) (.int c u)) Q E s)
section
open PySem.SeqAt
open PySem.AutoSeq1 (wpAny_loadPart')
open PySem.MeetsSeq PySem.MeetsSeq2 PySem.MeetsSeq3
theorem vP(l b:Addr)(items items2:Array Value)(n n2:Nat)(dd dd2:Option Addr)(sl sl2:Array (Option Value))(ns ms:List Int)(hi:IntsAre items.toList ns)(hj:IntsAre items2.toList ms):
 Meets (Builtin.«tuple.__lt__» ⟨[.ref l,.ref b],[]⟩)
  (fun _ R s=>s.heap.get? l=some { cls:=.type "tuple",dict:=dd,data:=.seq items n,slots:=sl}/\s.heap.get? b=some { cls:=.type "tuple",dict:=dd2,data:=.seq items2 n2,slots:=sl2}/\
   R (.ok (.ret (.bool (lexLt ns ms)))) s) :=
 .of_wp fun prog w A R s h=>by
  obtain⟨hp,g,d,tk,os⟩:=s;obtain⟨hl,hb,h⟩:=h;have f2:=AutoSeq1.sub_tuple_tuple;have z1:items.size=ns.length:=by rw[<-hi.length];simp
  have z2:items2.size=ms.length:=by rw[<-hj.length];simp
  wp_walk using wpAny_loadPart' hl,wpAny_loadPart' hb,wpAny_forIn_list _ (fun rest b s'=>b.1=none/\s' = ⟨hp,g,d,tk,os⟩/\∃(vs ws:List Value) (ns' ms' : List Int),rest=vs.zip ws/\
   IntsAre vs ns'/\IntsAre ws ms'/\ns'.length+items2.size=ms'.length+items.size/\R (.ok (.ret (.bool (lexLt ns' ms')))) ⟨hp,g,d,tk,os⟩) _
  case turn =>
   rintro⟨y,x⟩ rest b s' ⟨hb',rfl,vs,ws,ns',ms',hz,M4,hwi,hlen,hR⟩;cases M4 with
   | nil=>rw[List.zip_nil_left]at hz;cases hz
   | cons a t hvi' =>
     cases hwi with
     | nil=>rw[List.zip_nil_right]at hz;cases hz
     | cons c u hwi' =>
       rw[List.zip_cons_cons]at hz;injection hz with hyx hrest
       injection hyx with hy hx
       subst hy hx;rw[gM]at hR;simp only[List.length_cons]at hlen;obtain⟨e,he,HV⟩:=zX A.in1 ⟨hp,g,d,tk,os⟩ a t c u;refine wpAny_bind (he prog w _ _ ?_);cases e with
       | true =>
         rw[if_pos (HV.mp rfl)]at hR
         wp_walk
         exact⟨rfl,rfl,_,_,_,_,hrest,hvi',hwi',by lia,hR⟩
       | false =>
         rw[if_neg (fun q=>absurd (HV.mpr q) Bool.false_ne_true)]at hR
         have w9:=HU A.in1 ⟨hp,g,d,tk,os⟩ a t c u prog w
         wp_walk using w9
         exact⟨_,rfl,by simpa using hR⟩
  case fin =>
   rintro⟨b1,b2⟩ s' ⟨hb',rfl,vs,ws,ns',ms',hz,M4,hwi,hlen,hR⟩;simp only at hb';subst hb';have hv:lexLt ns' ms' = decide (items.size<items2.size):=by
    cases M4 with
    | nil =>
      cases hwi with
      | nil =>
        simp only[List.length_nil]at hlen;rw[nL];exact(decide_eq_false (by lia)).symm
      | cons c u hw =>
        simp only[List.length_nil,List.length_cons]at hlen;rw[tY];exact(decide_eq_true (by lia)).symm
    | cons a t hv =>
      cases hwi with
      | nil =>
        simp only[List.length_nil,List.length_cons]at hlen;rw[gq];exact(decide_eq_false (by lia)).symm
      | cons c u hw =>
        rw[List.zip_cons_cons]at hz;cases hz
   rw[hv]at hR
   wp_walk
   exact⟨_,rfl,by simpa[Builtin.Tuple.tupleCompareSizes]using hR⟩
  case h =>
   exact⟨rfl,rfl,items.toList,items2.toList,ns,ms,rfl,hi,hj,by lia,h⟩
end
section
variable {prog:Program}{w:World}{A:Around}{E:dw}{s:Shared}
theorem Cd{l b:Addr}{items items2:Array Value}{ns ms:List Int}{Q:dw}(hl:IsTup s.heap l items)(hb:IsTup s.heap b items2)(hi:IntsAre items.toList ns)(hj:IntsAre items2.toList ms)
 (hu:A.units<cLine) (h:Q (.bool (lexLt ns ms)) s):wpAny (model prog w) A (compareOp .Lt (.ref l) (.ref b)) Q E s:=by
 obtain⟨⟨cls,dd,data,sl⟩,ho,hc,n,hd⟩:=id hl;obtain⟨⟨UH,dd2,data2,sl2⟩,ho2,hc2,n2,hd2⟩:=id hb;simp only at hc hd hc2 hd2;subst hc hd hc2 hd2;exact richCompare_meets_room (op:=.Lt) ⟨_,ho,rfl⟩ ⟨_,ho2,rfl⟩ PySem.F.slot_tuple_lt PySem.F.entry_tuple_lt (PySem.F.args_tuple_lt_2 _ _) (vP l b items items2 n n2 dd dd2 sl sl2 ns ms hi hj)
  ⟨ho,ho2,show Value.bool (lexLt ns ms)≠Value.notImplemented/\Q (.bool (lexLt ns ms)) s from⟨(fun x=>nomatch x),h⟩⟩ hu
def eN(n d:Nat):Option Int->Nat
 | none=>d
 | some v=>if v<0 then(v+(n:Int)).toNat else min v.toNat n
theorem HW(n d:Nat):eN n d none=d:=rfl
theorem LD(n d k:Nat):eN n d (some (k:Int))=min k n:=by
 show(if(k:Int)<0 then((k:Int)+(n:Int)).toNat else min (k:Int).toNat n)=min k n
 rw[if_neg (by lia),Int.toNat_natCast]
theorem N5(n d:Nat)(hd:d<=n)(o:Option Int):eN n d o<=n:=by
 cases o with
 | none=>exact hd
 | some v =>
   show(if v<0 then(v+(n:Int)).toNat else min v.toNat n)<=n
   by_cases hv:v<0
   ·rw[if_pos hv];lia
   ·rw[if_neg hv];exact Nat.min_le_right _ _
theorem Ea(v:Int)(n d:Nat):(if v<0 then max (v+(n:Int)) 0 else min v (n:Int))=((eN n d (some v):Nat):Int):=by
 show(if v<0 then max (v+(n:Int)) 0 else min v (n:Int))=(((if v<0 then(v+(n:Int)).toNat else min v.toNat n):Nat):Int)
 by_cases hv:v<0
 ·simp only[if_pos hv];lia
 ·simp only[if_neg hv];lia
theorem Ce(lo hi:Option Int)(n:Nat):Builtin.Slice.sliceAdjust lo hi 1 (n:Int)=(((eN n 0 lo:Nat):Int),((eN n n hi:Nat):Int)):=by
 have h1 : ¬((1:Int)<0):=by lia
 unfold Builtin.Slice.sliceAdjust;simp only[h1,if_false];refine Prod.ext ?_ ?_
 ·cases lo with
  | none=>rfl
  | some v=>exact Ea v n 0
 ·cases hi with
  | none=>rfl
  | some v=>exact Ea v n n
theorem Cf(i j:Nat):Builtin.Slice.slicePlaces (i:Int) (j:Int) 1=j-i:=by
 unfold Builtin.Slice.slicePlaces;have h1:(1:Int) > 0:=by lia
 simp only[h1,if_true,Int.ediv_one]
 split<;>lia
theorem tZ{v:Value}{o:Option Int}{Q:Option Int->Shared->Prop}(p:IsPart v o)(h:Q o s):wpAny (model prog w) A (Builtin.Slice.slicePartIndex v) Q E s:=by
 cases p with
 | none=>exact slicePart_none h
 | int i t=>exact slicePart_int h
theorem j8{sl:Addr}{vl vu:Value}{lo hi:Option Int}{n:Nat}{Q:Int×Int×Nat->Shared->Prop}(hs:s.heap.IsSliceOf sl vl vu .none)(pl:IsPart vl lo)(pu:IsPart vu hi)
 (h:Q (((eN n 0 lo:Nat):Int),1,eN n n hi-eN n 0 lo) s):wpAny (model prog w) A (Builtin.Slice.sliceApplied (.ref sl) (pure (n:Int))) Q E s:=by
 obtain⟨os,hos,hcs,hds⟩:=id hs;unfold Builtin.Slice.sliceApplied Builtin.Slice.sliceFields;refine wpAny_bind (wpAny_bind (wpAny_field hos hds (x:=vl) rfl (wpAny_bind (wpAny_field hos hds (x:=vu) rfl (wpAny_bind (wpAny_field hos hds (x:=.none) rfl (wpAny_pure ?_)))))));refine wpAny_bind (slicePart_none ?_);show wpAny _ _ (if((1:Int)==0)=true then _ else _) _ _ s
 rw[if_neg (by decide)]
 refine wpAny_bind (tZ pl (wpAny_bind (tZ pu (wpAny_bind (wpAny_pure ?_)))));show wpAny _ _ (match Builtin.Slice.sliceAdjust lo hi 1 (n:Int) with | (lo,hi)=>pure (lo,(1:Int),Builtin.Slice.slicePlaces lo hi 1)) _ _ s
 rw[Ce lo hi n];show wpAny _ _ (pure (((eN n 0 lo:Nat):Int),(1:Int),Builtin.Slice.slicePlaces ((eN n 0 lo:Nat):Int) ((eN n n hi:Nat):Int) 1)) _ _ s;rw[Cf];exact wpAny_pure h
theorem HX(xs:Array Value)(i k:Nat):((List.range k).filterMap fun(m:Nat)=>xs[((i:Int)+(m:Int)*1).toNat]?).toArray=((xs.toList.drop i).take k).toArray:=by
 have e:(fun(m:Nat)=>xs[((i:Int)+(m:Int)*1).toNat]?)=fun m=>xs[i+m]?:=by
  funext m
  have:((i:Int)+(m:Int)*1).toNat=i+m:=by lia
  rw[this]
 rw[e];have:=pick_run xs i k;rw[List.filterMap_map]at this;have e2:((fun x=>xs[x]?)∘fun x=>i+x)=fun m=>xs[i+m]?:=rfl
 rw[e2]at this;rw[this]
theorem o4{t sl:Addr}{items:Array Value}{vl vu:Value}{lo hi:Option Int}{Q:dw}(ht:IsTup s.heap t items)(hs:s.heap.IsSliceOf sl vl vu .none)(pl:IsPart vl lo)(pu:IsPart vu hi)
 (hw : ¬(eN items.size 0 lo=0/\eN items.size items.size hi=items.size))
 (h:Q (.ref s.heap.objs.size) { s with heap:=s.heap.push { cls:=.type "tuple",data:=.seq ((items.toList.drop (eN items.size 0 lo)).take (eN items.size items.size hi-eN items.size 0 lo)).toArray}})
 (hsz:items.size<=sizeLine):wpAny (model prog w) A (getItem (.ref t) (.ref sl)) Q E s:=by
 have Eb:sizeOk (.seq ((items.toList.drop (eN items.size 0 lo)).take (eN items.size items.size hi-eN items.size 0 lo)).toArray):=by
  show((items.toList.drop (eN items.size 0 lo)).take (eN items.size items.size hi-eN items.size 0 lo)).toArray.size<=sizeLine;rw[List.size_toArray,List.length_take,List.length_drop,Array.length_toList]
  lia
 have hj:eN items.size items.size hi<=items.size:=N5 _ _ (Nat.le_refl _) hi;obtain⟨os,hos,hcs,hds⟩:=id hs;have UI:s.TypeIs (.ref sl) "slice":=⟨os,hos,hcs⟩;unfold getItem
 try with_reducible refine wpAny_holding ?_
 first | refine wpAny_bind (wpAny_pure ?_) | skip
 refine wpAny_bind (wpAny_sequenceKey ht.typeIs (by decide) ?_)
 refine wpAny_bind (wpAny_callSpecial?_slot (name:=Str.ofString "__getitem__") ht.typeIs PyProof.Rows.slot_tuple_getitem
  (wpAny_call_entry PyProof.Rows.slot_tuple_getitem ht.typeIs entry_tuple_getitem ?_ (args_tuple_getitem _ _)))
 show wpAny _ _ (Builtin.Tuple.tupleItemsOf (.ref t) >>= _) _ _ s;refine wpAny_bind (tupleItemsOf_ ht ?_);refine wpAny_bind (wpAny_typeOf UI ?_);rw[if_pos (by decide)]
 refine wpAny_bind (j8 hs pl pu ?_);have hno : ¬((((eN items.size 0 lo:Nat):Int)==0&&(1:Int)==1&&(eN items.size items.size hi-eN items.size 0 lo)==items.size)=true):=by
  intro q;rw[Bool.and_eq_true,Bool.and_eq_true]at q;have q1:((eN items.size 0 lo:Nat):Int)=0:=eq_of_beq q.1.1;have q2:eN items.size items.size hi-eN items.size 0 lo=items.size:=eq_of_beq q.2;exact hw ⟨by lia,by lia⟩
 show wpAny _ _ (if(((eN items.size 0 lo:Nat):Int)==0&&(1:Int)==1&&(eN items.size items.size hi-eN items.size 0 lo)==items.size)=true then _ else _) _ _ s
 rw[if_neg hno,HX]
 first
  | exact wpAny_bind (m:=Builtin.Tuple.tupleExact _) (wpAny_newObj_type (wpAny_pure ⟨_,rfl,wpAny_pure h⟩) Eb)
  | exact wpAny_bind (m:=Builtin.Tuple.tupleExact _) (wpAny_newObj_type (wpAny_bind (wpAny_pure (wpAny_pure ⟨_,rfl,wpAny_pure h⟩))) Eb)
  | exact wpAny_bind (wpAny_bind (m:=Builtin.Tuple.tupleExact _) (wpAny_newObj_type (wpAny_pure (wpAny_pure ⟨_,rfl,wpAny_pure h⟩)) Eb))
  | exact wpAny_bind (wpAny_bind (m:=Builtin.Tuple.tupleExact _) (wpAny_newObj_type (wpAny_pure ⟨_,rfl,wpAny_pure h⟩) Eb))
end
end HT
namespace L2
open PySem PySem.Spec PyProof.Rows
abbrev TO:=St->Hp->(Option Int->Hp->Prop)->Prop
def PO(X:Cx)(e:Option Expr)(t:TO):Prop :=
 ∀(pins:aV) (s:Shared) (σ:St) (H:Hp) (Q:Option Int->Hp->Prop),Inv X pins σ H s->t σ H Q->
  wpAny (model X.prog X.w) X.A (evalPart e X.env) (fun u s'=>∃ o H',Inv X pins σ H' s'/\IsPart u o/\Q o H') X.xe s
def LF:TO:=fun _ H Q=>Q none H
def Q0(t:TE):TO:=fun σ H Q=>t σ H fun x H1=>∃ i,x = .int i/\Q (some i) H1
theorem intsAre_of{ns:List Int}:∀{us:List Value},Vals (ns.map V.int) us->IntsAre us ns:=by
 induction ns with
 | nil=>intro us r;rw[List.map_nil]at r;cases r;exact .nil
 | cons n ns ih =>
   intro us r;rw[List.map_cons]at r;cases r with
   | cons r1 r2 =>
     obtain⟨t,e⟩:=r1;subst e;exact .cons n t (ih r2)
section
variable {X:Cx}{e:Expr}{te:TE}{lo hi:Option Expr}{tl th:TO}{pos p2:Pos}
theorem sY:PO X none LF:=by
 intro pins s σ H Q I h;rw[evalPart_none];exact wpAny_pure ⟨none,H,I,.none,h⟩
theorem sZ(h:PE X e te):PO X (some e) (Q0 te):=by
 intro pins s σ H Q I hw;rw[evalPart_some];refine dB (h pins s σ H _ I hw) fun u s1 ⟨x,H1,I1,r1,q1⟩=>?_
 obtain⟨i,rfl,q⟩:=q1;obtain⟨t,rfl⟩:=r1;exact⟨some i,H1,I1,.int i t,q⟩
def Tn(X:Cx)(r:V->Option Int->Option Int->Hp->VK->Prop):Prop :=
 ∀(pins:aV) (s:Shared) (σ:St) (H:Hp) (x:V) (v vl vu:Value) (lo hi:Option Int) (sl:Addr) (Q:VK),Inv X pins σ H s->RelV x v->s.heap.IsSliceOf sl vl vu .none->IsPart vl lo->IsPart vu hi->r x lo hi H Q->
  ∃ T id,typeLookup (.type T) "__getitem__"=pure (some (.builtin id))/\s.TypeIs v T/\wpAny (model X.prog X.w) X.A (getItem v (.ref sl)) (EP X pins σ Q) X.xe s
def Zl(r:V->Option Int->Option Int->Hp->VK->Prop)(te:TE)(tl th:TO):TE:=fun σ H Q=>te σ H fun x H1=>tl σ H1 fun l H2=>th σ H2 fun u H3=>r x l u H3 Q
theorem o5{r:V->Option Int->Option Int->Hp->VK->Prop}(hr:Tn X r)(he:PE X e te)(hl:PO X lo tl)(hu:PO X hi th):PE X (.Subscript e (.Slice lo hi none p2) pos) (Zl r te tl th):=by
 intro pins s σ H Q I h;refine Subscript_ (dB (he pins s σ H _ I h) fun v s1 ⟨x,H1,I1,r1,q1⟩=>?_)
 refine wpAny_Slice (dB (hl pins s1 σ H1 _ I1 q1) fun vl s2 ⟨l,H2,I2,pl,q2⟩=>dB (hu pins s2 σ H2 _ I2 q2) fun vu s3 ⟨u,H3,I3,pu,q3⟩=>?_)
 rw[evalPart_none];refine wpAny_pure ?_;have I4:Inv X pins σ H3 { s3 with heap:=s3.heap.push { cls:=.type "slice",data:=.fields #[vl,vu,.none]}}:=I3.kept (t':=s3.toks) fun b ob q=>Heap.get?_push_of_some _ q
 obtain⟨T,id,hT,ht,hg⟩:=hr pins { s3 with heap:=s3.heap.push { cls:=.type "slice",data:=.fields #[vl,vu,.none]}} σ H3 x v vl vu l u s3.heap.objs.size Q I4 r1 (Heap.IsSliceOf.new ..) pl pu q3
 show wpAny (model X.prog X.w) X.A (subscriptTail e (.Slice lo hi none p2) v (.ref s3.heap.objs.size)) (EP X pins σ Q) X.xe { s3 with heap:=s3.heap.push { cls:=.type "slice",data:=.fields #[vl,vu,.none]}}
 exact tail_any (ops:=[.ref s3.heap.objs.size,v]) ht hT hg (by with_unfolding_all rfl)
def qm(xs:List V)(lo hi:Option Int):List V:=(xs.drop (HT.eN xs.length 0 lo)).take (HT.eN xs.length xs.length hi-HT.eN xs.length 0 lo)
theorem r6(xs:List V)(lo hi:Option Int):(qm xs lo hi).length<=xs.length:=by
 unfold qm;rw[List.length_take,List.length_drop]
 lia
end
def LG(n:Nat)(i:Int):Option Nat:=if 0<=i then(if i<n then some i.toNat else none) else if -(n:Int)<=i then some (i+n).toNat else none
def Ht{α:Type}(xs:List α)(i:Int):Option α:=(LG xs.length i).bind fun j=>xs[j]?
theorem Ec{n:Nat}{i:Int}{j:Nat}(h:LG n i=some j):seqIndex? i n=some j/\j<n/\-(n:Int)<=i/\i<n:=by
 unfold LG at h
 by_cases h0:0<=i
 ·rw[if_pos h0]at h
  by_cases h1:i<n
  ·rw[if_pos h1]at h;have e:i.toNat=j:=Option.some.inj h;exact⟨by rw[seqIndex_of h0 h1,e],by lia,by lia,h1⟩
  ·rw[if_neg h1]at h;cases h
 ·rw[if_neg h0]at h
  by_cases h1 : -(n:Int)<=i
  ·rw[if_pos h1]at h;have e:(i+n).toNat=j:=Option.some.inj h;exact⟨by rw[seqIndex_neg (by lia) h1,e],by lia,h1,by lia⟩
  ·rw[if_neg h1]at h;cases h
theorem Ed{α:Type}{xs:List α}{i:Int}{v:α}(h:Ht xs i=some v):∃ j,seqIndex? i xs.length=some j/\xs[j]?=some v/\j<xs.length/\-(xs.length:Int)<=i/\i<xs.length:=by
 unfold Ht at h;cases e:LG xs.length i with
 | none=>rw[e]at h;cases h
 | some j =>
   rw[e]at h;obtain⟨h1,h2,h3,h4⟩:=Ec e;exact⟨j,h1,h,h2,h3,h4⟩
theorem ak{α:Type}{xs:List α}{j:Nat}{v:α}(h:xs[j]?=some v):Ht xs (j:Int)=some v:=by
 have hj:j<xs.length:=(List.getElem?_eq_some_iff.mp h).1;have e:LG xs.length (j:Int)=some j:=by
  unfold LG;rw[if_pos (by lia),if_pos (by lia)];simp
 unfold Ht;rw[e];exact h
def Ef(b:Expr):Prop:=∀ o i,subscripted b false o i=operate [o,i] (getItem o i)
def P9(X:Cx)(r:R2):Prop :=
 ∀(value slice:Expr) (pins:aV) (s:Shared) (σ:St) (H:Hp) (x y:V) (v u:Value) (Q:VK),Inv X pins σ H s->RelV x v->RelV y u->r x y H Q->
  subscripted slice false v u=operate [v,u] (getItem v u)->wpAny (model X.prog X.w) X.A (subscriptTail value slice v u) (EP X pins σ Q) X.xe s
def UJ(X:Cx)(id:String)(r:V->List V->Hp->VK->Prop):Prop :=
 ∀(pins:aV) (s:Shared) (σ:St) (H:Hp) (x:V) (xs:List V) (v:Value) (us:List Value) (Q:VK),Inv X pins σ H s->RelV x v->Vals xs us->r x xs H Q->
  wpAny (model X.prog X.w) X.A (call (.builtin id) (v::us)) (EP X pins σ Q) X.xe s
section
variable {X:Cx}{a b:Expr}{ta tb:TE}{pos:Pos}
theorem Q2{r:R2}(hr:P9 X r)(ha:PE X a ta)(hb:PE X b tb)(hs:Ef b):PE X (.Subscript a b pos) (QV r ta tb):=by
 intro pins s σ H Q I h;exact Subscript_ (NW ha hb I h fun v u s2 x y H2 I2 rx ry q=>hr a b pins s2 σ H2 x y v u Q I2 rx ry q (hs _ _))
def Q3(K:bK):R2:=fun x y H Q=>∃ p xs i v,x = .ref p/\y = .int i/\aO K H p xs/\Ht xs i=some v/\Q v H
def Q4(K:bK):R2:=fun x y H Q=>∃ p xs i v,x = .ref p/\y = .int i/\aP K H p xs/\Ht xs i=some v/\Q v H
theorem LH:P9 X (Q3 X.K):=by
 intro value slice pins s σ H x y v u Q I rx ry h hs;obtain⟨p,xs,i,z,rfl,rfl,hq,he,q⟩:=h;cases rx;obtain⟨t,rfl⟩:=ry;obtain⟨its,r,pl,hz⟩:=I.list hq;obtain⟨j,h1,h2,h3,h4,h5⟩:=Ed he;obtain⟨w,ew,rw'⟩:=r.get h2;have hl:=r.length;have hn:=tX;have fin:EP X pins σ Q w s:=⟨z,H,I,rw',q⟩
 by_cases h0:0<=i
 ·have hj:i.toNat=j:=by
   rw[seqIndex_of h0 h5]at h1;exact Option.some.inj h1
  exact item_listR pl.isList h0 (by lia) (by rw[hj];simpa using ew) fin hs
 ·have hj:(i+(its.toArray.size:Int)).toNat=j:=by
   rw[seqIndex_neg (by lia) h4]at h1
   rw[List.size_toArray,<-hl];exact Option.some.inj h1
  exact subscriptTail_builtinR (x:=w) pl.isList.typeIs slot_list_getitem.lookup
   (wpAny_getItem_list_neg (Q:=fun r s'=>r=w/\EP X pins σ Q r s') pl.isList (by lia) (by rw[List.size_toArray]<;>lia) (by lia) (by rw[hj];simpa using ew) ⟨rfl,fin⟩) hs
theorem N6:P9 X (Q4 X.K):=by
 intro value slice pins s σ H x y v u Q I rx ry h hs;obtain⟨p,xs,i,z,rfl,rfl,hq,he,q⟩:=h;cases rx;obtain⟨t,rfl⟩:=ry;obtain⟨its,r,pl,hz⟩:=I.tuple hq;obtain⟨j,h1,h2,h3,h4,h5⟩:=Ed he;obtain⟨w,ew,rw'⟩:=r.get h2;have hl:=r.length;have hn:=tX;have fin:EP X pins σ Q w s:=⟨z,H,I,rw',q⟩;exact subscriptTail_builtinR (x:=w) pl.typeIs slot_tuple_getitem.lookup
  (getItem_tuple (j:=j) (Q:=fun r s'=>r=w/\EP X pins σ Q r s') pl (by lia) (by lia) (by rw[List.size_toArray,<-hl];exact h1) (by simpa using ew) ⟨rfl,fin⟩) hs
theorem Cg(its:List Value)(n j:Nat)(u:Value):Obj.mapSeq (·.setIfInBounds j u) { cls:=.type "list",data:=.seq its.toArray n}={ cls:=.type "list",data:=.seq (its.set j u).toArray n}:=by
 simp[Obj.mapSeq]
theorem Inv.lst{pins:aV}{σ:St}{H:Hp}{s:Shared}{p:Addr}{xs:List V}(I:Inv X pins σ H s)(h:H p=some (.lst xs)):
 ∃(its:List Value) (n:Nat),Vals xs its/\s.heap.get? p=some { cls:=.type "list",data:=.seq its.toArray n}/\xs.length<=sizeLine:=by
 obtain⟨z,its,n,r,e⟩:=I.hok p _ h;exact⟨its,n,r,e,z⟩
theorem Inv.N7{pins:aV}{σ:St}{H:Hp}{s:Shared}{p:Addr}{xs ys:List V}{its its' : List Value}{n n' : Nat}{f:Obj->Obj}(I:Inv X pins σ H s)(h:H p=some (.lst xs))
 (ho:s.heap.get? p=some { cls:=.type "list",data:=.seq its.toArray n}) (hf:f { cls:=.type "list",data:=.seq its.toArray n}={ cls:=.type "list",data:=.seq its'.toArray n'}) (r:Vals ys its') (hz:ys.length<=sizeLine) (t:Nat) :
 Inv X pins σ (upd H p (.lst ys)) { s with heap:=s.heap.update p f,toks:=t}:=by
 have e:(s.heap.update p f).get? p=some { cls:=.type "list",data:=.seq its'.toArray n'}:=by
  rw[Heap.get?_update_self f ho (by rw[hf]<;>rfl),hf]
 refine I.write (x:=p) (e:=p) (by rw[h];trivial) (.inl rfl) (fun b u hb q=>(Heap.get?_update_other _ _ (Ne.symm hb)).trans q) ⟨_,e⟩ ?_
 exact⟨hz,its',n',r,e⟩
def Q5:V->V->V->Hp->(Hp->Prop)->Prop:=fun o i v H Q=>∃ p xs k j,o = .ref p/\i = .int k/\H p=some (.lst xs)/\LG xs.length k=some j/\Q (upd H p (.lst (xs.set j v)))
theorem set_list:NT X Q5:=by
 intro pins s σ H o i v ov iv u Q I ro ri rv h;obtain⟨p,xs,k,j,rfl,rfl,hp,hj,q⟩:=h;cases ro;obtain⟨t,rfl⟩:=ri;obtain⟨its,n,r,ho,hz⟩:=I.lst hp;obtain⟨h1,h2,h3,h4⟩:=Ec hj;have hl:=r.length;have hn:=tX;have I' : Inv X pins σ (upd H p (.lst (xs.set j v))) { s with heap:=s.heap.update p (Obj.mapSeq (·.setIfInBounds j u))} :=
  I.N7 hp ho (Cg its n j u) (r.set rv j) (by rw[List.length_set];exact hz) s.toks
 by_cases h0:0<=k
 ·have hk:k.toNat=j:=by
   rw[seqIndex_of h0 h4]at h1;exact Option.some.inj h1
  exact PySem.W.ki_setAt ho h0 (by lia) (by rw[List.size_toArray,<-hl];exact h4) (by rw[hk];exact⟨_,I',q⟩)
 ·have hk:(k+(its.toArray.size:Int)).toNat=j:=by
   rw[seqIndex_neg (by lia) h3]at h1
   rw[List.size_toArray,<-hl];exact Option.some.inj h1
  exact PySem.W.ki_setBack ho (by lia) (by rw[List.size_toArray,<-hl];exact h3) (by lia) (by rw[hk];exact⟨_,I',q⟩)
theorem yn(lo hi:Option Int)(n:Nat):(sliceBounds lo hi none n).1=((HT.eN n 0 lo:Nat):Int)/\(sliceBounds lo hi none n).2.1=((HT.eN n n hi:Nat):Int)/\(sliceBounds lo hi none n).2.2=1:=by
 refine⟨?_,?_,rfl⟩
 ·cases lo with
  | none=>simp[sliceBounds,HT.eN]
  | some i =>
    simp only[sliceBounds,HT.eN,Option.getD_none,show(1:Int) > 0 by decide,if_true]
    by_cases h:i<0
    ·simp only[h,if_true]<;>lia
    ·simp only[h,if_false]<;>lia
 ·cases hi with
  | none=>simp[sliceBounds,HT.eN]
  | some i =>
    simp only[sliceBounds,HT.eN,Option.getD_none,show(1:Int) > 0 by decide,if_true]
    by_cases h:i<0
    ·simp only[h,if_true]<;>lia
    ·simp only[h,if_false]<;>lia
theorem vQ(its:List Value)(lo hi:Option Int):slicePick its.toArray lo hi none=((its.drop (HT.eN its.length 0 lo)).take (HT.eN its.length its.length hi-HT.eN its.length 0 lo)).toArray:=by
 obtain⟨h1,h2,h3⟩:=yn lo hi its.toArray.size;unfold slicePick;rw[h1,h2,h3];simp only[sliceRange_one,pick_run,List.size_toArray]<;>rfl
def Q6(K:bK):V->Option Int->Option Int->Hp->VK->Prop:=fun x lo hi H Q=>∃ a xs,x = .ref a/\aO K H a xs/\∀ p,H p=none->Q (.ref p) (upd H p (.lst (qm xs lo hi)))
theorem LI:Tn X (Q6 X.K):=by
 intro pins s σ H x v vl vu lo hi sl Q I rx hs pl pu h;obtain⟨a,xs,rfl,hx,q⟩:=h;cases rx;obtain⟨its,r,ht,hz⟩:=I.list hx;have hlen:=r.length;refine⟨"list",_,slot_list_getitem.lookup,ht.isList.typeIs,?_⟩;refine wpAny_getItem_list_slice ht.isList hs pl pu .none (by simp) ?_ (by rw[List.size_toArray]<;>lia)
 rw[vQ,<-hlen];refine⟨.ref s.heap.objs.size,_,I.laid (t':=s.toks) (o:=.lst (qm xs lo hi)) (fun b ob q=>Heap.get?_push_of_some _ q) (Nat.le_refl _) ?_,rfl,q _ (I.hok.fresh (Nat.le_refl _))⟩
 exact⟨Nat.le_trans (r6 xs lo hi) hz,_,0,(r.drop (HT.eN xs.length 0 lo)).take (HT.eN xs.length xs.length hi-HT.eN xs.length 0 lo),Heap.get?_push_size _ rfl⟩
def o6:V->Bool
 | .eM=>true
 | .bl _=>true
 | .int _=>true
 | .str _=>true
 | _=>false
def LJ:V->V->Bool
 | .eM,.eM=>true
 | .bl a,.bl b=>a==b
 | .bl a,.int b=>(if a then 1 else 0)==b
 | .int a,.bl b=>a==(if b then 1 else 0)
 | .int a,.int b=>a==b
 | .str a,.str b=>a==b
 | _,_=>false
theorem N8{A:Around}{s:Shared}{y x:V}{u v:Value}(ry:RelV y u)(rx:RelV x v)(fy:o6 y=true)(fx:o6 x=true):SeqAt.EqAt A s u v (LJ y x):=by
 cases y with
 | eM =>
   cases ry;cases x with
   | eM=>cases rx;exact SeqAt.EqAt.same _
   | bl b=>cases rx;exact SeqAt.EqAt.none_bool b
   | int b=>obtain⟨t,rfl⟩:=rx;exact SeqAt.EqAt.none_int b t
   | str b=>obtain⟨t,rfl⟩:=rx;exact SeqAt.EqAt.none_str b t
   | _=>exact absurd (show false=true from fx) Bool.false_ne_true
 | bl a =>
   cases ry;cases x with
   | eM=>cases rx;exact SeqAt.EqAt.bool_none a
   | bl b=>cases rx;exact SeqAt.EqAt.bool_bool a b
   | int b=>obtain⟨t,rfl⟩:=rx;exact SeqAt.EqAt.bool_int a b t
   | str b=>obtain⟨t,rfl⟩:=rx;exact SeqAt.EqAt.bool_str a b t
   | _=>exact absurd (show false=true from fx) Bool.false_ne_true
 | int a =>
   obtain⟨t',rfl⟩:=ry;cases x with
   | eM=>cases rx;exact SeqAt.EqAt.int_none a t'
   | bl b=>cases rx;exact SeqAt.EqAt.int_bool a t' b
   | int b=>obtain⟨t,rfl⟩:=rx;exact SeqAt.EqAt.int_int a t' b t
   | str b=>obtain⟨t,rfl⟩:=rx;exact SeqAt.EqAt.int_str a t' b t
   | _=>exact absurd (show false=true from fx) Bool.false_ne_true
 | str a =>
   obtain⟨t',rfl⟩:=ry;cases x with
   | eM=>cases rx;exact SeqAt.EqAt.str_none a t'
   | bl b=>cases rx;exact SeqAt.EqAt.str_bool a t' b
   | int b=>obtain⟨t,rfl⟩:=rx;exact SeqAt.EqAt.str_int a t' b t
   | str b=>obtain⟨t,rfl⟩:=rx;exact SeqAt.EqAt.str_str a t' b t
   | _=>exact absurd (show false=true from fx) Bool.false_ne_true
 | _=>exact absurd (show false=true from fy) Bool.false_ne_true
def Ci(x:V)(u:Value):Bool:=match u with
 | .none=>LJ .eM x
 | .bool b=>LJ (.bl b) x
 | .int i _=>LJ (.int i) x
 | .str z _=>LJ (.str z) x
 | _=>false
theorem HY{x y:V}{u:Value}(r:RelV y u)(f:o6 y=true):Ci x u=LJ y x:=by
 cases y with
 | eM=>cases r;rfl
 | bl b=>cases r;rfl
 | int i=>obtain⟨t,rfl⟩:=r;rfl
 | str z=>obtain⟨t,rfl⟩:=r;rfl
 | _=>exact absurd (show false=true from f) Bool.false_ne_true
theorem o7{x:V}:∀{xs:List V} {us:List Value},Vals xs us->xs.all o6=true->us.any (Ci x)=xs.any fun y=>LJ y x
 | _,_,.nil,_=>rfl
 | y::xs,u::us,.cons r t,f=>by
   rw[List.all_cons,Bool.and_eq_true]at f;rw[List.any_cons,List.any_cons,HY r f.1,o7 t f.2]
theorem lY{A:Around}{s:Shared}{x:V}{v:Value}(rx:RelV x v)(fx:o6 x=true):∀{xs:List V} {us:List Value},Vals xs us->xs.all o6=true->∀ u∈us,SeqAt.EqAt A s u v (Ci x u)
 | _,_,.nil,_=>fun u hu=>by cases hu
 | y::xs,u::us,.cons r t,f=>fun u' hu=>by
   rw[List.all_cons,Bool.and_eq_true]at f;rcases List.mem_cons.mp hu with rfl|hu
   ·rw[HY r f.1];exact N8 r rx f.1 fx
   ·exact lY rx fx t f.2 u' hu
def M5(x:V)(xs:List V):Bool:=xs.any fun y=>LJ y x
def To(K:bK)(neg:Bool):R2:=fun x y H Q=>∃ p xs,y = .ref p/\(aO K H p xs\/aP K H p xs)/\o6 x=true/\xs.all o6=true/\Q (.bl (if neg then !M5 x xs else M5 x xs)) H
theorem Fj:lO X (compareOp .In) (To X.K false):=by
 intro pins s σ H x y v u Q I rx ry h;obtain⟨p,xs,rfl,hq,fx,fs,q⟩:=h;cases ry;rcases hq with hq|hq
 ·obtain⟨its,r,pl,hz⟩:=I.list hq;refine SeqAt.in_listAt (Ci x) pl.isList (fun w hw=>lY rx fx r fs w (by simpa using hw)) ⟨.bl _,H,I,rfl,?_⟩
  rw[show its.toArray.any (Ci x)=its.any (Ci x) by simp,o7 r fs]
  exact q
 ·obtain⟨its,r,pl,hz⟩:=I.tuple hq;refine SeqAt.in_tupleAt (Ci x) pl (fun w hw=>lY rx fx r fs w (by simpa using hw)) ⟨.bl _,H,I,rfl,?_⟩
  rw[show its.toArray.any (Ci x)=its.any (Ci x) by simp,o7 r fs]
  exact q
theorem yo:lO X (compareOp .NotIn) (To X.K true):=by
 intro pins s σ H x y v u Q I rx ry h;obtain⟨p,xs,rfl,hq,fx,fs,q⟩:=h;cases ry;rcases hq with hq|hq
 ·obtain⟨its,r,pl,hz⟩:=I.list hq;refine SeqAt.notIn_listAt (Ci x) pl.isList (fun w hw=>lY rx fx r fs w (by simpa using hw)) ⟨.bl _,H,I,rfl,?_⟩
  rw[show its.toArray.any (Ci x)=its.any (Ci x) by simp,o7 r fs]
  exact q
 ·obtain⟨its,r,pl,hz⟩:=I.tuple hq;refine SeqAt.notIn_tupleAt (Ci x) pl (fun w hw=>lY rx fx r fs w (by simpa using hw)) ⟨.bl _,H,I,rfl,?_⟩
  rw[show its.toArray.any (Ci x)=its.any (Ci x) by simp,o7 r fs]
  exact q
theorem yp:fC X (.builtin "len") (fun xs H Q=>∃ p ys,xs=[.ref p]/\(aO X.K H p ys\/aP X.K H p ys)/\Q (.int ys.length) H):=by
 intro pins s σ H xs us Q I r h;obtain⟨p,ys,rfl,hq,q⟩:=h;obtain⟨u,rfl,rx⟩:=vals1 r;cases rx;have hn:=tX;rcases hq with hq|hq
 ·obtain⟨its,r',pl,hz⟩:=I.list hq;have hlen:=r'.length;exact Calls.call_len_list pl.isList (by simp only[List.size_toArray]<;>lia) ⟨.int ys.length,H,I.tok _,⟨s.toks+1,by rw[List.size_toArray,hlen]⟩,q⟩
 ·obtain⟨its,r',pl,hz⟩:=I.tuple hq;have hlen:=r'.length;exact len_tuple pl (by simp only[List.size_toArray]<;>lia) ⟨.int ys.length,H,I.tok _,⟨s.toks+1,by rw[List.size_toArray,hlen]⟩,q⟩
theorem vR:fC X (.type "tuple") (fun xs H Q=>∃ p ys,xs=[.ref p]/\((aO X.K H p ys/\∀ l,H l=none->Q (.ref l) (upd H l (.tup ys)))\/(aP X.K H p ys/\Q (.ref p) H))):=by
 intro pins s σ H xs us Q I r h;obtain⟨p,ys,rfl,h⟩:=h;obtain⟨u,rfl,rx⟩:=vals1 r;cases rx;rcases h with⟨hq,q⟩|⟨hq,q⟩
 ·obtain⟨its,r',pl,hz⟩:=I.list hq;have hlen:=r'.length;refine call_tuple_list pl.isList (fun h' kp=>?_) (by simp only[List.size_toArray]<;>lia)
  have I1:Inv X pins σ H { s with heap:=h'}:=I.kept (t':=s.toks) kp
  have I2:Inv X pins σ (upd H h'.objs.size (.tup ys)) { s with heap:=h'.push { cls:=.type "tuple",data:=.seq its.toArray}} :=
   I1.laid (t':=s.toks) (fun b o e=>Heap.get?_push_of_some _ e) (Nat.le_refl _) (show br X.prog X.w _ _ _ (.tup ys) from⟨hz,its,r',IsTup.new _ _⟩)
  exact⟨.ref h'.objs.size,_,I2,rfl,q _ (I1.hok.fresh (Nat.le_refl _))⟩
 ·obtain⟨its,r',pl,hz⟩:=I.tuple hq;exact call_tuple_same pl ⟨.ref p,H,I,rfl,q⟩
def UK(K:bK)(T:String)(x:V)(H:Hp):Prop:=match x with
 | .str _=>T="str"
 | .int _=>T="int"
 | .ref p=>(T="list"/\∃ xs,aO K H p xs)\/(T="tuple"/\∃ o,K.lookup p=some o/\o.cls = .type "tuple"/\o.dict=none)\/
  (T="dict"/\((∃ kvs,H p=some (.dK kvs))\/∃ kvs,H p=some (.dT kvs)))\/(T="set"/\∃ S n,H p=some (.set S n))
 | _=>False
theorem HZ{pins:aV}{σ:St}{H:Hp}{s:Shared}{T:String}{x:V}{v:Value}(I:Inv X pins σ H s)(r:RelV x v)(ty:UK X.K T x H):
 s.TypeIs v T/\∀ a,v = .ref a->∃ ob,s.heap.get? a=some ob/\ob.dict=none:=by
 cases x with
 | str z =>
   obtain⟨t,rfl⟩:=r;cases(show T="str" from ty)
   exact⟨typeIs_str s z t,fun _ e=>nomatch e⟩
 | int i =>
   obtain⟨t,rfl⟩:=r;cases(show T="int" from ty)
   exact⟨typeIs_int s i t,fun _ e=>nomatch e⟩
 | ref p =>
   cases r;rcases ty with⟨rfl,xs,hq⟩|⟨rfl,o,hk,hc,hd⟩|⟨rfl,hk⟩|⟨rfl,S,n,hk⟩
   ·obtain⟨its,_,pl,_⟩:=I.list hq;refine⟨pl.isList.typeIs,fun a e=>?_⟩
    cases e;obtain⟨o,n,e,c,hd,_⟩:=pl;exact⟨o,e,hd⟩
   ·refine⟨⟨o,I.zN p o hk,hc⟩,fun a e=>?_⟩
    cases e;exact⟨o,I.zN _ o hk,hd⟩
   ·have z:∃ o,s.heap.get? p=some o/\o.ExactDict:=by
     rcases hk with⟨kvs,hk⟩|⟨kvs,hk⟩
     ·obtain⟨_,_,_,_,o,_,_,e,ex,_⟩:=I.hok p _ hk;exact⟨o,e,ex⟩
     ·obtain⟨_,_,_,_,o,_,_,e,ex,_⟩:=I.hok p _ hk;exact⟨o,e,ex⟩
    obtain⟨o,e,ex⟩:=z;refine⟨⟨o,e,ex.1⟩,fun a e2=>?_⟩
    cases e2;exact⟨o,e,ex.2.1⟩
   ·obtain⟨o,_,_,_,e,ex,_⟩:=I.hok p _ hk;refine⟨⟨o,e,ex.1⟩,fun a e2=>?_⟩
    cases e2;exact⟨o,e,ex.2.1⟩
 | _=>exact False.elim ty
def UL(K:bK)(T:String)(r:V->List V->Hp->VK->Prop)(to:TE):TE:=fun σ H Q=>to σ H fun x H1=>UK K T x H1/\r x [] H1 Q
def UM(K:bK)(T:String)(r:V->List V->Hp->VK->Prop)(to:TE)(t:TA):TE:=fun σ H Q=>to σ H fun x H1=>UK K T x H1/\t σ H1 fun xs H2=>r x xs H2 Q
variable {o e:Expr}{es:List Expr}{to:TE}{t:TA}{name:Str}{apos cpos:Pos}{T id:String}{r:V->List V->Hp->VK->Prop}
theorem Ia(pa:PlainAttrs T)(slot:Slot T name id)(hty:typeOf (.builtin id)=pure (.type "method_descriptor"))(hm:UJ X id r)(ho:PE X o to)
 (hbase:attributeBase o name X.env (eval o X.env)=eval o X.env:=by rfl) (hline:(apos.endLine==cpos.line)=true:=by rfl):PE X (.Call (.Attribute o name apos) [] [] cpos) (UL X.K T r to):=by
 intro pins s σ H Q I h;refine wpAny_Call_method0_late hbase hline (dB (ho pins s σ H _ I h) fun v s1 ⟨x,H1,I1,r1,ty,q1⟩=>?_)
 obtain⟨h1,h2⟩:=HZ I1 r1 ty;exact⟨T,id,pa,slot,hty,h1,h2,Calls.callWith_builtin rfl (PySem.evalArgs_none (hm pins s1 σ H1 x [] v [] Q I1 r1 .nil q1))⟩
theorem lZ(pa:PlainAttrs T)(slot:Slot T name id)(hty:typeOf (.builtin id)=pure (.type "method_descriptor"))(hm:UJ X id r)(ho:PE X o to)(ha:PA X (e::es) t)
 (hbase:attributeBase o name X.env (eval o X.env)=eval o X.env:=by rfl)
 (hfew:((backTo cpos (starEach (e::es) X.env)).all (fun x=>!x.1)&&(backToKw cpos (keywordEach [] X.env)).all (fun x=>x.1.isSome)
  && decide ((e::es).length+([]:List Keyword).length+(if([]:List Keyword).isEmpty then 0 else 1)<30))=true:=by rfl)
 (hline:(apos.endLine==cpos.line)=true:=by rfl) (hs:starEach (e::es) X.env=(false,eval e X.env)::starEach es X.env:=by rfl) (hplain:(backTo cpos (starEach es X.env)).any (·.1)=false:=by rfl) :
 PE X (.Call (.Attribute o name apos) (e::es) [] cpos) (UM X.K T r to t):=by
 intro pins s σ H Q I h;refine wpAny_Call_method_late hbase hfew hline rfl (dB (ho pins s σ H _ I h) fun v s1 ⟨x,H1,I1,r1,ty,q1⟩=>?_)
 obtain⟨h1,h2⟩:=HZ I1 r1 ty;refine⟨T,id,pa,slot,hty,h1,h2,?_⟩;have hA:=ha cpos pins s1 σ H1 _ I1 q1;rw[hs]at hA ⊢;refine Calls.callWith_builtin (by show(false || (backTo cpos (starEach es X.env)).any (·.1))=false;rw[hplain]<;>rfl) (Calls.evalArgs_plain ?_)
 exact dB hA fun us s2 ⟨vs,H2,I2,r2,q2⟩=>hm pins s2 σ H2 x vs v us Q I2 r1 r2 q2
end
def WH(X:Cx)(id:String)(r:V->List V->Hp->VK->Prop):Prop :=
 ∀(pins:aV) (s:Shared) (σ:St) (H:Hp) (x:V) (xs:List V) (v:Value) (us:List Value) (Q:VK),Inv X pins σ H s->RelV x v->Vals xs us->r x xs H Q->
  wpAny (model X.prog X.w) X.A (call (.builtin id) (v::us)) (EP X pins σ Q) X.xe s
theorem Vals.one:∀{x:V} {us:List Value},Vals [x] us->∃ u,us=[u]/\RelV x u
 | _,_,.cons r .nil=>⟨_,rfl,r⟩
theorem Vals.rep{xs:List V}{us:List Value}(h:Vals xs us):∀ k:Nat,Vals (List.replicate k xs).flatten (List.replicate k us).flatten
 | 0=>.nil
 | k+1=>by
   rw[List.replicate_succ,List.replicate_succ,List.flatten_cons,List.flatten_cons];exact Vals.append h (Vals.rep h k)
theorem foldl_rep(its:List Value):∀(k:Nat) (acc:List Value),
 List.foldl (fun x1 x2=>x1++x2) acc.toArray (List.replicate k its.toArray)=(acc++(List.replicate k its).flatten).toArray
 | 0,acc=>by simp
 | k+1,acc=>by
   have e:acc.toArray++its.toArray=(acc++its).toArray:=by simp
   have e2:(acc++its)++(List.replicate k its).flatten=acc++(List.replicate (k+1) its).flatten:=by
    rw[List.replicate_succ,List.flatten_cons,List.append_assoc]
   rw[<-e2,<-foldl_rep its k (acc++its),<-e,List.replicate_succ,List.foldl_cons]
section
variable {X:Cx}{pins:aV}{σ:St}{H:Hp}{s:Shared}{l b:Addr}{xs ys zs:List V}
theorem Inv.Q7{its its' : List Value}{n:Nat}{f:Array Value->Array Value}{t' : Nat}(I:Inv X pins σ H s)(hH:H l=some (.lst xs))
 (e:s.heap.get? l=some { cls:=.type "list",data:=.seq its.toArray n}) (hf:f its.toArray=its'.toArray) (hv:Vals ys its') (hz:ys.length<=sizeLine) :
 Inv X pins σ (upd H l (.lst ys)) { s with heap:=s.heap.update l (Obj.mapSeq f),toks:=t'}:=by
 have q:=PySem.IsL.update e f;rw[hf]at q;refine I.write (x:=l) (e:=l) (by rw[hH];exact trivial) (.inl rfl) (fun b' u hb hu=>(Heap.get?_update_other s.heap (Obj.mapSeq f) (Ne.symm hb)).trans hu) ⟨_,q⟩ ?_
 exact⟨hz,its',_,hv,q⟩
theorem Inv.UN{its:List Value}{t' : Nat}(I:Inv X pins σ H s)(hv:Vals ys its)(hz:ys.length<=sizeLine):
 Inv X pins σ (upd H s.heap.objs.size (.lst ys)) { s with heap:=s.heap.push { cls:=.type "list",data:=.seq its.toArray},toks:=t'} :=
 I.laid (fun _ _ q=>Heap.get?_push_of_some _ q) (Nat.le_refl _) ⟨hz,its,0,hv,Heap.get?_push_size _ rfl⟩
theorem Inv.fresh(I:Inv X pins σ H s):H s.heap.objs.size=none:=I.hok.fresh (Nat.le_refl _)
theorem Inv.LK(I:Inv X pins σ H s)(hH:H l=some (.lst xs)):xs.length<=sizeLine/\∃(its:List Value) (n:Nat),Vals xs its/\xs.length=its.length/\s.heap.get? l=some { cls:=.type "list",data:=.seq its.toArray n}:=by
 obtain⟨z,its,n,r,e⟩:=I.hok l _ hH;exact⟨z,its,n,r,r.length,e⟩
theorem zY{n:Nat}(h:n<=sizeLine):Builtin.List.listTooLong n=false:=by
 unfold Builtin.List.listTooLong;exact decide_eq_false (by lia)
end
section
variable {X:Cx}
def LL:V->List V->Hp->VK->Prop:=fun x vs H Q=>∃ l xs y,x = .ref l/\vs=[y]/\H l=some (.lst xs)/\xs.length<sizeLine/\Q .eM (upd H l (.lst (xs++[y])))
theorem c8:WH X "list.append" LL:=by
 intro pins s σ H x vs v us Q I rx rv h;obtain⟨l,xs,y,rfl,rfl,hH,hz,q⟩:=h;cases rx;obtain⟨u,rfl,ru⟩:=rv.one;obtain⟨z,its,n,r,hl,e⟩:=I.LK hH;refine call_meets F.slot_list_append ⟨_,e,rfl⟩ F.entry_list_append (F.args_list_append_2 _ _) (PySem.list_append l its.toArray n u (by rw[List.size_toArray];lia)) ⟨e,?_⟩
 refine⟨.eM,_,I.Q7 (its':=its++[u]) hH e (by simp) (r.append (.cons ru .nil)) ?_,rfl,q⟩
 rw[List.length_append,List.length_singleton]
 lia
def LM:V->List V->Hp->VK->Prop:=fun x vs H Q=>∃ l b xs zs,x = .ref l/\vs=[.ref b]/\H l=some (.lst xs)/\H b=some (.lst zs)/\xs.length+zs.length<=sizeLine/\Q .eM (upd H l (.lst (xs++zs)))
theorem Fl:WH X "list.extend" LM:=by
 intro pins s σ H x vs v us Q I rx rv h;obtain⟨l,b,xs,zs,rfl,rfl,hH,hB,hz,q⟩:=h;cases rx;obtain⟨u,rfl,ru⟩:=rv.one;cases ru;obtain⟨z,its,n,r,hl,e⟩:=I.LK hH;obtain⟨z2,its2,n2,r2,hl2,e2⟩:=I.LK hB;have hsz:its.toArray.size+its2.toArray.size<=sizeLine:=by rw[List.size_toArray,List.size_toArray];lia
 have Ib : ¬(!its.toArray.isEmpty&&Builtin.List.listTooLong (its.toArray.size+its2.toArray.size))=true:=by
  rw[zY hsz,Bool.and_false];exact Bool.false_ne_true
 refine call_meets F.slot_list_extend ⟨_,e,rfl⟩ F.entry_list_extend (F.args_list_extend_2 _ _)
  (AutoSeq1.list_extend_list_list_0 l its.toArray n b its2.toArray n2 Ib (by rw[List.size_toArray];lia) (by lia)) ⟨e,e2,?_⟩
 refine⟨.eM,_,I.Q7 (its':=its++its2) hH e (by simp) (r.append r2) ?_,rfl,q⟩
 rw[List.length_append]
 lia
def UO:R2:=fun x y H Q=>∃ l k xs,x = .ref l/\y = .int k/\H l=some (.lst xs)/\-(2^63)<=k/\k<2^63/\xs.length*k.toNat<=sizeLine/\
 ∀ p,H p=none->Q (.ref p) (upd H p (.lst (List.replicate k.toNat xs).flatten))
theorem len_rep{α:Type}(xs:List α)(k:Nat):(List.replicate k xs).flatten.length=k*xs.length:=by
 induction k with
 | zero=>simp
 | succ k ih=>rw[List.replicate_succ,List.flatten_cons,List.length_append,ih,Nat.succ_mul,Nat.add_comm]
theorem Cj:lO X (binaryOp .Mult) UO:=by
 intro pins s σ H x y v u Q I rx ry h;obtain⟨l,k,xs,rfl,rfl,hH,h1,h2,hz,q⟩:=h;cases rx;obtain⟨t,rfl⟩:=ry;obtain⟨z,its,n,r,hl,e⟩:=I.LK hH;have hlen:its.toArray.size*k.toNat<=sizeLine:=by rw[List.size_toArray,<-hl];exact hz
 have UP : ¬ its.toArray.size*k.toNat > (2^63-1)/8:=by
  have:(sizeLine:Nat)<=(2^63-1)/8:=by decide
  lia
 have hfit : ¬(!Builtin.List.listFitsIndex k)=true:=by
  rw[fitsIndex_both h1 h2];exact Bool.false_ne_true
 have Ib : ¬ Builtin.List.listTooLong (its.toArray.size*k.toNat)=true:=by
  rw[zY hlen];exact Bool.false_ne_true
 have hnew:List.foldl (fun x1 x2=>x1++x2) #[] (List.replicate (if its.toArray.isEmpty=true then 0 else k.toNat) its.toArray)=(List.replicate k.toNat its).flatten.toArray:=by
  have f0:∀ m:Nat,List.foldl (fun x1 x2=>x1++x2) #[] (List.replicate m its.toArray)=(List.replicate m its).flatten.toArray:=fun m=>by
   have:=foldl_rep its m [];rw[List.nil_append]at this;exact this
  rw[f0];cases its with
  | nil=>simp
  | cons a r'=>rw[if_neg (by simp)]
 refine wpAny_binaryOp_repeat_ref (T:="list") (U:="int") (by decide) ⟨_,e,rfl⟩ (fun s'=>typeIs_int s' k t) noFill_list_mul F.fills_int_mul F.slot_int_rmul repeat_list F.slot_int_index.lookup
  (call_meets F.slot_int_rmul (typeIs_int s k t) F.entry_int_rmul (F.args_int_rmul_2 _ _) (int___rmul___int_list k t l its.toArray n)
   ⟨e,rfl,⟨_,e,rfl⟩,call_meets F.slot_list_mul ⟨_,e,rfl⟩ F.entry_list_mul (F.args_list_mul_2 _ _) (AutoListH.list___mul___list_int_3 l its.toArray n k t hfit UP Ib) ⟨e,?_⟩⟩)
 rw[hnew];exact⟨.ref _,_,I.UN (t':=s.toks) (r.rep k.toNat) (by rw[len_rep,Nat.mul_comm];exact hz),rfl,q _ I.fresh⟩
end
end L2
namespace Att
open PySem PySem.W PySem.Calls PyProof.Rows
theorem sJ{P:Params}{h:Heap}:∀(ns:List Int) (vs:List Value),WellAll P h vs (ns.map WData.int)->IntsAre vs ns:=by
 intro ns
 induction ns with
 | nil =>
   intro vs w;rw[List.map_nil]at w;cases w;exact .nil
 | cons n ns ih =>
   intro vs w;rw[List.map_cons]at w;cases w with
   | cons a b =>
     cases a;exact .cons _ _ (ih _ b)
theorem Fo{l:OpenLaw}{n:Nat}(hn:l.most=some n){P:Params}{h:Heap}{args:List WData}{vals:List Value}
 (hpre:l.row.toRowW.claim.pre args=true) (UQ:WellAll P h vals args) :
 ∃ a vs ns,vals=[Value.ref a]/\args=[WData.list (ns.map WData.int)]/\h.get? a=some { cls:=.type "list",data:=.seq vs.toArray}/\IntsAre vs ns/\ns.length<=n:=by
 have hsh:WShape.hasAll [] args [.list .int]=true:=(pre_splitW hpre).1;have hc:l.pre.holds [] { args:=args}=true:=(pre_splitW hpre).2;obtain⟨d,r,rfl,h1,h2⟩:=hasAllW_cons hsh;obtain rfl:=hasAllW_nil h2;obtain⟨xs,rfl,h3⟩:=hasW_list h1;obtain⟨ns,rfl⟩:=items_int h3;have hlen:ns.length<=n:=by
  unfold OpenLaw.pre at hc;have h4:(WTm.not (.lt (.lit (.int (n:Int))) (.len (.arg 0)))).holds [] { args:=[.list (ns.map .int)]}=true:=by
   have h4:=(holds_andW hc).1;rw[hn]at h4;exact h4
  have h5:=condW_of h4 (w_not (w_lt w_lit (w_len_list (w_arg rfl))));rw[List.length_map]at h5;refine Nat.le_of_not_lt fun q=>?_
  have q' : (n:Int)<((ns.length:Nat):Int):=by lia
  first
   | (rw[decide_eq_true q']at h5;exact absurd h5 (by decide))
   | (simp at h5;lia)
 cases UQ with
 | cons w1 w2 =>
   cases w2;cases w1 with
   | list ho hall=>exact⟨_,_,ns,rfl,rfl,ho,sJ ns _ hall,hlen⟩
theorem Fp(l:OpenLaw)(args:List WData):l.row.toRowW.claim.post args (.bool true) args=true :=
 postW_of (r:=l.row.toRowW) (X:=(true==true))
  (show WShape.has [] (.bool true) .bool=true by first | rfl | decide | simp[WShape.has,WShape.arms,WShape.armsAll])
  (show(WTm.eq .res (.lit (.bool true))).value [] { args:=args,res:=some (.bool true),after:=args}=some (.bool (true==true)) from w_eq_bool (w_res rfl) w_lit) rfl
theorem zZ{l:OpenLaw}{n:Nat}{q:Program}{loose:List Str}{XP:(Str->Option Value)->Heap->Prop}{YP:World->Heap->Prop}{d:DefRec}
 (hn:l.most=some n) (Q8:d.params.defaults=[])
 (call:∀(w:World) (s₀ s₁:Shared) (mg mb:lT) (fa:Addr) (o:Obj) (pm cd doc:Value) (a:Addr) (vs:List Value) (ns:List Int),
  Ground q loose [] XP w s₀ mg mb s₁.heap->YP w s₁.heap->
  s₁.heap.get? fa=some o->o.data = .func (docDef d.name d.params d.body d.scope pm cd doc)->s₁.heap.CodeRec cd d.name->mg d.name=some (.ref fa)->
  s₁.heap.get? a=some { cls:=.type "list",data:=.seq vs.toArray}->IntsAre vs ns->ns.length<=n->s₁.gens = #[]->
  codeAny (model l.prog w) callerA (.call (.ref fa) ⟨[.ref a],[]⟩) (fun r s'=>r = .ok (.ret (.bool true))/\OldK s₁.heap s'.heap/\s'.os=s₁.os/\AllBare s'.gens) s₁) :
 WalkO q loose XP YP l.row.toRowW d [] (fun f vs=>PySem.call f vs):=by
 intro w s₀ s₁ mg mb G Y fa o pm cd doc dV kV ho hd hcd hD hmg hg args vals as hpre hlay hrd UQ hlo;obtain rfl:dV = .none:=Dflts.none hD Q8;obtain rfl:kV = .none:=Dflts.noKw hD;obtain⟨a,vs,ns,rfl,rfl,hobj,hints,hlen⟩:=Fo hn hpre UQ;refine enter_call (codeAny_mono (call w s₀ s₁ mg mb fa o pm cd doc a vs ns G Y ho (fd_plain hd) hcd hmg hobj hints hlen hg) fun r s' hq=>?_)
 obtain⟨rfl,h2,h3,h4⟩:=hq;exact⟨.inl ⟨.bool true,.bool true,[],rfl,fun _=>rfl,.bool true,Fp l _,fun _=>⟨List.Pairwise.nil,fun _ hm=>(nomatch hm)⟩⟩,h2,h3,h4⟩
end Att
namespace L2
open PySem PySem.Spec PyProof.Rows
theorem xg:∀{vs:List Value} {ns:List Int},IntsAre vs ns->Vals (ns.map V.int) vs
 | _,_,.nil=>.nil
 | _,_,.cons n t h=>.cons ⟨t,rfl⟩ (xg h)
end L2
namespace L2
open PySem PySem.Spec PyProof.Rows
def dY(s:Stmt):Arguments:=match s with
 | .FunctionDef _ a _ _ _ _ _ _ _ _=>a
 | _=>{ posonlyargs:=[],args:=[],vararg:=none,kwonlyargs:=[],kw_defaults:=[],kwarg:=none,defaults:=[]}
def cy(s:Stmt):List Stmt:=match s with
 | .FunctionDef _ _ b _ _ _ _ _ _ _=>b
 | _=>[]
def aj(s:Stmt):Scope:=match s with
 | .FunctionDef _ _ _ _ _ _ sc _ _ _=>sc
 | _=>{ kind:=.function,names:=[],isGenerator:=false,isCoroutine:=false}
abbrev Eg:Hs:=fun _ _ _ _ _ _=>False
abbrev E0:XK:=fun _ _ _=>False
theorem aN{X:Cx}:Passes Eg X E0:=fun _ _ _ _ _ _ _ h=>h.elim
structure LN(K:bK)(x qual:Str)(st:Stmt)(f:Addr)(fd:FuncData):Prop where
 ex:∃(oc:Value) (od:Option Addr) (kV doc pm:Value) (an:Option Addr) (cdv ct:Value) (osl:Array (Option Value)),
  fd=PySem.W.fnOf x qual (dY st) (cy st) (aj st) .none kV doc pm an cdv ct/\K.lookup f=some ⟨oc,od,.func fd,osl⟩/\PySem.W.codeIn K cdv qual=true
 kp:PySem.W.keepIn K (.ref f)=true
section
variable {P:Program}{w:World}{K:bK}{mg:lT}{base:Heap}
theorem LN.ok{x qual:Str}{st:Stmt}{f:Addr}{fd:FuncData}{N ps:List Str}{k:Nat}{sp:Sp}(F:LN K x qual st f fd)(S:aD N ps (aj st))(len:∀ vs H Q E,sp vs H Q E->vs.length=ps.length)
 (hbody:∀(cdv:Value) (A:Around) (outer:List Env) (s:Shared) (H:Hp) (vs:List V) (Q:VK) (E:XK),fh k (A.deeper (envOfC qual (aj st) s.heap.objs.size f cdv))->sp vs H Q E->
  ∃ t,wQ (sH Eg P w K mg base N qual (aj st) f cdv A outer s H E).BQ (cy st) t/\t { nx:=fun _ H'=>Q .eM H',rt:=Q} (start N vs) H):lX P w K mg base Eg (k+1) f fd ps sp:=by
 obtain⟨oc,od,kV,doc,pm,an,cdv,ct,osl,rfl,lk,hcd⟩:=F.ex;refine HS lk hcd S len fun A outer s H vs Q E hr sI=>?_
 obtain⟨t,h,q⟩:=hbody cdv A outer s H vs Q E hr sI;exact⟨t,h.BQ,q⟩
theorem LN.binds{x qual:Str}{st:Stmt}{f:Addr}{fd:FuncData}{ps:List Str}(F:LN K x qual st f fd)
 (h:∀(kV doc pm:Value) (an:Option Addr) (cdv ct:Value) (us:List Value),us.length=ps.length->bindArgs (PySem.W.fnOf x qual (dY st) (cy st) (aj st) .none kV doc pm an cdv ct) ⟨us,[]⟩=pure (ps.zip us)):Binds K fd ps []:=by
 obtain⟨oc,od,kV,doc,pm,an,cdv,ct,osl,rfl,lk,hcd⟩:=F.ex;exact .all (h kV doc pm an cdv ct)
theorem N9{x qual:Str}{st:Stmt}{f:Addr}{oc:Value}{od an:Option Addr}{osl:Array (Option Value)}{kV doc pm cdv ct:Value}(l:K.lookup f=some ⟨oc,od,.func (PySem.W.fnOf x qual (dY st) (cy st) (aj st) .none kV doc pm an cdv ct),osl⟩)
 (c:PySem.W.codeIn K cdv qual=true) (k:PySem.W.keepIn K (.ref f)=true):LN K x qual st f (PySem.W.fnOf x qual (dY st) (cy st) (aj st) .none kV doc pm an cdv ct):=⟨⟨oc,od,kV,doc,pm,an,cdv,ct,osl,rfl,l,c⟩,k⟩
end
theorem z6{A:Around}{k:Nat}(hr:fh k A):A.units+1<cLine:=Nat.lt_of_le_of_lt (Nat.add_le_add_left (by decide:1<=64) _) hr.units
theorem j9{n:Nat}(h:n<=1000):n<sizeLine:=Nat.lt_of_le_of_lt h (by decide)
section
variable {X:Cx}
theorem pv(i:Nat){x:Str}{pos:Pos}(hN:X.N[i]?=some x:=by rfl)(hv:Tf X.env.scope x:=by first | exact Or.inl rfl | exact Or.inr (Or.inl rfl) | exact Or.inr (Or.inr rfl))(hd:(x==("__debug__":Str))=false:=by decide)
 (hcd:(x==("__classdict__":Str))=false:=by decide):PE X (.Name x pos) (QE i):=NR hN hv hd hcd
end
theorem cC{A B:Prop}(h:B):if false=true then A else B:=by
 rw[if_neg Bool.false_ne_true];exact h
theorem ir{A B:Prop}(h:A):if true=true then A else B:=by
 rw[if_pos rfl];exact h
theorem jh{c A B:Prop}[Decidable c](h1:c->A)(h2 : ¬ c->B):if c then A else B:=by
 by_cases h:c
 ·rw[if_pos h];exact h1 h
 ·rw[if_neg h];exact h2 h
theorem Eh{c A B:Prop}[Decidable c](hc:c)(h:B):if(!decide c)=true then A else B:=by
 rw[decide_eq_true hc];exact cC h
def av(H H' : Hp):Prop:=∀ b o,H b=some o->H' b=some o
theorem av.refl(H:Hp):av H H:=fun _ _ h=>h
theorem av.trans{H H1 H2:Hp}(a:av H H1)(b:av H1 H2):av H H2:=fun c o h=>b c o (a c o h)
theorem av.free{H H' : Hp}(e:av H H'){l:Addr}(h:H' l=Option.none):H l=Option.none:=by
 cases q:H l with
 | none=>rfl
 | some o =>
   rw[e l o q]at h;cases h
theorem av.seq{K:bK}{H H' : Hp}{a:Addr}{xs:List V}(e:av H H')(h:aO K H a xs):aO K H' a xs:=by
 rcases h with(h|⟨o,h⟩) | h
 ·exact .inl (.inl (e _ _ h))
 ·exact .inl (.inr ⟨o,e _ _ h⟩)
 ·exact .inr h
def c9(cells:List (Str×Addr)):List (Str×NameKind)->List (Str×Addr)->List (Str×Addr)
 | [],cs=>cs
 | (n,k)::r,cs=>c9 cells r (if(k==NameKind.free)=true then(n,(cells.lookup n).getD 0)::cs else cs)
theorem t8{env:Env}{f:Str×NameKind->List (Str×Addr)->Sem (ForInStep (List (Str×Addr)))}
 (hf1:∀ n k cs c,(k==NameKind.free)=true->env.cells.lookup n=some c->f (n,k) cs=pure (.yield ((n,c)::cs)))
 (hf2:∀ n k cs,(k==NameKind.free)=false->f (n,k) cs=pure (.yield cs)) :
 ∀(names:List (Str×NameKind)) (cs:List (Str×Addr)),(∀ n k,(n,k)∈names->(k==NameKind.free)=true->∃ c,env.cells.lookup n=some c)->
  forIn names cs f=(pure (c9 env.cells names cs):Sem (List (Str×Addr)))
 | [],cs,_=>by rw[List.forIn_nil];rfl
 | (n,k)::r,cs,h=>by
   have ih:=fun cs=>t8 hf1 hf2 r cs fun m j hm=>h m j (List.mem_cons_of_mem _ hm)
   rw[List.forIn_cons];cases e:(k==NameKind.free) with
   | true =>
     obtain⟨c,hc⟩:=h n k List.mem_cons_self e;rw[hf1 n k cs c e hc,pure_bind];show forIn r ((n,c)::cs) f=_;rw[ih]
     conv=>rhs;unfold c9
     rw[if_pos e,hc];rfl
   | false =>
     rw[hf2 n k cs e,pure_bind];show forIn r cs f=_;rw[ih]
     conv=>rhs;unfold c9
     rw[if_neg (by rw[e];exact Bool.false_ne_true)]
theorem nW{scope:Scope}{env:Env}(h:∀ n k,(n,k)∈scope.names->(k==NameKind.free)=true->∃ c,env.cells.lookup n=some c):closureFor scope env=pure (c9 env.cells scope.names []):=by
 simp only[closureFor];rw[t8 (env:=env) ?_ ?_ scope.names [] h]
 ·rfl
 ·intro n k cs c e hc;show(if(k==NameKind.free)=true then _ else _)=_
  rw[if_pos e];unfold cellOf;rw[hc];rfl
 ·intro n k cs e;show(if(k==NameKind.free)=true then _ else _)=_
  rw[if_neg (by rw[e];exact Bool.false_ne_true)]
theorem jA{cells:List (Str×Addr)}{x:Str}{c:Addr}:∀{names:List (Str×NameKind)} {cs:List (Str×Addr)},(c9 cells names cs).lookup x=some c->cs.lookup x=some c\/((x,NameKind.free)∈names/\(cells.lookup x).getD 0=c)
 | [],cs,h=>.inl h
 | (n,k)::r,cs,h=>by
   unfold c9 at h;rcases jA h with q|⟨q1,q2⟩
   ·by_cases e:(k==NameKind.free)=true
    ·rw[if_pos e]at q
     by_cases hx:x=n
     ·subst hx;rw[List.lookup_cons_self]at q;have hk:k=NameKind.free:=eq_of_beq e;exact .inr ⟨by rw[hk];exact List.mem_cons_self,Option.some.inj q⟩
     ·have hb:(x==n)=false:=beq_eq_false_iff_ne.mpr hx;simp only[List.lookup_cons,hb]at q;exact .inl q
    ·rw[if_neg e]at q;exact .inl q
   ·exact .inr ⟨List.mem_cons_of_mem _ q1,q2⟩
theorem ji{cells:List (Str×Addr)}{x:Str}:∀{names:List (Str×NameKind)} {cs:List (Str×Addr)},((x,NameKind.free)∈names\/∃ c,cs.lookup x=some c)->∃ c,(c9 cells names cs).lookup x=some c
 | [],cs,h=>by
   rcases h with h|h
   ·cases h
   ·exact h
 | (n,k)::r,cs,h=>by
   unfold c9;apply ji;rcases h with h|⟨c,h⟩
   ·rcases List.mem_cons.mp h with h|h
    ·cases h
     right
     rw[if_pos (by rfl)]
     exact⟨_,List.lookup_cons_self⟩
    ·exact .inl h
   ·right
    by_cases e:(k==NameKind.free)=true
    ·rw[if_pos e]
     by_cases hx:x=n
     ·subst hx;exact⟨_,List.lookup_cons_self⟩
     ·have hb:(x==n)=false:=beq_eq_false_iff_ne.mpr hx;exact⟨c,by simp only[List.lookup_cons,hb];exact h⟩
    ·rw[if_neg e];exact⟨c,h⟩
theorem kJ{env:Env}{x:Str}{k:NameKind}:∀{names:List (Str×NameKind)},
 (names.map fun(n,k)=>if(k==NameKind.free&&env.scope.kind == .function&&env.kindOf n==some .cell) then(n,NameKind.cell) else(n,k)).lookup x=some k->
  ∃ k0,names.lookup x=some k0/\(k=k0\/(k0 = .free/\k = .cell))
 | [],h=>by cases h
 | (n,j)::r,h=>by
   have ih:=@kJ env x k r
   replace h:List.lookup x ((if(j==NameKind.free&&env.scope.kind == .function&&env.kindOf n==some .cell)=true then(n,NameKind.cell) else(n,j))::_)=some k:=h
   cases hx:x==n with
   | true =>
     by_cases hc:(j==NameKind.free&&env.scope.kind == .function&&env.kindOf n==some .cell)=true
     ·rw[if_pos hc]at h;simp only[List.lookup_cons,hx]at h ⊢;have hj:j=NameKind.free:=by
       rw[Bool.and_eq_true,Bool.and_eq_true]at hc;exact eq_of_beq hc.1.1
      exact⟨j,rfl,.inr ⟨hj,(Option.some.inj h).symm⟩⟩
     ·rw[if_neg hc]at h;simp only[List.lookup_cons,hx]at h ⊢;exact⟨j,rfl,.inl (Option.some.inj h).symm⟩
   | false =>
     by_cases hc:(j==NameKind.free&&env.scope.kind == .function&&env.kindOf n==some .cell)=true
     ·rw[if_pos hc]at h;simp only[List.lookup_cons,hx]at h ⊢;exact ih h
     ·rw[if_neg hc]at h;simp only[List.lookup_cons,hx]at h ⊢;exact ih h
theorem o8{env:Env}{x:Str}:∀{names:List (Str×NameKind)},names.lookup x=some .free->
 (names.map fun(n,k)=>if(k==NameKind.free&&env.scope.kind == .function&&env.kindOf n==some .cell) then(n,NameKind.cell) else(n,k)).lookup x=some .cell\/
 (names.map fun(n,k)=>if(k==NameKind.free&&env.scope.kind == .function&&env.kindOf n==some .cell) then(n,NameKind.cell) else(n,k)).lookup x=some .free
 | [],h=>by cases h
 | (n,j)::r,h=>by
   have ih:=@o8 env x r;show List.lookup x ((if(j==NameKind.free&&env.scope.kind == .function&&env.kindOf n==some .cell)=true then(n,NameKind.cell) else(n,j))::_)=_\/
    List.lookup x ((if(j==NameKind.free&&env.scope.kind == .function&&env.kindOf n==some .cell)=true then(n,NameKind.cell) else(n,j))::_)=_
   cases hx:x==n with
   | true =>
     simp only[List.lookup_cons,hx]at h;cases h
     by_cases hc:(NameKind.free==NameKind.free&&env.scope.kind == .function&&env.kindOf n==some .cell)=true
     ·rw[if_pos hc];simp only[List.lookup_cons,hx];exact .inl trivial
     ·rw[if_neg hc];simp only[List.lookup_cons,hx];exact .inr trivial
   | false =>
     simp only[List.lookup_cons,hx]at h
     by_cases hc:(j==NameKind.free&&env.scope.kind == .function&&env.kindOf n==some .cell)=true
     ·rw[if_pos hc];simp only[List.lookup_cons,hx];exact ih h
     ·rw[if_neg hc];simp only[List.lookup_cons,hx];exact ih h
def dc(X:Cx)(N:List Str)(scope:Scope)(xe:dw)(C:Addr)(s:Shared)(H:Hp)(fp:List Addr):Cx where
 prog:=X.prog
 w:=X.w
 K:=X.K
 mg:=X.mg
 base:=X.base
 A:=X.A
 N:=N
 s₀:=s
 H₀:=H
 env:=compEnvC scope (c9 X.env.cells scope.names []) C X.env
 outer:=X.stack
 stack:=X.stack
 ex:=fp
 fn:=fun _=>false
 calm:=X.calm
 pn:=[]
 xe:=xe
def fj(σ:St)(js:List Nat):St:=js.map fun j=>(σ[j]?).getD none
structure dI(X:Cx)(scope:Scope)(own frees:List Str)(js:List Nat):Prop where
 kind:scope.kind = .function
 yq:∀ y∈scope.names,y.2≠.cell
 names:∀ y∈scope.names,y.2 = .local->scope.names.lookup y.1=some .local
 free:∀ y∈scope.names,y.2 = .free->X.env.scope.names.lookup y.1=some .cell\/X.env.scope.names.lookup y.1=some .free
 at_:js.map (fun j=>X.N[j]?)=frees.map some
 fr:∀ x∈frees,scope.names.lookup x=some .free
theorem uc{σ:St}{js:List Nat}{i:Nat}{v:V}(h:(fj σ js)[i]?=some (some v)):∃ j,js[i]?=some j/\σ[j]?=some (some v):=by
 unfold fj at h;rw[List.getElem?_map]at h;cases e:js[i]? with
 | none=>rw[e]at h;cases h
 | some j =>
   rw[e]at h;have h' : (σ[j]?).getD none=some v:=Option.some.inj h;refine⟨j,rfl,?_⟩;cases q:σ[j]? with
   | none=>rw[q]at h';cases h'
   | some o=>rw[q]at h';rw[show o=some v from h']
section
variable {X:Cx}
theorem gO{pins:aV}{σ:St}{H:Hp}{s:Shared}{scope:Scope}{own frees:List Str}{js:List Nat}(I:Inv X pins σ H s)(T:dI X scope own frees js):
 ∀ n k,(n,k)∈scope.names->(k==NameKind.free)=true->∃ c,X.env.cells.lookup n=some c:=fun n k hm e=>by
 have hk:k=NameKind.free:=eq_of_beq e;exact I.ok.has n (T.free (n,k) hm hk)
theorem Ic{pins:aV}{σ:St}{H:Hp}{s:Shared}{scope:Scope}{own frees:List Str}{js:List Nat}{fp:List Addr}{D C:Addr}{h1:Heap}{t1:Nat}{m:lT}{xe:dw}
 (I:Inv X pins σ H s) (T:dI X scope own frees js) (hf:∀ b∈fp,nV X pins H b) (hfo:∀ b∈fp,∃ o,s.heap.get? b=some o) (hD:s.heap.objs.size<=D) (hC:s.heap.objs.size<=C) (hDC:D≠C)
 (old:∀ b o,s.heap.get? b=some o->h1.get? b=some o) (hl:h1.get? D=some { cls:=.type "list",data:=.seq ([]:List Value).toArray 0}) (hn:h1.Ns C m) :
 Inv (dc X (own++frees) scope xe C s H fp) [] (List.replicate own.length none++fj σ js) (upd H D (.lst [])) { s with heap:=h1,toks:=t1}:=by
 have cells:∀ x c,(c9 X.env.cells scope.names []).lookup x=some c->X.env.cells.lookup x=some c:=fun x c h=>by
  rcases jA h with q|⟨q1,q2⟩
  ·cases q
  ·obtain⟨c',hc'⟩:=gO I T x .free q1 rfl;rw[hc']at q2;rw[hc'];exact congrArg some q2
 have Q9:∀ b o,s.heap.get? b=some o->b<s.heap.objs.size:=fun b o e=>Heap.lt_size e
 have hcl:∀ x c,X.env.cells.lookup x=some c->c<s.heap.objs.size:=fun x c e=>by
  obtain⟨v,q⟩:=I.cell x c e;exact q.lt
 have Zm:∀ b∈frs X.stack,b<s.heap.objs.size:=fun b hb=>by
  obtain⟨_,o,ho,_⟩:=I.stack.mem hb;exact Heap.lt_size ho
 have Zn:H D=none:=I.hok.fresh hD;have Oa:H C=none:=I.hok.fresh hC;refine⟨⟨I.ok.mod,T.kind,I.ok.glob,I.ok.blt,hC,fun x y c a b=>I.ok.inj x y c (cells x c a) (cells y c b),fun x hx=>?_,fun x c z _=>(nomatch z),I.ok.hd,I.ok.frames,.inl rfl,fun b hb=>⟨?_,fun x c e z=>?_⟩,
  fun b o e=>I.bs b o e,Nat.le_trans I.ok.Lq I.sz,fun b o e hb=>?_,fun b hb z=>?_,I.stack,I.yh⟩,
  rfl,I.bare,Un.laid old hD Zn,⟨m,hn,fun i x v e1 e2 e3=>?_⟩,fun x c e=>?_,?_,fun x c e=>?_,fun p hp=>absurd (show p∈([]:aV) from hp) (by simp),?_,?_⟩
 ·
  have hx:(relabel scope X.env).names.lookup x=some .cell\/(relabel scope X.env).names.lookup x=some .free:=hx;have Zo:(x,NameKind.free)∈scope.names:=by
   rcases hx with hx|hx
   ·obtain⟨k0,q,r⟩:=kJ hx;have hm:=PySem.mem_of_lookup q;rcases r with r|⟨r,_⟩
    ·exact absurd r.symm (T.yq _ hm)
    ·rw[r]at hm;exact hm
   ·obtain⟨k0,q,r⟩:=kJ hx;have hm:=PySem.mem_of_lookup q;rcases r with r|⟨_,r⟩
    ·rw[<-r]at hm;exact hm
    ·cases r
  exact ji (.inl Zo)
 ·
  obtain⟨o,ho⟩:=hfo b hb;exact Nat.ne_of_lt (Nat.lt_of_lt_of_le (Q9 b o ho) hC)
 ·exact(hf b hb).2.2.2.2.1 x c (cells x c e) z
 ·
  obtain⟨_,_,_,f3,_,_⟩:=hf b hb;rcases f3 with z|z
  ·exact I.ok.HD b o e z
  ·exact absurd (Nat.lt_of_lt_of_le (Heap.lt_size (I.ok.bs b o e).1) z) (Nat.lt_irrefl _)
 ·
  obtain⟨_,f1,f2,_⟩:=hf b hb;rcases List.mem_cons.mp (I.tQ b z) with q|q
  ·exact f1 q
  ·exact f2 q
 ·
  by_cases hi:i<own.length
  ·rw[List.getElem?_append_left (by simpa using hi),List.getElem?_replicate,if_pos hi]at e2
   cases e2
  ·rw[List.getElem?_append_right (by simpa using hi),List.length_replicate]at e2
   replace e1:(own++frees)[i]?=some x:=e1
   rw[List.getElem?_append_right (by lia)]at e1
   obtain⟨j,hj,hσ⟩:=uc e2;have hN:X.N[j]?=some x:=by
    have q:=congrArg (fun l=>l[i-own.length]?) T.at_
    simp only[List.getElem?_map,hj,e1,Option.map_some]at q;exact Option.some.inj q
   have hfx:=T.fr x (List.mem_of_getElem? e1);have hm:=PySem.mem_of_lookup hfx;have hk:=T.free (x,.free) hm rfl;obtain⟨m0,hn0,Ei⟩:=I.loc;obtain⟨u,r,l⟩:=Ei j x v hN hσ (by rcases hk with k|k;exact .inr (.inl k);exact .inr (.inr k))
   refine⟨u,r,.inr ⟨o8 hfx,?_⟩⟩;rcases l with⟨lP,_⟩|⟨_,c,hc,hcell⟩
   ·have lP:X.env.scope.names.lookup x=some .local:=lP;rcases hk with k|k<;>(rw[lP]at k;cases k)
   ·obtain⟨c',hc'⟩:=ji (cells:=X.env.cells) (names:=scope.names) (cs:=[]) (x:=x) (.inl hm);have q:=cells x c' hc';rw[hc]at q;cases q;exact⟨c,hc',hcell.keeps old⟩
 ·
  obtain⟨v,q⟩:=I.cell x c (cells x c e);exact⟨v,q.keeps old⟩
 ·
  show upd H D (.lst []) C=none;rw[aq (Ne.symm hDC)];exact Oa
 ·show upd H D (.lst []) c=none;have e:=cells x c e;rw[aq (Nat.ne_of_lt (Nat.lt_of_lt_of_le (hcl x c e) hD))];exact I.fB x c e
 ·exact I.hok.laid old hD ⟨Nat.zero_le _,[],0,.nil,hl⟩
 ·show _=(own++frees).length;have q:=congrArg List.length T.at_;rw[List.length_map,List.length_map]at q;rw[List.length_append,List.length_append,List.length_replicate];unfold fj;rw[List.length_map,q]
theorem nM{pins:aV}{σ σ' : St}{H H' : Hp}{s s' : Shared}{scope:Scope}{N:List Str}{fp:List Addr}{C:Addr}{h' : Heap}{xe:dw}
 (I:Inv X pins σ H s) (hf:∀ b∈fp,nV X pins H b) (hC:s.heap.objs.size<=C) (J:Inv (dc X N scope xe C s H fp) [] σ' H' s') (sb:Heap.SameBut C s'.heap h'):Inv X pins σ H' { s' with heap:=h'}:=by
 have Oa:H' C=none:=J.free;refine I.HE (ch:=fp) J.os ?_ ?_ J.bare (fun b hb=>?_)
 ·have u:Un (frs X.stack) fp H H' s.heap s'.heap:=J.base;have ne:∀ b o,s.heap.get? b=some o->b≠C:=fun b o e=>Nat.ne_of_lt (Nat.lt_of_lt_of_le (Heap.lt_size e) hC)
  refine⟨fun b o e n hb hx=>(sb.2 b (ne b o e)).trans (u.keep b o e n hb hx),fun b o e n hb hx=>?_,u.free,fun b o e hx=>?_,u.tups,u.kG,u.lV⟩
  ·obtain⟨sl,q⟩:=u.slot b o e n hb hx;exact⟨sl,(sb.2 b (ne b o e)).trans q⟩
  ·obtain⟨o',q⟩:=u.there b o e hx;exact⟨o',(sb.2 b (ne b o e)).trans q⟩
 ·intro b ob e;refine(J.hok b ob e).stay (fun c w' hc q=>(sb.2 c ?_).trans q) (fun _ q=>q) fun _ _ q=>q
  rintro rfl;rcases hc with rfl|hc
  ·rw[Oa]at e;cases e
  ·rw[Oa]at hc;cases hc
 ·obtain⟨_,f1,_,f3,f4,f5⟩:=hf b hb;exact⟨f3,f1,f4,f5⟩
end
section
variable {prog:Program}{w:World}{A:Around}{R:Result->Shared->Prop}{s:Shared}
abbrev Ej(ifs:List Expr)(env:Env):Sem Bool:=forIn ifs true fun c r=>if r=true then do let ok←isTrue c env (eval c env);pure (ForInStep.yield ok) else pure (ForInStep.yield r)
theorem yr{elt target iter:Expr}{ifs:List Expr}{scope:Scope}{pos:Pos}{it acc:Value}{env:Env}(I:Nat->Shared->Prop)
 (turn:∀ n s,I n s->wpAny (model prog w) A (pyNext it) (fun r s₁=>match r with
  | none=>R (.ok .next) s₁
  | some v=>wpAny (model prog w) A (letOwnedTupleGo target it v) (fun _ s₀=>wpAny (model prog w) A (assign target env v) (fun _ s₂ =>
   wpAny (model prog w) A (Ej ifs env) (fun ok s₃ =>
    if ok=true then wpAny (model prog w) A (eval elt env) (fun x s₄ =>
     wpAny (model prog w) A (call (.builtin "list.append") [acc,x]) (fun _ s₅=>∃ m,m<n/\I m s₅) (notedBy (model prog w) A env fun e s'=>R (.error e) s') s₄) (notedBy (model prog w) A env fun e s'=>R (.error e) s') s₃
    else ∃ m,m<n/\I m s₃) (notedBy (model prog w) A env fun e s'=>R (.error e) s') s₂) (notedBy (model prog w) A env fun e s'=>R (.error e) s') s₀) (notedBy (model prog w) A env fun e s'=>R (.error e) s') s₁) (notedBy (model prog w) A env fun e s'=>R (.error e) s') s)
 (n:Nat) (h:I n s) :
 codeAny (model prog w) A (.compLoop (.ListComp elt [⟨target,iter,ifs,0⟩] scope pos) 0 it acc env) R s:=by
 refine codeAny_loop rfl I (fun n s hI=>?_) n h
 show wpAny _ A ((compTurn (.ListComp elt [⟨target,iter,ifs,0⟩] scope pos) 0 it acc env).onRaise (fun x=>do noteFrame x env;theTreesLotGoes x)) _ _ s
 refine wpAny_noted ?_;rw[compTurn_list];refine wpAny_bind (wpAny_standAt (wpAny_bind (wpAny_mono (turn n s hI) (fun r s₁ h₁=>?_) fun _ _ h'=>h')))
 cases r with
 | none=>exact wpAny_pure h₁
 | some v =>
   refine wpAny_bind (wpAny_mono h₁ (fun _ s₀ h₀=>?_) fun _ _ h'=>h')
   refine wpAny_bind (wpAny_mono h₀ (fun _ s₂ h₂=>wpAny_bind (wpAny_mono h₂ (fun ok s₃ h₃=>?_) fun _ _ h'=>h')) fun _ _ h'=>h')
   cases ok with
   | false=>exact wpAny_pure ⟨rfl,h₃⟩
   | true =>
     exact wpAny_bind (wpAny_bind (wpAny_mono h₃ (fun x s₄ h₄=>wpAny_bind (wpAny_mono h₄ (fun _ s₅ h₅=>wpAny_pure (wpAny_pure ⟨rfl,h₅⟩)) fun _ _ h'=>h')) fun _ _ h'=>h'))
end
def Ra(X:Cx)(ifs:List Expr)(t:TT):Prop :=
 ∀(pins:aV) (s:Shared) (σ:St) (H:Hp) (Q:Bool->Hp->Prop),Inv X pins σ H s->t σ H Q->wpAny (model X.prog X.w) X.A (Ej ifs X.env) (TP X pins σ Q) X.xe s
def Rb:TT:=fun _ H Q=>Q true H
theorem bY{X:Cx}:Ra X [] Rb:=fun _ _ _ H _ I h=>wpAny_tests_nil ⟨H,I,h⟩
theorem cR{X:Cx}{c:Expr}{t:TT}(h:PT X c t):Ra X [c] t:=fun pins s σ H Q I q=>wpAny_tests_one (h pins s σ H Q I q)
def iw(J:It)(g:TG)(tt:TT)(te:TE)(n:Nat)(fr:St)(D:Addr)(Q:Hp->Prop)(H1:Hp):Prop :=
 ∃ W:Nat->Nat->List V->Hp->Prop,(∃ m,W 0 m [] H1)/\∀ i m acc H,W i m acc H->H D=some (.lst acc)/\
   ((J.stop i H/\Q H)\/(J.go i H/\acc.length<sizeLine/\∃ N:List V->Hp->Prop,(∀ acc' H',N acc' H'->∃ m',m'<m/\W (i+1) m' acc' H')/\
     ∀ x H',J.HJ i H x H'->g x (List.replicate n none++fr) H' fun σ2 H2=>σ2.drop n=fr/\tt σ2 H2 fun b H3 =>
     if b=true then te σ2 H3 fun v H4=>H4 D=some (.lst acc)/\N (acc++[v]) (upd H4 D (.lst (acc++[v])))
     else N acc H3))
def M6(wi:TI)(g:TG)(tt:TT)(te:TE)(n:Nat)(js:List Nat):TE:=fun σ H Q=>wi σ H fun J H1=>∀ D,H1 D=none->iw J g tt te n (fj σ js) D (fun H2=>Q (.ref D) H2) (upd H1 D (.lst []))
structure M7(A:Around)(cm:Bool)(P:Program)(w:World)(K:bK)(tg:Expr)(J:It)(fp:List Addr)(it:Addr)(tn:Nat->Heap->Prop):Prop where
 mem:it∈fp
 obj:∀ i h,tn i h->∀ b∈fp,∃ o,h.get? b=some o/\∀ v,o.data≠.cell v
 keep:∀ i h h',tn i h->(∀ b∈fp,∀ o,h.get? b=some o->h'.get? b=some o)->tn i h'
 item:∀(X:Cx),X.prog=P->X.w=w->X.K=K->X.A=A->X.calm=cm->∀(i:Nat) (pins:aV) (s:Shared) (σ:St) (H:Hp) (E:dw),Inv X pins σ H s->(∀ b∈fp,nV X pins H b)->tn i s.heap->J.go i H->
  wpAny (model P w) X.A (pyNext (.ref it)) (fun r s1=>∃ u,r=some u/\
   wpAny (model P w) X.A (letOwnedTupleGo tg (.ref it) u) (fun _ s2=>∃ x H',Inv X pins σ H' s2/\RelV x u/\J.HJ i H x H'/\tn (i+1) s2.heap/\∀ b∈fp,H' b=none) E s1) E s
 done:∀(X:Cx),X.prog=P->X.w=w->X.K=K->X.A=A->X.calm=cm->∀(i:Nat) (pins:aV) (s:Shared) (σ:St) (H:Hp) (E:dw),Inv X pins σ H s->(∀ b∈fp,nV X pins H b)->tn i s.heap->J.stop i H->
  wpAny (model P w) X.A (pyNext (.ref it)) (fun r s1=>r=none/\Inv X pins σ H s1) E s
 self:∀(A:Around) (i:Nat) (s:Shared) (Q:dw) (E:dw),tn i s.heap->Q (.ref it) s->wpAny (model P w) A (pyIter (.ref it)) Q E s
theorem Turn.x{A:Around}{cm:Bool}{P:Program}{w:World}{K:bK}{tg:Expr}{J:It}{fp:List Addr}{it:Addr}{tn:Nat->Heap->Prop}(T:Turn P w K tg J fp it tn)(hc:cm=true):M7 A cm P w K tg J fp it tn :=
 ⟨T.mem,T.obj,T.keep,fun X a b c _ d=>T.item X a b c (d.trans hc),fun X a b c _ d=>T.done X a b c (d.trans hc),T.self⟩
section
variable {X:Cx}{elt iter tg:Expr}{ifs:List Expr}{scope:Scope}{pos:Pos}{own frees:List Str}{js:List Nat}{wi:TI}{g:TG}{tt:TT}{te:TE}
theorem ud{pins:aV}{σ:St}{H2:Hp}{s2:Shared}{it:Addr}{fp:List Addr}{tn:Nat->Heap->Prop}{J:It}{E:dw}{RR:Value->Addr->Result->Shared->Prop}{QQ:Addr->Hp->Prop}
 (T:dI X scope own frees js)
 (hg:∀ C s H fp,PG (dc X (own++frees) scope (fun _ _=>False) C s H fp) tg g)
 (ht:∀ C s H fp,Ra (dc X (own++frees) scope (fun _ _=>False) C s H fp) ifs tt)
 (he:∀ C s H fp,PE (dc X (own++frees) scope (fun _ _=>False) C s H fp) elt te)
 (I2:Inv X pins σ H2 s2) (Hu:M7 X.A X.calm X.prog X.w X.K tg J fp it tn) (st2:tn 0 s2.heap) (f2:∀ b∈fp,nV X pins H2 b)
 (hl:∀ D,H2 D=none->iw J g tt te own.length (fj σ js) D (QQ D) (upd H2 D (.lst [])))
 (hRR:∀ D C σ' H' s',s2.heap.objs.size<=C->Inv (dc X (own++frees) scope (fun _ _=>False) C s2 H2 fp) [] σ' H' s'->QQ D H'->RR (.ref D) C (.ok .next) s') :
 wpAny (model X.prog X.w) X.A (newList []) (fun acc s₃=>wpAny (model X.prog X.w) X.A (newFunctionEnv scope X.env.globals (c9 X.env.cells scope.names []) [] X.env.qual none .none (some X.env)) (fun cenv s₄ =>
  codeAny (model X.prog X.w) X.A (.compStart (.ListComp elt [⟨tg,iter,ifs,0⟩] scope pos) 0 (.ref it) acc { cenv with scope:=relabel scope X.env}) (RR acc cenv.locals) s₄) E s₃) E s2:=by
 refine wpAny_newObj_type (wpAny_newFunctionEnv T.yq (by intro y hy;simp at hy) (fun h₁ Ob LO=>?_) T.kind)
 dsimp only at Ob LO ⊢;generalize LP:s2.heap.push { cls:=.type "list",dict:=none,data:=.seq ([]:List Value).toArray}=G2 at Ob LO ⊢;have hC:G2.objs.size=s2.heap.objs.size+1:=by rw[<-LP,Heap.size_push]
 have hDC:s2.heap.objs.size≠G2.objs.size:=by rw[hC];exact Nat.ne_of_lt (Nat.lt_succ_self _)
 have Rc:s2.heap.objs.size<=G2.objs.size:=by rw[hC];exact Nat.le_succ _
 have below:∀ b,b<s2.heap.objs.size->b≠G2.objs.size:=fun b hb=>by rw[hC];exact Nat.ne_of_lt (Nat.lt_succ_of_lt hb)
 have old:∀ b o,s2.heap.get? b=some o->h₁.get? b=some o:=fun b o e=>LO.extBut b o (below b (Heap.lt_size e)) (Heap.get?_push_of_some _ (LP▸Heap.get?_push_of_some _ e))
 have hacc:h₁.get? s2.heap.objs.size=some { cls:=.type "list",data:=.seq ([]:List Value).toArray 0}:=LO.extBut _ _ hDC (Heap.get?_push_of_some _ (LP▸Heap.get?_push_size _ rfl));have UR:∀ b∈fp,∃ o,s2.heap.get? b=some o:=fun b hb=>let⟨o,e,_⟩:=Hu.obj _ _ st2 b hb;⟨o,e⟩
 have st1:tn 0 h₁:=Hu.keep _ _ _ st2 fun b _ o e=>old b o e
 obtain⟨W,⟨m0,w0⟩,turn⟩:=hl s2.heap.objs.size (I2.hok.fresh (Nat.le_refl _));have hfx:∀{H' : Hp},(∀ b∈fp,H' b=none)->∀ b∈fp,nV (dc X (own++frees) scope (fun _ _=>False) G2.objs.size s2 H2 fp) [] H' b:=fun {H'} hn b hb=>by
  obtain⟨_,f1,Zp,_,f4,_⟩:=f2 b hb;obtain⟨o,ho⟩:=UR b hb;refine⟨hn b hb,below b (Heap.lt_size ho),fun z=>?_,.inl hb,fun x c e=>?_,fun p hp=>absurd (show p∈([]:aV) from hp) (by simp)⟩
  ·rcases List.mem_cons.mp (I2.tQ b z) with q|q
   ·exact f1 q
   ·exact Zp q
  ·rcases jA (show(c9 X.env.cells scope.names []).lookup x=some c from e) with q|⟨q1,q2⟩
   ·cases q
   ·obtain⟨c',hc'⟩:=gO I2 T x .free q1 rfl;rw[hc']at q2;have q2:c' = c:=q2;rw[<-q2];exact f4 x c' hc'
 have Zq:∀ b∈fp,upd H2 s2.heap.objs.size (.lst []) b=none:=fun b hb=>by
  obtain⟨o,ho⟩:=UR b hb;rw[aq (Nat.ne_of_lt (Heap.lt_size ho))];exact(f2 b hb).1
 have back:∀{σ6:St} {p6:aV} {H6:Hp} {s6:Shared},Inv (dc X (own++frees) scope (fun _ _=>False) G2.objs.size s2 H2 fp) p6 σ6 H6 s6->σ6.drop own.length=fj σ js->
  Inv (dc X (own++frees) scope (fun _ _=>False) G2.objs.size s2 H2 fp) [] (List.replicate own.length none++fj σ js) H6 s6:=fun {σ6 p6 H6 s6} I6 hd=>by
  have Zr:σ6.length=(own++frees).length:=I6.len;have J6:=I6.gn (DW:=[]) fun p hp=>absurd hp (by simp)
  refine J6.weak ?_ fun i v e=>?_
  ·have q:=congrArg List.length hd;rw[List.length_drop]at q;rw[List.length_append]at Zr;rw[List.length_append,List.length_replicate]
   lia
  ·by_cases hi:i<own.length
   ·rw[List.getElem?_append_left (by simpa using hi),List.getElem?_replicate,if_pos hi]at e
    cases e
   ·rw[List.getElem?_append_right (by simpa using hi),List.length_replicate,<-hd,List.getElem?_drop]at e
    rw[show own.length+(i-own.length)=i by lia]at e
    exact e
 have loop:∀ s₃:Shared,s₃={ s2 with heap:=h₁,toks:=s2.toks+([]:List (Str×Value)).length}->
  codeAny (model X.prog X.w) X.A (.compLoop (.ListComp elt [⟨tg,iter,ifs,0⟩] scope pos) 0 (.ref it) (.ref s2.heap.objs.size) (compEnvC scope (c9 X.env.cells scope.names []) G2.objs.size X.env))
   (RR (.ref s2.heap.objs.size) G2.objs.size) s₃:=by
  rintro s₃ rfl;refine yr (fun n s'=>∃ i acc H',Inv (dc X (own++frees) scope (fun _ _=>False) G2.objs.size s2 H2 fp) [] (List.replicate own.length none++fj σ js) H' s'/\tn i s'.heap/\(∀ b∈fp,H' b=none)/\W i n acc H') ?_ m0
   ⟨0,[],upd H2 s2.heap.objs.size (.lst []),Ic I2 T f2 UR (Nat.le_refl _) Rc hDC old hacc Ob,st1,Zq,w0⟩
  rintro n s3 ⟨i,acc,H3,I3,st3,MZ,w3⟩;obtain⟨oN,Rf⟩:=turn i n acc H3 w3;rcases Rf with⟨stop,qn⟩|⟨go,hz,NN,WI,step⟩
  ·refine wpAny_mono (Hu.done (dc X (own++frees) scope (fun _ _=>False) G2.objs.size s2 H2 fp) rfl rfl rfl rfl rfl i [] s3 _ H3 (fun _ _=>False) I3 (hfx MZ) st3 stop) (fun r s4 ⟨hr,I4⟩=>?_) fun _ _ z=>z.elim
   subst hr;exact hRR _ _ _ H3 s4 Rc I4 qn
  ·refine wpAny_mono (Hu.item (dc X (own++frees) scope (fun _ _=>False) G2.objs.size s2 H2 fp) rfl rfl rfl rfl rfl i [] s3 _ H3 (fun _ _=>False) I3 (hfx MZ) st3 go) (fun r s4 ⟨u,hr,h4⟩=>?_) fun _ _ z=>z.elim
   subst hr;refine wpAny_mono h4 (fun _ s5 ⟨x,H5,I5,r5,y5,HN,QT⟩=>?_) fun _ _ z=>z.elim
   have QU:=I5.pinned (hfx QT) (Hu.obj _ _ HN);refine wpAny_mono (hg _ _ _ _ _ s5 _ H5 x u _ QU r5 (step x H5 y5)) (fun _ s6 ⟨σ6,H6,I6,WJ,q6⟩=>?_) fun _ _ z=>z.elim
   refine wpAny_mono (ht _ _ _ _ _ s6 σ6 H6 _ I6 q6) (fun ok s7 ⟨H7,I7,q7⟩=>?_) fun _ _ z=>z.elim
   have again:∀{H8:Hp} {s8:Shared},Inv (dc X (own++frees) scope (fun _ _=>False) G2.objs.size s2 H2 fp) ([]++qi fp s5.heap) σ6 H8 s8->tn (i+1) s8.heap/\∀ b∈fp,H8 b=none:=fun {H8 s8} I8=>by
    refine⟨Hu.keep _ _ _ HN fun b hb o e=>(I8.pin (b,o) (List.mem_append_right _ (List.mem_append_right _ (gJ hb e)))).1,fun b hb=>?_⟩
    obtain⟨o,e,d⟩:=Hu.obj _ _ HN b hb;exact(I8.pin (b,o) (List.mem_append_right _ (List.mem_append_right _ (gJ hb e)))).2.1
   cases ok with
   | false =>
     rw[if_neg Bool.false_ne_true];obtain⟨m',hm,w7⟩:=WI _ _ q7;obtain⟨t7,n7⟩:=again I7;exact⟨m',hm,i+1,acc,H7,back I7 WJ,t7,n7,w7⟩
   | true =>
     rw[if_pos rfl];refine wpAny_mono (he _ _ _ _ _ s7 σ6 H7 _ I7 q7) (fun xv s8 ⟨v,H8,I8,r8,xh,q8⟩=>?_) fun _ _ z=>z.elim
     obtain⟨m',hm,w8⟩:=WI _ _ q8;refine wpAny_mono (c8 (X:=dc X (own++frees) scope (fun _ _=>False) G2.objs.size s2 H2 fp) _ s8 σ6 H8 (.ref s2.heap.objs.size) [v] (.ref s2.heap.objs.size) [xv] (fun y H9=>y = .eM/\H9=upd H8 s2.heap.objs.size (.lst (acc++[v]))) I8 rfl (.cons r8 .nil) ⟨_,acc,v,rfl,rfl,xh,hz,rfl,rfl⟩)
      (fun _ s9 ⟨y,H9,I9,_,_,e9⟩=>?_) fun _ _ z=>z.elim
     subst e9;obtain⟨t9,n9⟩:=again I9;exact⟨m',hm,i+1,acc++[v],_,back I9 WJ,t9,n9,w8⟩
 exact codeAny_compStart_list (loop _ rfl) (Hu.self _ 0 _ _ _ st1 (loop _ rfl))
theorem bx(T:dI X scope own frees js)(hc:X.calm=true)(hi:PI X tg iter wi)
 (hg:∀ C s H fp,PG (dc X (own++frees) scope (fun _ _=>False) C s H fp) tg g)
 (ht:∀ C s H fp,Ra (dc X (own++frees) scope (fun _ _=>False) C s H fp) ifs tt)
 (he:∀ C s H fp,PE (dc X (own++frees) scope (fun _ _=>False) C s H fp) elt te)
 (hs:∀ x,foldedSetIterable iter X.env x=pure x:=by intro _;rfl) :
 PE X (.ListComp elt [⟨tg,iter,ifs,0⟩] scope pos) (M6 wi g tt te own.length js):=by
 intro pins s σ H Q I h;rw[eval_ListComp];refine wpAny_comprehension_free (use:=none) rfl hs (nW (gO I T)) T.kind T.names ?_;refine wpAny_mono (hi pins s σ H _ I h) (fun v s1 h1=>wpAny_mono h1 (fun itv s2 h2=>?_) fun _ _ z=>z) fun _ _ z=>z
 obtain⟨it,fp,tn,J,H2,e,I2,Hu,st2,f2,hl⟩:=h2;subst e;refine ud (QQ:=fun D H'=>Q (.ref D) H') T hg ht he I2 (Hu.x hc) st2 f2 hl fun D C σ' H' s' hC J' q=>?_
 obtain⟨m,hn,_⟩:=J'.loc;exact⟨m,hn,fun h' sb=>⟨.ref D,H',nM I2 f2 hC J' sb,rfl,q⟩⟩
def Ie(i:Nat)(wi:TI)(g:TG)(tt:TT)(te:TE)(n:Nat)(js:List Nat):TS:=fun D σ H=>M6 wi g tt te n js σ H fun v H1=>D.nx (σ.set i (some v)) H1
theorem eR{i:Nat}{x:Str}{pos' spos:Pos}(hN:X.N.Nodup)(hix:X.N[i]?=some x)(hx:X.env.scope.names.lookup x=some .local)(T:dI X scope own frees js)(hc:X.calm=true)(hi:PI X tg iter wi)
 (hg:∀ C s H fp,PG (dc X (own++frees) scope (fun _ _=>False) C s H fp) tg g)
 (ht:∀ C s H fp,Ra (dc X (own++frees) scope (fun _ _=>False) C s H fp) ifs tt)
 (he:∀ C s H fp,PE (dc X (own++frees) scope (fun _ _=>False) C s H fp) elt te)
 (hsw:swapsWith (.ListComp elt [⟨tg,iter,ifs,0⟩] scope pos) (some (.Name x pos')) spos.line X.env=pure true:=by rfl)
 (hs:∀ x,foldedSetIterable iter X.env x=pure x:=by intro _;rfl) :
 PS X (.Assign [.Name x pos'] (.ListComp elt [⟨tg,iter,ifs,0⟩] scope pos) spos) (Ie i wi g tt te own.length js):=by
 intro pins s σ H D I h;rw[exec_Assign_Name_used _ _ _ _ hsw];refine wpAny_bind (wpAny_standAt (wpAny_bind ?_));show wpAny _ X.A (do let _←comprehension (.ListComp elt [⟨tg,iter,ifs,0⟩] scope pos) scope X.env _ (newList []) false (eval iter X.env) (some (assign (.Name x pos') X.env))) _ _ s
 refine wpAny_bind (wpAny_mono (wpAny_comprehension_free (use:=some (assign (.Name x pos') X.env)) (Q:=fun _ s'=>SP X pins D .next s') rfl hs (nW (gO I T)) T.kind T.names ?_) (fun _ s' hq=>wpAny_pure (wpAny_pure hq)) fun _ _ e=>e)
 refine wpAny_mono (hi pins s σ H _ I h) (fun v s1 h1=>wpAny_mono h1 (fun itv s2 h2=>?_) fun _ _ z=>z) fun _ _ z=>z
 obtain⟨it,fp,tn,J,H2,e,I2,Hu,st2,f2,hl⟩:=h2;subst e;refine ud (QQ:=fun D' H'=>D.nx (σ.set i (some (.ref D'))) H') T hg ht he I2 (Hu.x hc) st2 f2 hl fun D' C σ' H' s' hC J' q=>?_
 have I3:Inv X pins σ H' s':=by
  obtain⟨hh,gg,dd,tt',oo⟩:=s';exact nM I2 f2 hC J' (Heap.SameBut.refl ..)
 obtain⟨m,hn,_⟩:=J'.loc;obtain⟨oC,es,ep,Zs,WK,rest⟩:=id hn;have Oa:H' C=none:=J'.free;have WL:C≠X.env.locals:=Nat.ne_of_gt (Nat.lt_of_lt_of_le I2.lt hC);have Zt:C∉X.fs:=fun z=>by
  obtain⟨_,o,ho,_⟩:=I2.funs.mem z;exact absurd (Nat.lt_of_lt_of_le (Heap.lt_size ho) hC) (Nat.lt_irrefl _)
 have I4:Inv X (pins++[(C,oC)]) σ H' s':=I3.gn fun p hp=>(List.mem_append.mp hp).elim (fun z=>I3.pin p (List.mem_append_right _ z)) fun z=>by
  have e:p=(C,oC):=by simpa using z
  subst e;exact⟨Zs,Oa,WL,Zt,fun v z=>by have z' : oC.data = .cell v:=z;rw[WK]at z';cases z'⟩
 show wpAny _ X.A (assign (.Name x pos') X.env (.ref D')) _ _ _;refine wpAny_assign_Name (oU (v:=.ref D') I4 hN hix (.inl hx) rfl (fun s5 I5=>?_) (.inr hx))
 have e5:s5.heap.get? C=some oC:=(I5.pin (C,oC) (List.mem_append_right _ (List.mem_append_right _ (by simp)))).1
 refine⟨m,⟨oC,es,ep,e5,WK,rest⟩,fun h' sb=>⟨_,H',?_,q⟩⟩
 have I6:Inv X pins (σ.set i (some (.ref D'))) H' s5:=I5.jf;refine I6.turned (t':=s5.toks) (fun b o hb e=>(sb.2 b hb).trans e) Oa WL (.inr (Nat.le_trans I2.sz hC)) (fun y c e=>?_) (fun p hp z=>?_)
 ·obtain⟨v,qc⟩:=I2.cell y c e;exact Nat.ne_of_lt (Nat.lt_of_lt_of_le qc.lt hC)
 ·have Qa:=(I2.pin p hp).1;exact absurd (Nat.lt_of_lt_of_le (Heap.lt_size Qa) (by rw[z];exact hC)) (Nat.lt_irrefl _)
end
section
variable {K:bK}{a:Addr}{xs:List V}{g:TG}{tt:TT}{te:TE}{n:Nat}{fr:St}{D:Addr}{Q:Hp->Prop}{H1:Hp}
theorem bj(Pv:Nat->List V->Hp->Prop)(h0:Pv 0 [] H1)(hl:∀ i acc H,i<=xs.length->Pv i acc H->aO K H a xs/\H D=some (.lst acc)/\acc.length<=i)(hz:xs.length<=sizeLine)
 (hs:∀ i x acc H,xs[i]?=some x->Pv i acc H->g x (List.replicate n none++fr) H fun σ2 H2=>σ2.drop n=fr/\tt σ2 H2 fun b H3 =>
  if b=true then te σ2 H3 fun v H4=>H4 D=some (.lst acc)/\Pv (i+1) (acc++[v]) (upd H4 D (.lst (acc++[v]))) else Pv (i+1) acc H3)
 (hd:∀ acc H,Pv xs.length acc H->Q H):iw (Lw K a) g tt te n fr D Q H1:=by
 refine⟨fun i m acc H=>m=xs.length-i/\i<=xs.length/\Pv i acc H,⟨xs.length,by simp,Nat.zero_le _,h0⟩,?_⟩
 rintro i m acc H ⟨rfl,hi,p⟩;obtain⟨q,hD,ha⟩:=hl i acc H hi p;refine⟨hD,?_⟩
 by_cases hlt:i<xs.length
 ·refine .inr ⟨⟨xs,xs[i],q,by simp[hlt]⟩,by lia,Pv (i+1),fun acc' H' p'=>⟨xs.length-(i+1),by lia,rfl,hlt,p'⟩,fun x H' y=>?_⟩
  obtain⟨e,y⟩:=y;subst e;exact hs i x acc _ (y xs q) p
 ·have e:i=xs.length:=by lia
  subst e;exact .inl ⟨⟨xs,q,Nat.le_refl _⟩,hd acc H p⟩
theorem o9(Pv:Nat->List V->Hp->Prop)(h0:Pv 0 [] H1)(hl:∀ i acc H,i<=xs.length->Pv i acc H->aP K H a xs/\H D=some (.lst acc)/\acc.length<=i)(hz:xs.length<=sizeLine)
 (hs:∀ i x acc H,xs[i]?=some x->Pv i acc H->g x (List.replicate n none++fr) H fun σ2 H2=>σ2.drop n=fr/\tt σ2 H2 fun b H3 =>
  if b=true then te σ2 H3 fun v H4=>H4 D=some (.lst acc)/\Pv (i+1) (acc++[v]) (upd H4 D (.lst (acc++[v]))) else Pv (i+1) acc H3)
 (hd:∀ acc H,Pv xs.length acc H->Q H):iw (P7 K a) g tt te n fr D Q H1:=by
 refine⟨fun i m acc H=>m=xs.length-i/\i<=xs.length/\Pv i acc H,⟨xs.length,by simp,Nat.zero_le _,h0⟩,?_⟩
 rintro i m acc H ⟨rfl,hi,p⟩;obtain⟨q,hD,ha⟩:=hl i acc H hi p;refine⟨hD,?_⟩
 by_cases hlt:i<xs.length
 ·refine .inr ⟨⟨xs,xs[i],q,by simp[hlt]⟩,by lia,Pv (i+1),fun acc' H' p'=>⟨xs.length-(i+1),by lia,rfl,hlt,p'⟩,fun x H' y=>?_⟩
  obtain⟨e,y⟩:=y;subst e;exact hs i x acc _ (y xs q) p
 ·have e:i=xs.length:=by lia
  subst e;exact .inl ⟨⟨xs,q,Nat.le_refl _⟩,hd acc H p⟩
theorem cz{lo:Int}{m:Nat}(Pv:Nat->List V->Hp->Prop)(h0:Pv 0 [] H1)(hl:∀ i acc H,i<=m->Pv i acc H->H D=some (.lst acc)/\acc.length<=i)(hz:m<=sizeLine)
 (hs:∀ i acc H,i<m->Pv i acc H->g (.int (lo+i)) (List.replicate n none++fr) H fun σ2 H2=>σ2.drop n=fr/\tt σ2 H2 fun b H3 =>
  if b=true then te σ2 H3 fun v H4=>H4 D=some (.lst acc)/\Pv (i+1) (acc++[v]) (upd H4 D (.lst (acc++[v]))) else Pv (i+1) acc H3)
 (hd:∀ acc H,Pv m acc H->Q H):iw (Lb lo m) g tt te n fr D Q H1:=by
 refine⟨fun i k acc H=>k=m-i/\i<=m/\Pv i acc H,⟨m,by simp,Nat.zero_le _,h0⟩,?_⟩
 rintro i k acc H ⟨rfl,hi,p⟩;obtain⟨hD,ha⟩:=hl i acc H hi p;refine⟨hD,?_⟩
 by_cases hlt:i<m
 ·refine .inr ⟨hlt,by lia,Pv (i+1),fun acc' H' p'=>⟨m-(i+1),by lia,rfl,hlt,p'⟩,fun x H' y=>?_⟩
  obtain⟨e,y⟩:=y;subst e y;exact hs i acc _ hlt p
 ·have e:i=m:=by lia
  subst e;exact .inl ⟨Nat.le_refl _,hd acc H p⟩
end
def z7(scope Rg:Scope)(N frees:List Str)(js:List Nat):Bool :=
 decide (scope.kind = .function)&&scope.names.all (fun y=>decide (y.2≠.cell))&&scope.names.all (fun y=>decide (y.2 = .local->scope.names.lookup y.1=some .local)) &&
 scope.names.all (fun y=>decide (y.2 = .free->Rg.names.lookup y.1=some .cell\/Rg.names.lookup y.1=some .free))&&decide (js.map (fun j=>N[j]?)=frees.map some)&&frees.all (fun x=>decide (scope.names.lookup x=some .free))
theorem az{X:Cx}{scope:Scope}{own frees:List Str}{js:List Nat}(Rg:Scope)(N:List Str)(h1:X.env.scope=Rg:=by rfl)(h2:X.N=N:=by rfl)(h:z7 scope Rg N frees js=true:=by decide +kernel):dI X scope own frees js:=by
 unfold z7 at h;simp only[Bool.and_eq_true,decide_eq_true_eq,List.all_eq_true]at h;obtain⟨⟨⟨⟨⟨a,b⟩,c⟩,d⟩,e⟩,f⟩:=h;exact⟨a,b,c,by rw[h1];exact d,by rw[h2];exact e,f⟩
mutual
inductive nB(K:bK)(H:Hp):V->PyData->Prop
 | eM:nB K H .eM .none
 | bl (b:Bool):nB K H (.bl b) (.bool b)
 | int (i:Int):nB K H (.int i) (.int i)
 | str (x:Str):nB K H (.str x) (.str x)
 | lst {a:Addr} {xs:List V} {ds:List PyData} (h:aO K H a xs) (r:DatVs K H xs ds):nB K H (.ref a) (.list ds)
 | tup {a:Addr} {xs:List V} {ds:List PyData} (h:aP K H a xs) (r:DatVs K H xs ds):nB K H (.ref a) (.tuple ds)
inductive DatVs(K:bK)(H:Hp):List V->List PyData->Prop
 | nil:DatVs K H [] []
 | cons {x:V} {d:PyData} {xs:List V} {ds:List PyData} (h:nB K H x d) (r:DatVs K H xs ds):DatVs K H (x::xs) (d::ds)
end
section
variable {X:Cx}{pins:aV}{σ:St}{H:Hp}{s:Shared}
mutual
theorem nB.reads(I:Inv X pins σ H s):∀{v:V} {d:PyData} {u:Value},nB X.K H v d->RelV v u->∃ as,Reads s.heap u d as
 | _,_,u,.eM,r=>by cases(show u=Value.none from r);exact⟨_,.none⟩
 | _,_,u,.bl b,r=>by cases(show u=Value.bool b from r);exact⟨_,.bool b⟩
 | _,_,u,.int i,r=>by obtain⟨t,rfl⟩:=(show ∃ t,u=Value.int i t from r);exact⟨_,.int i t⟩
 | _,_,u,.str x,r=>by obtain⟨t,rfl⟩:=(show ∃ t,u=Value.str x t from r);exact⟨_,.str x t⟩
 | _,_,u,.lst (a:=a) h rs,r=>by
   cases(show u=Value.ref a from r)
   obtain⟨its,rv,⟨o,n,e,c,_,d⟩,_⟩:=I.list h;obtain⟨as,q⟩:=DatVs.reads I rs rv;exact⟨_,.list e c d (by simpa using q)⟩
 | _,_,u,.tup (a:=a) h rs,r=>by
   cases(show u=Value.ref a from r)
   obtain⟨its,rv,⟨o,e,c,n,d⟩,_⟩:=I.tuple h;obtain⟨as,q⟩:=DatVs.reads I rs rv;exact⟨_,.tuple e c d (by simpa using q)⟩
theorem DatVs.reads(I:Inv X pins σ H s):∀{vs:List V} {ds:List PyData} {us:List Value},DatVs X.K H vs ds->Vals vs us->∃ as,ReadsAll s.heap us ds as
 | _,_,_,.nil,.nil=>⟨_,.nil⟩
 | _,_,_,.cons h r,.cons rv rr=>by
   obtain⟨as,q⟩:=nB.reads I h rv;obtain⟨bs,q2⟩:=DatVs.reads I r rr;exact⟨_,.cons q q2⟩
end
end
section
variable {X:Cx}
def Rh(K:bK):R2:=fun x y H Q=>∃ d e,nB K H x d/\nB K H y e/\SeqAt.shaped d=true/\SeqAt.shaped e=true/\Q (.bl (PyData.eqv d e)) H
def Ri(K:bK):R2:=fun x y H Q=>∃ d e,nB K H x d/\nB K H y e/\SeqAt.shaped d=true/\SeqAt.shaped e=true/\Q (.bl (!PyData.eqv d e)) H
theorem Oc(hu:X.A.units+64<cLine):lO X (compareOp .Eq) (Rh X.K):=by
 intro pins s σ H x y v u Q I rx ry h;obtain⟨d,e,h1,h2,s1,s2,q⟩:=h;obtain⟨as,ra⟩:=h1.reads I rx;obtain⟨bs,rb⟩:=h2.reads I ry;exact eq_dataH ra rb s1 s2 hu ⟨.bl _,H,I,rfl,q⟩
theorem Od(hu:X.A.units+64<cLine):lO X (compareOp .NotEq) (Ri X.K):=by
 intro pins s σ H x y v u Q I rx ry h;obtain⟨d,e,h1,h2,s1,s2,q⟩:=h;obtain⟨as,ra⟩:=h1.reads I rx;obtain⟨bs,rb⟩:=h2.reads I ry;exact ne_dataH ra rb s1 s2 hu ⟨.bl _,H,I,rfl,q⟩
def Rj:V->Option Value
 | .ty n=>some (.type n)
 | .ref a=>some (.ref a)
 | _=>none
theorem LQ{c:V}{u w:Value}(h:Rj c=some u)(r:RelV c w):w=u:=by
 cases c with
 | ty n=>exact(show w=Value.type n from r).trans (Option.some.inj h)
 | ref a=>exact(show w=Value.ref a from r).trans (Option.some.inj h)
 | _=>cases h
def Rk(K:bK):List V->Hp->VK->Prop:=fun xs H Q=>∃ x c t u b,xs=[x,c]/\Rj c=some u/\ql K H x t/\PySem.W.kitOne K t u=some b/\Q (.bl b) H
theorem Ig:fC X (.builtin "isinstance") (Rk X.K):=by
 intro pins s σ H xs us Q I r h;obtain⟨x,c,t,u,b,rfl,rc,ty,e,q⟩:=h;cases r with
 | cons r1 r2 =>
   cases r2 with
   | cons r2 r3 =>
     cases r3;cases LQ rc r2;exact Fg I r1 ty e fun tk=>⟨.bl b,H,I.tok tk,rfl,q⟩
theorem Oe(K:bK):PySem.W.kitOne K (.type "int") (.type "int")=some true:=by with_unfolding_all rfl
theorem Of(K:bK):PySem.W.kitOne K (.type "int") (.type "bool")=some false:=by with_unfolding_all rfl
theorem ue(K:bK):PySem.W.kitOne K (.type "tuple") (.type "tuple")=some true:=by with_unfolding_all rfl
theorem Og(K:bK):PySem.W.kitOne K (.type "list") (.type "list")=some true:=by with_unfolding_all rfl
theorem Ek:UJ X "int.bit_length" (fun x xs H Q=>∃ i,x = .int i/\xs=[]/\Q (.int (Builtin.Int.intBits i)) H):=by
 intro pins s σ H x xs v us Q I rx rs h;obtain⟨i,rfl,rfl,q⟩:=h;obtain⟨t,rfl⟩:=rx;cases rs;exact call_int_bit_length ⟨.int _,H,I.tok _,⟨_,rfl⟩,q⟩
end
theorem dl{n:Nat}(h:Nat.ble n 1000=true):n<=sizeLine:=Nat.le_of_lt (j9 (Nat.le_of_ble_eq_true h))
theorem nC{j:Int}(h:decide (0<j)=true):0<j:=of_decide_eq_true h
theorem vS{c A B:Prop}[Decidable c](h : ¬ c)(hb:B):if decide c=true then A else B:=by
 rw[decide_eq_false h];exact cC hb
theorem Ih{c A B:Prop}[Decidable c](h:c)(ha:A):if decide c=true then A else B:=by
 rw[decide_eq_true h];exact ir ha
theorem av.new{H:Hp}{p:Addr}{o:HO}(h:H p=none):av H (upd H p o):=fun b u e=>by
 rw[aq (bg e h)];exact e
theorem av.put{H H2:Hp}{D:Addr}{o:HO}(s:av H H2)(h:H D=none):av H (upd H2 D o):=fun b u e=>by
 rw[aq (bg e h)];exact s b u e
theorem av.Zu{K:bK}{H H' : Hp}{a:Addr}{xs:List V}(e:av H H')(h:aP K H a xs):aP K H' a xs:=by
 rcases h with(h|⟨o,h⟩) | h
 ·exact .inl (.inl (e _ _ h))
 ·exact .inl (.inr ⟨o,e _ _ h⟩)
 ·exact .inr h
def c6(H H' : Hp):Prop:=∀ b xs,H b=some (.tup xs)->H' b=some (.tup xs)
theorem av.tups{H H' : Hp}(s:av H H'):c6 H H':=fun b xs e=>s b _ e
theorem c6.trans{H H1 H2:Hp}(a:c6 H H1)(b:c6 H1 H2):c6 H H2:=fun c xs e=>b c xs (a c xs e)
theorem c6.put{H:Hp}{D:Addr}{o:HO}{ys:List V}(h:H D=some (.lst ys)):c6 H (upd H D o):=fun b xs e=>by
 rw[aq (aW e h (by intro z;cases z))]
 exact e
theorem Paired.kc{α β:Type}{F:α->β->Prop}:∀{l:List α} {r:List β} {i:Nat} {x:α},Paired F l r->l[i]?=some x->∃ y,r[i]?=some y/\F x y
 | _,_,_,_,.nil,e=>by simp at e
 | _,_,0,_,.cons h _,e=>by
   simp at e;subst e;exact⟨_,rfl,h⟩
 | _,_,i+1,x,.cons _ t,e=>by
   obtain⟨y,h1,h2⟩:=Paired.kc (i:=i) (x:=x) t (by simpa using e)
   exact⟨y,by simpa using h1,h2⟩
theorem Ii(ns:List Int)(lo hi:Option Int):qm (ns.map V.int) lo hi=((ns.drop (HT.eN ns.length 0 lo)).take (HT.eN ns.length ns.length hi-HT.eN ns.length 0 lo)).map V.int:=by
 unfold qm;rw[List.length_map,<-List.map_drop,<-List.map_take]
section
variable {X:Cx}{l:Expr}{tl:TE}{tg a b o e:Expr}{ta tb to:TE}{es:List Expr}
theorem Ij(K:bK)(hu:X.A.units+64<cLine)(h:X.K=K:=by rfl):lO X (compareOp .Eq) (Rh K):=by subst h;exact Oc hu
theorem uf(K:bK)(hu:X.A.units+64<cLine)(h:X.K=K:=by rfl):lO X (compareOp .NotEq) (Ri K):=by subst h;exact Od hu
theorem z8(K:bK)(h:X.K=K:=by rfl):fC X (.builtin "isinstance") (Rk K):=by subst h;exact Ig
def US(K:bK):List V->Hp->VK->Prop:=fun xs H Q=>∃ p ys,xs=[.ref p]/\(aO K H p ys\/aP K H p ys)/\Q (.int ys.length) H
theorem ez(K:bK)(h:X.K=K:=by rfl):fC X (.builtin "len") (US K):=by subst h;exact yp
def Rl(K:bK):List V->Hp->VK->Prop:=fun xs H Q=>∃ p ys,xs=[.ref p]/\((aO K H p ys/\∀ l,H l=none->Q (.ref l) (upd H l (.tup ys)))\/(aP K H p ys/\Q (.ref p) H))
theorem El(K:bK)(h:X.K=K:=by rfl):fC X (.type "tuple") (Rl K):=by subst h;exact vR
theorem j7(K:bK)(h:X.K=K:=by rfl):P9 X (Q3 K):=by subst h;exact LH
theorem bW(K:bK)(h:X.K=K:=by rfl):P9 X (Q4 K):=by subst h;exact N6
theorem UT(K:bK)(h:X.K=K:=by rfl):Tn X (Q6 K):=by subst h;exact LI
theorem Tp(K:bK)(h:X.K=K:=by rfl):lO X (compareOp .In) (To K false):=by subst h;exact Fj
theorem Ik(K:bK)(h:X.K=K:=by rfl):lO X (compareOp .NotIn) (To K true):=by subst h;exact yo
theorem nX(K:bK)(hl:PE X l tl)(h:X.K=K:=by rfl):PI X tg l (MY K tl):=by subst h;exact Lx hl
theorem LR(K:bK)(hl:PE X l tl)(h:X.K=K:=by rfl):PI X tg l (QO K tl):=by subst h;exact NV hl
theorem Fq(K:bK){k:Nat}{t:La}{n:Nat}{pos:Pos}(hc:X.calm=true)(hp:P6 X es t)(hn:(assignEach es X.env).length=n:=by rfl)(hst:(assignEach es X.env).findIdx? (·.1)=none:=by rfl)(h:X.K=K:=by rfl):
 PG X (.Tuple es k pos) (QK K n t):=by subst h;exact NU hc hp hn hst
theorem r9{x:Str}{T:String}{pos:Pos}(hg:Gl X x)(hm:X.mg x=none)(hv:bootBuiltins x=some (.type T))(hn:x≠"__name__":=by decide)(hd:(x==("__debug__":Str))=false:=by decide):PE X (.Name x pos) (tC (.ty T)) :=
 Ls hg hm hv rfl hn hd
end
def vU(od:Option Addr)(c:Value)(e:Addr)(h:Heap):Prop:=∃ oe vs,h.get? e=some oe/\oe.data = .fields vs/\vs[2]?=some c/\oe.dict=od
theorem Il(o:Obj)(f):(o.mapFields f).dict=o.dict:=by
 obtain⟨c,d,dt,sl⟩:=o;cases dt<;>rfl
section
variable {M:Model}{A:Around}{E:dw}{s:Shared}{B:Heap}{env:Env}{outer l:List Env}{L e:Addr}{cls a0:Value}{Q:Unit->Shared->Prop}{od:Option Addr}{c:Value}
theorem yt{h:Heap}{T:Addr}{oT:Obj}{ts:Array Value}(f:Obj->Obj)(hT:h.get? T=some oT)(hd:oT.data = .fields ts):h.UpToSlots (h.update T f):=fun b o hb hn=>by
 have ne:T≠b:=fun z=>by
  rw[<-z,hT]at hb;cases hb;exact hn ts hd
 exact⟨o.slots,(Heap.get?_update_other h f ne).trans hb⟩
theorem qo{h:Heap}{T:Addr}(f:Obj->Obj)(k:B.StaysIn h)(n:B.get? T=none):B.StaysIn (h.update T f):=fun b o hb=>by
 have ne:T≠b:=fun z=>by
  rw[<-z,n]at hb;cases hb
 exact(Heap.get?_update_other h f ne).trans (k b o hb)
theorem kK{h h' : Heap}(x:h.FunFrames B l)(u:h.UpToSlots h'):h'.FunFrames B l:=x.of_keeps fun b o hb hn =>
 let⟨_,q⟩:=u b o hb hn
 ⟨_,q,rfl⟩
theorem M8{fl:Value}(hk:B.StaysIn s.heap)(hn:B.get? e=none)(hl:s.heap.FunFrames B l)(ht:s.heap.TracedAtW B e cls a0 fl)(h2:vU od c e s.heap)
 (q:∀ h',Heap.FlyingW B l e cls a0 h'->vU od c e h'->s.heap.UpToSlots h'->Q () { s with heap:=h'}):wpAny M A (setFlight (.ref e) none) Q E s:=by
 obtain⟨oe,vs,T,oT,ts,ge,hc,de,f1,nT,Te,gT,dT,f3⟩:=ht;have z3:3<ts.size:=(Array.getElem?_eq_some_iff.mp f3).1;rw[setFlight];refine wpAny_bind (wpAny_field ge de f1 ?_);rw[if_pos (by simp)]
 refine wpAny_setField gT dT z3 ?_;have up:=yt (Obj.mapFields (·.setIfInBounds 3 ((none:Option Addr).elim Value.none fun f=>rawInt f))) gT dT
 have Tq:=(Heap.get?_update_other s.heap (Obj.mapFields (·.setIfInBounds 3 ((none:Option Addr).elim Value.none fun f=>rawInt f))) Te).trans ge
 have WM:=Obj.data_mapFields dT (·.setIfInBounds 3 ((none:Option Addr).elim Value.none fun f=>rawInt f))
 refine q _ ⟨qo _ hk nT,hn,kK hl up,oe,vs,T,_,_,Tq,hc,de,f1,nT,Te,Heap.get?_update_self _ gT (Obj.isFreed_of_fields WM),WM,by simp[z3]⟩ ?_ up
 obtain⟨o2,v2,g2,d2,k2,z2⟩:=h2;rw[ge]at g2;cases g2;exact⟨oe,v2,Tq,d2,k2,z2⟩
theorem Im{oe:Obj}{vs:Array Value}{head:Value}{hadNext:Bool}(hfr:A.frames=some (env::outer))(hl:s.heap.FunFrames B (env::outer))(hf:env.frame=some L)(ge:s.heap.get? e=some oe)(hk:B.StaysIn s.heap)(hn:B.get? e=none)
 (de:oe.data = .fields vs) (hz:1<vs.size) (h0:vs[0]?=some a0) (h2:vs[2]?=some c) (hz2:oe.dict=od)
 (q:∀ h',Heap.HeldW B (env::outer) e oe.cls a0 L h'->vU od c e h'->s.heap.UpToSlots h'->Q () { s with heap:=h'}) :
 wpAny M A (do let a←frameOf env;let pl←entryPlaceOf L hadNext;let b←EntryCells.newEntry head a .none (rawInt L) .none pl;setField (.ref e) 1 b) Q E s:=by
 have UU:e∉(env::outer).filterMap (·.frame):=fun z=>by
  obtain⟨_,o,ho,nf⟩:=hl.mem z;rw[ge]at ho;cases ho;exact nf vs de
 refine wpAny_bind (wpAny_frameOf_fun hfr hl hf fun h1 so=>wpAny_bind (wpAny_entryPlaceOf fun pl ip=>?_))
 rw[EntryCells.newEntry,newFields];refine wpAny_bind (wpAny_newObj_type ?_ (ip.sizeOk5 _ _ _ _ _));generalize hnw:({ cls:=.type "traceback",dict:=none,data:=.fields ([head,.ref L,.none,rawInt L,.none]++(if pl.isEmpty then List.replicate 6 Value.none else pl)).toArray}:Obj)=nw
 have dn:nw.data = .fields ([head,.ref L,.none,rawInt L,.none]++(if pl.isEmpty then List.replicate 6 Value.none else pl)).toArray:=by rw[<-hnw]
 have ge1:h1.get? e=some oe:=(so.2.1 e UU).trans ge;have UW:=Heap.get?_push_of_some (h:=h1) nw ge1;have Te:h1.objs.size≠e:=Nat.ne_of_gt (Heap.lt_size ge1);refine wpAny_setField UW de hz ?_;have UX:=Obj.data_mapFields de (·.setIfInBounds 1 (Value.ref h1.objs.size));have WN:=Heap.get?_update_self (Obj.mapFields (·.setIfInBounds 1 (Value.ref h1.objs.size))) UW (Obj.isFreed_of_fields UX);have Zv:=(Heap.get?_update_other (h1.push nw) (Obj.mapFields (·.setIfInBounds 1 (Value.ref h1.objs.size))) (Ne.symm Te)).trans (Heap.get?_push_size h1 (by rw[<-hnw];rfl))
 have up:s.heap.UpToSlots ((h1.push nw).update e (Obj.mapFields (·.setIfInBounds 1 (Value.ref h1.objs.size)))):=by
  have u1:s.heap.UpToSlots h1:=fun b o hb _=>so.2.2 b o hb
  exact(u1.trans (.of_keeps fun b o hb=>Heap.get?_push_of_some nw hb)).trans (yt _ UW de)
 have k1:B.StaysIn h1:=fun b o hb=>(so.2.1 b fun z=>by rw[(hl.mem z).1]at hb;cases hb).trans (hk b o hb)
 have k2:B.StaysIn (h1.push nw):=fun b o hb=>Heap.get?_push_of_some nw (k1 b o hb)
 refine q _ ⟨qo _ k2 hn,hn,kK hl up,_,_,h1.objs.size,nw,_,WN,⟨Obj.cls_mapFields _ _,by rw[Array.getElem?_setIfInBounds_ne (by decide)];exact h0⟩,UX,by simp[hz],k1.fresh,Te,Zv,dn,?_⟩ ?_ up
 ·first | (simp;done) | (rcases ip with rfl | ⟨_,_,_,_,_,_,_,rfl⟩<;>simp)
 ·exact⟨_,_,WN,UX,by rw[Array.getElem?_setIfInBounds_ne (by decide)];exact h2,(Il _ _).trans hz2⟩
theorem Rm(hfr:A.frames=some (env::outer))(hf:env.frame=some L)(fl:Heap.FlyingW B (env::outer) e cls a0 s.heap)(h2:vU od c e s.heap)
 (q:∀ h',Heap.HeldW B (env::outer) e cls a0 L h'->vU od c e h'->s.heap.UpToSlots h'->Q () { s with heap:=h'}):wpAny M A (noteFrame (.ref e) env) Q E s:=by
 obtain⟨hk,hn,hl,oe,vs,T,oT,ts,ge,⟨hc,h0⟩,de,f1,nT,Te,gT,dT,f3⟩:=fl;obtain⟨o2,v2,g2,d2,k2,z2⟩:=h2;rw[ge]at g2;cases g2;rw[de]at d2;cases d2;cases hc;rw[noteFrame];simp only[hf];refine wpAny_bind (wpAny_field ge de f1 ?_);rw[if_pos (by simp)]
 refine wpAny_bind (wpAny_field gT dT f3 ?_);rw[if_neg (by simp[rawInt])]
 refine wpAny_bind (wpAny_setField gT dT (Array.getElem?_eq_some_iff.mp f3).1 ?_);have up:=yt (Obj.mapFields (·.setIfInBounds 3 Value.none)) gT dT;have Tq:=(Heap.get?_update_other s.heap (Obj.mapFields (·.setIfInBounds 3 Value.none)) Te).trans ge;exact Im (s:={ s with heap:=s.heap.update T (Obj.mapFields (·.setIfInBounds 3 Value.none))}) hfr (kK hl up) hf Tq (qo _ hk nT) hn de (Array.getElem?_eq_some_iff.mp f1).1 h0 k2 z2 fun h' x1 x2 x3=>q h' x1 x2 (up.trans x3)
theorem Rn(x:Heap.FlyingW B (env::outer) e cls a0 s.heap):Heap.FlyingW B outer e cls a0 s.heap :=
 let⟨k1,k2,⟨_,_,k3⟩,k4⟩:=x
 ⟨k1,k2,k3,k4⟩
theorem leave_on2(hfr:A.frames=some (env::outer))(hf:env.frame=some L)(fl:Heap.FlyingW B (env::outer) e cls a0 s.heap)(h2:vU od c e s.heap)
 (q:∀ h',Heap.FlyingW B outer e cls a0 h'->vU od c e h'->s.heap.UpToSlots h'->Q () { s with heap:=h'}):wpAny M A (leaving env (.ref e)) Q E s:=by
 rw[leaving];refine wpAny_bind (Rm hfr hf fl h2 fun h' x1 x2 x3=>?_)
 obtain⟨y1,y2,y3,y4⟩:=x1;exact M8 (s:={ s with heap:=h'}) y1 y2 y3 y4 x2 fun h'' z1 z2 z3=>q h'' (Rn (s:={ s with heap:=h''}) z1) z2 (x3.trans z3)
theorem leave_new{oe:Obj}{vs:Array Value}(hfr:A.frames=some (env::outer))(hf:env.frame=some L)(hk:B.StaysIn s.heap)(hn:B.get? e=none)(hl:s.heap.FunFrames B (env::outer))(ge:s.heap.get? e=some oe)(de:oe.data = .fields vs)
 (h0:vs[0]?=some a0) (h1:vs[1]?=some .none) (h2:vs[2]?=some c) (hz2:oe.dict=od)
 (q:∀ h',Heap.FlyingW B outer e oe.cls a0 h'->vU od c e h'->s.heap.UpToSlots h'->Q () { s with heap:=h'}):wpAny M A (leaving env (.ref e)) Q E s:=by
 rw[leaving,noteFrame];simp only[hf];refine wpAny_bind (wpAny_bind (wpAny_field ge de h1 ?_));rw[if_neg (by decide)]
 refine Im (a0:=a0) hfr hl hf ge hk hn de (Array.getElem?_eq_some_iff.mp h1).1 h0 h2 hz2 fun h' x1 x2 x3=>?_
 obtain⟨y1,y2,y3,y4⟩:=x1;exact M8 (s:={ s with heap:=h'}) y1 y2 y3 y4 x2 fun h'' z1 z2 z3=>q h'' (Rn (s:={ s with heap:=h''}) z1) z2 (x3.trans z3)
end
section
variable {P:Program}{w:World}{H H0 H1:Hp}{h h0 h1 h2:Heap}{a:Addr}{o:HO}{fs:List Addr}{B:Heap}
theorem br.thing(x:br P w H h a o):∃ ob,h.get? a=some ob:=by
 cases o with
 | lst xs=>obtain⟨_,_,_,_,e⟩:=x;exact⟨_,e⟩
 | tup xs=>obtain⟨_,_,_,ob,e,_⟩:=x;exact⟨ob,e⟩
 | dK kvs=>obtain⟨_,_,_,_,ob,_,_,e,_⟩:=x;exact⟨ob,e⟩
 | dT kvs=>obtain⟨_,_,_,_,ob,_,_,e,_⟩:=x;exact⟨ob,e⟩
 | set S n=>obtain⟨ob,_,_,_,e,_⟩:=x;exact⟨ob,e⟩
 | ins C dx fs=>obtain⟨_,_,_,e,_⟩:=x;exact⟨_,e⟩
 | own y=>exact x
 | xd fs=>obtain⟨_,⟨ob,_,_,e,_⟩,_⟩:=x;exact⟨ob,e⟩
 | E7 lo hi=>obtain⟨_,_,_,e⟩:=x;exact⟨_,e⟩
 | kF ob u=>obtain⟨e,_⟩:=x;exact⟨_,e⟩
 | jz ps=>obtain⟨_,e,_⟩:=x;exact⟨_,e⟩
 | met f y=>exact⟨_,(show h.get? a=some _ from x)⟩
 | ext φ=>obtain⟨_,e,_⟩:=x;exact e
def LS(B:Heap)(fs:List Addr)(h0:Heap)(H:Hp)(h:Heap):Prop:=∀ b o,h.get? b=some o->(H b≠none\/∃ o',h0.get? b=some o')->b∉fs->B.get? b=some o
theorem Io(un:Un fs [] H0 H1 h0 h1)(hok:lU P w H1 h1)(Zw:∀ b∈fs,H1 b=none)(fr:∀ b∈fs,∀ ob,h1.get? b=some ob->∀ vs,ob.data≠.fields vs)(M9:LS B fs h0 H1 h1)
 (hB:B.StaysIn h2) (up:h1.UpToSlots h2):Un fs [] H0 H1 h0 h2/\lU P w H1 h2/\LS B fs h0 H1 h2:=by
 have Ro:∀ b ob,h1.get? b=some ob->(H1 b≠none\/∃ o',h0.get? b=some o')->b∉fs->h2.get? b=some ob:=fun b ob e c n=>hB b ob (M9 b ob e c n)
 have P5:∀ b u,H1 b=some u->b∉fs:=fun b u e z=>by
  rw[Zw b z]at e;cases e
 refine⟨⟨fun b ob e n hb hx=>Ro b ob (un.keep b ob e n hb hx) (.inr ⟨ob,e⟩) hb,fun b ob e n hb hx=>?_,un.free,fun b ob e hx=>?_,un.tups,un.kG,un.lV⟩,fun b u e=>?_,fun b ob e c n=>?_⟩
 ·obtain⟨sl,q⟩:=un.slot b ob e n hb hx;obtain⟨Th,q'⟩:=up b _ q (fr b hb _ q);exact⟨Th,q'⟩
 ·obtain⟨o',q⟩:=un.there b ob e hx
  by_cases hb:b∈fs
  ·obtain⟨Th,q'⟩:=up b _ q (fr b hb _ q);exact⟨_,q'⟩
  ·exact⟨o',Ro b o' q (.inr ⟨ob,e⟩) hb⟩
 ·refine(hok b u e).stay (fun c v hc q=>?_) (fun _ q=>q) fun _ _ q=>q
  have hct:∃ z,H1 c=some z:=by
   rcases hc with hc|hc
   ·rw[hc];exact⟨u,e⟩
   ·exact⟨_,hc⟩
  obtain⟨z,hz⟩:=hct;exact Ro c v q (.inl (by rw[hz];simp)) (P5 c z hz)
 ·have ht:∃ o1,h1.get? b=some o1:=by
   rcases c with c|⟨o',c⟩
   ·cases hz:H1 b with
    | none=>exact absurd hz c
    | some z=>exact(hok b z hz).thing
   ·exact un.there b o' c (by simp)
  obtain⟨o1,q⟩:=ht;have q2:=M9 b o1 q c n;have q3:=hB b o1 q2;rw[e]at q3;rw[Option.some.inj q3];exact q2
end
def UY(ea:Addr)(cls:Value):HO:=.ext fun h=>∃ oe vs,h.get? ea=some oe/\oe.cls=cls/\oe.data = .fields vs/\vs[2]?=some .none
def Oh(E:XK)(cls:Value)(od:Option Addr)(c:Value)(H:Hp):Prop:=(c = .none/\(∃ C0:Addr,cls = .ref C0)/\E cls od H)\/∃ C e' C',cls = .ref C/\od=none/\c = .ref e'/\H e' = some (UY e' C')/\E (.int (C:Int) e') none H
def Ip(P:Program)(w:World):Hs:=fun outer H s E e s'=>∃(ea:Addr) (cls a0:Value) (od:Option Addr) (c:Value) (H' : Hp) (B:Heap),e = .ref ea/\s'.os=s.os/\AllBare s'.gens/\Un (frs outer) [] H H' s.heap s'.heap/\lU P w H' s'.heap/\H' ea=none/\
 LS B (frs outer) s.heap H' s'.heap/\Heap.FlyingW B outer ea cls a0 s'.heap/\vU od c ea s'.heap/\Oh E cls od c H'
structure Out(X:Cx)(E:XK):Prop where
 Hr:X.stack=X.env::X.outer
 fr:X.env.frame=some X.env.locals
 ex:X.ex=[]
 xe:∀ e s',wpAny (model X.prog X.w) X.A (leaving X.env e) (fun _ s''=>Ip X.prog X.w X.outer X.H₀ X.s₀ E e s'') (fun e' s''=>Ip X.prog X.w X.outer X.H₀ X.s₀ E e' s'') s'->X.xe e s'
def WO(X:Cx)(E:XK):Prop:=∀(pins:aV) (σ:St) (H:Hp) (s:Shared) (h1:Heap) (ea C0:Addr) (vs:List Value),Inv X pins σ H s->Heap.MadeExcOf s.heap h1 ea (.ref C0) vs->E (.ref C0) none H->X.xe (.ref ea) { s with heap:=h1}
section
variable {X:Cx}{E:XK}{pins:aV}{σ:St}{H:Hp}{s:Shared}
theorem Inv.Oi(I:Inv X pins σ H s):∀ b∈X.fs,∀ ob,s.heap.get? b=some ob->∀ vs,ob.data≠.fields vs:=fun b hb ob e=>by
 obtain⟨_,o,ho,hnf⟩:=I.funs.mem hb;rw[e]at ho;cases ho;exact hnf
theorem Inv.Oj(I:Inv X pins σ H s)(hx:X.ex=[]):∀ b∈X.fs,H b=none:=fun b hb=>by
 obtain⟨_,o,ho,_⟩:=I.ok.funs.mem hb;exact I.base.free b o ho (I.ok.NP b hb) (by rw[hx];simp)
theorem LS.outer{B h0:Heap}{h:Heap}(I:Inv X pins σ H s)(M9:LS B (frs X.stack) h0 H h)(k:∀ b o,X.s₀.heap.get? b=some o->∃ o',h0.get? b=some o'):LS B X.fs X.s₀.heap H h:=fun b o e c n=>by
 refine M9 b o e (c.imp id fun⟨o',q⟩=>k b o' q) fun z=>?_
 rcases List.mem_cons.mp (I.tQ b z) with q|q
 ·subst q;rcases c with c|⟨o',c⟩
  ·exact c I.free
  ·exact absurd (Nat.lt_of_lt_of_le (Heap.lt_size c) I.ok.above) (Nat.lt_irrefl _)
 ·exact n q
theorem Em(O:Out X E)(I:Inv X pins σ H s){B:Heap}{ea:Addr}{cls a0:Value}{od:Option Addr}{c:Value}{h2:Heap}(M9:LS B X.fs X.s₀.heap H s.heap)(fl:Heap.FlyingW B X.outer ea cls a0 h2)(sc:vU od c ea h2)(up:s.heap.UpToSlots h2)(hn:H ea=none)(q:Oh E cls od c H):
 Ip X.prog X.w X.outer X.H₀ X.s₀ E (.ref ea) { s with heap:=h2}:=by
 have un:Un X.fs [] X.H₀ H X.s₀.heap s.heap:=by
  have u:=I.base;rw[O.ex]at u;exact u
 obtain⟨u2,Zx,c2⟩:=Io un I.hok (I.Oj O.ex) I.Oi M9 fl.1 up;exact⟨ea,cls,a0,od,c,H,B,rfl,I.os,I.bare,u2,Zx,hn,c2,fl,sc,q⟩
theorem Out.UZ(O:Out X E){ea:Addr}{oe:Obj}{vs:Array Value}{a0 c:Value}(I:Inv X pins σ H s)(ge:s.heap.get? ea=some oe)(de:oe.data = .fields vs)(h0:vs[0]?=some a0)(h1:vs[1]?=some .none)(h2:vs[2]?=some c)
 (hn:H ea=none) (new:X.s₀.heap.get? ea=none) (q:Oh E oe.cls oe.dict c H):X.xe (.ref ea) s:=by
 refine O.xe _ _ ?_;have hfr:X.A.frames=some (X.env::X.outer):=by rw[I.ok.frames,O.Hr]
 have hl:s.heap.FunFrames (PySem.W.hideAll s.heap (ea::frs X.stack)) (X.env::X.outer):=by
  have z:=PySem.W.funFrames_hide (as:=ea::frs X.stack) I.stack fun env he b hb=>List.mem_cons_of_mem _ (List.mem_filterMap.mpr ⟨env,he,hb⟩)
  rw[O.Hr]at z ⊢;exact z
 refine leave_new hfr O.fr (fun b o e=>PySem.W.of_hideAll _ e) (PySem.W.hideAll_none _ (List.mem_cons_self ..)) hl ge de h0 h1 h2 rfl fun h3 fl sc up=>?_
 refine Em O I (LS.outer I (h0:=X.s₀.heap) (fun b o e c n=>?_) fun b o e=>⟨o,e⟩) fl sc up hn q
 refine PySem.W.hideAll_get _ e fun z=>?_
 rcases List.mem_cons.mp z with z|z
 ·subst z;rcases c with c|⟨o',c⟩
  ·exact c hn
  ·rw[new]at c;cases c
 ·exact n z
theorem Out.U0(O:Out X E){ea:Addr}{oe:Obj}{vs:Array Value}{a0:Value}(I:Inv X pins σ H s)(ge:s.heap.get? ea=some oe)(de:oe.data = .fields vs)(h0:vs[0]?=some a0)(h1:vs[1]?=some .none)(h2:vs[2]?=some .none)
 (hn:H ea=none) (new:X.s₀.heap.get? ea=none) (hcl:∃ C0:Addr,oe.cls = .ref C0) (q:E oe.cls oe.dict H):X.xe (.ref ea) s:=O.UZ I ge de h0 h1 h2 hn new (.inl ⟨rfl,hcl,q⟩)
theorem Out.U1(O:Out X E):WO X E:=by
 intro pins σ H s h1 ea C0 vs I mk q;have I1:Inv X pins σ H { s with heap:=h1}:=I.kept (t':=s.toks) mk.keeps
 have hn:H ea=none:=by
  cases hz:H ea with
  | none=>rfl
  | some z =>
    obtain⟨ob,e⟩:=(I.hok ea z hz).thing;rw[mk.new]at e;cases e
 obtain⟨t,ge,_,_⟩:=mk.there;refine O.U0 I1 (a0:=.ref t) ge rfl rfl rfl rfl hn ?_ ⟨_,rfl⟩ q;cases hz:X.s₀.heap.get? ea with
 | none=>rfl
 | some o =>
   obtain⟨o',e⟩:=I.base.there ea o hz (by rw[O.ex];simp)
   rw[mk.new]at e;cases e
theorem Inv.Rp{H' : Hp}{s' : Shared}(I:Inv X pins σ H s)(os:s'.os=s.os)(bare:AllBare s'.gens)(un:Un (frs X.stack) [] H H' s.heap s'.heap)(hok:lU X.prog X.w H' s'.heap):Inv X pins σ H' s' :=
 I.HE (ch:=[]) os un hok bare fun b z=>absurd z (by simp)
theorem Out.passes(O:Out X E):Passes (Ip X.prog X.w) X E:=by
 intro pins σ H s e s' I q;obtain⟨ea,cls,a0,od,c,H',B,rfl,os,bare,un,hok,hn,M9,fl,sc,qE⟩:=q;have I1:=I.Rp os bare un hok;refine O.xe _ _ ?_;have hfr:X.A.frames=some (X.env::X.outer):=by rw[I.ok.frames,O.Hr]
 rw[O.Hr]at fl;refine leave_on2 hfr O.fr fl sc fun h2 Zy Lc up=>?_
 exact Em O I1 (LS.outer I1 M9 fun b o e=>I.base.there b o e (by rw[O.ex];simp)) Zy Lc up hn qE
end
theorem gr{P:Program}{w:World}{K:bK}{mg:lT}{base:Heap}{N:List Str}{qual:Str}{scope:Scope}{f:Addr}{cd:Value}{A:Around}{outer:List Env}{s:Shared}{H:Hp}{E:XK}:
 Out (sH (Ip P w) P w K mg base N qual scope f cd A outer s H E) E:=⟨rfl,rfl,rfl,fun _ _ h=>h⟩
theorem LN.Ft{P:Program}{w:World}{K:bK}{mg:lT}{base:Heap}{x qual:Str}{st:Stmt}{f:Addr}{fd:FuncData}{N ps:List Str}{k:Nat}{sp:Sp}(F:LN K x qual st f fd)(S:aD N ps (aj st))
 (len:∀ vs H Q E,sp vs H Q E->vs.length=ps.length)
 (hbody:∀(cdv:Value) (A:Around) (outer:List Env) (s:Shared) (H:Hp) (vs:List V) (Q:VK) (E:XK),fh k (A.deeper (envOfC qual (aj st) s.heap.objs.size f cdv))->sp vs H Q E->
  ∃ t,wQ (sH (Ip P w) P w K mg base N qual (aj st) f cdv A outer s H E) (cy st) t/\t { nx:=fun _ H'=>Q .eM H',rt:=Q} (start N vs) H):lX P w K mg base (Ip P w) (k+1) f fd ps sp:=by
 obtain⟨oc,od,kV,doc,pm,an,cdv,ct,osl,rfl,lk,hcd⟩:=F.ex;exact HS lk hcd S len fun A outer s H vs Q E hr sI=>hbody cdv A outer s H vs Q E hr sI
section
variable {X:Cx}{E:XK}
def Ol(C:Addr)(E:XK)(t:TA):TS:=fun _ σ H=>t σ H fun vs H1=>vs.length<=sizeLine/\E (.ref C) none H1
theorem ug{x:Str}{C:Addr}{bm:List Value}{B newId initId:String}{e:Expr}{es:List Expr}{ta:TA}{np cpos pos:Pos}(th:WO X E)(hc:X.calm=true)(hg:Gl X x)(O:∀ h,X.K.In h->h.Ns mainGlobals X.mg->OwnCls x C bm newId X.mg h)
 (FB:ExcBaseFacts B newId initId bm) (ha:PA X (e::es) ta) (he:starEach (e::es) X.env=(false,eval e X.env)::starEach es X.env:=by rfl) (hpl:(backTo cpos (starEach es X.env)).any (·.1)=false:=by rfl)
 (hd:(x==("__debug__":Str))=false:=by decide):PS X (.Raise (some (.Call (.Name x np) (e::es) [] cpos)) none pos) (Ol C E ta):=by
 intro pins s σ H D I h;have OC:=O _ I.mod.Td I.mod.glob;obtain⟨tl,N,nm,q,bs,hdct,sn,sub,ab,col,dd,k0,k1,k2,k3,k5,mN,hC,hN,hni,T⟩:=OC.obj;refine wpAny_Raise_call_subT (C:=C) (nm:=nm) (q:=q) (N:=N) (bs:=bs) (bm:=tl) (hdct:=hdct) (sn:=sn) (sub:=sub) (ab:=ab) (col:=col) (dd:=dd) (k0:=k0) (k1:=k1) (k2:=k2) (k3:=k3) (k5:=k5)
  FB (mN:=mN) (T.hasType FB.hasBase) (I.ok.hd hc) (by rw[he];show(false || (backTo cpos (starEach es X.env)).any (·.1))=false;rw[hpl];rfl) hni (DX I hg OC.bound ⟨rfl,?_⟩ hd)
 have hA:=ha cpos pins s σ H _ I h;rw[he]at hA ⊢;refine Calls.evalArgs_plain (wpAny_mono hA (fun us s1 ⟨vs,H1,I1,r1,z,q1⟩=>?_) fun _ _ y=>y)
 exact⟨rfl,by rw[<-r1.length];exact z,I1.bk _ _ hC,hN.keeps I1.bk,T.keeps I1.bk,fun h' ea hm=>th pins σ H1 s1 h' ea _ us I1 hm q1⟩
end
open PySem PySem.Spec PySem.Calls PyProof.Rows PySem.W PySem.Builtin PySem.Builtin.ObjectAttr PySem.Builtin.Getset_descriptor
section
variable {X:Cx}
def Rq(K:bK):V->V->Hp->VK->Prop:=fun o i H Q=>∃ p xs j v,o = .ref p/\i = .int ((j:Nat):Int)/\aO K H p xs/\xs[j]?=some v/\Q v H
theorem getL(K:bK)(hK:X.K=K:=by rfl):QN X (Rq K):=by
 subst hK;intro pins s σ H o i ov iv Q I ro ri h;obtain⟨p,xs,j,v,rfl,rfl,hq,e,q⟩:=h;cases ro;obtain⟨t,rfl⟩:=ri;obtain⟨its,r,pl,hz⟩:=I.list hq;obtain⟨u,eu,ru⟩:=r.get e;have hj:j<xs.length:=(List.getElem?_eq_some_iff.mp e).1;have hn:=tX;exact wpAny_getItem_list pl.isList (by lia) (by lia) (by simpa using eu) ⟨v,H,I,ru,q⟩
end
section
variable {X:Cx}{tg:Expr}
theorem tu{iter:Expr}{body:List Stmt}{wi:TI}{g:TG}{tb:TS}{pos:Pos}(hc:X.calm=true)(hi:PI X tg iter wi)(hg:PG X.BQ tg g)(hb:wQ X.BQ body tb)(hs:∀ x,foldedSetIterable iter X.env x=pure x:=by intro _;rfl):
 PS X (.For tg iter body [] pos) (cu wi g tb):=by
 intro pins s σ H D I h;refine wpAny_For (dB (hi pins s σ H _ I h) fun v s1 h1=>dB h1 fun itv s2 h2=>?_) hs
 obtain⟨it,fp,tn,J,H2,e,I2,T,st2,f2,W,⟨m0,w0⟩,turn⟩:=h2;subst e;have B8:∀{H' : Hp},(∀ b∈fp,H' b=none)->∀ b∈fp,nV X.BQ pins H' b:=fun hn b hb=>⟨hn b hb,(f2 b hb).2⟩
 refine codeAny_forLoop_any (fun n s'=>∃ i σ' H',Inv X.BQ pins σ' H' s'/\tn i s'.heap/\(∀ b∈fp,H' b=none)/\W i n σ' H') ?_ m0 ⟨0,σ,H2,I2.tT _,st2,fun b hb=>(f2 b hb).1,w0⟩
 rintro n s3 ⟨i,σ3,H3,I3,st3,MZ,w3⟩;rcases turn i n σ3 H3 w3 with⟨stop,qn⟩|⟨go,N,hN,step⟩
 ·refine wpAny_mono (T.done X.BQ rfl rfl rfl hc i pins s3 σ3 H3 (fun _ _=>False) I3 (B8 MZ) st3 stop) (fun r s4 ⟨hr,I4⟩=>?_) fun _ _ z=>z.elim
  subst hr;exact wpAny_execs_nil ⟨σ3,H3,I4.je,qn⟩
 ·refine wpAny_mono (T.item X.BQ rfl rfl rfl hc i pins s3 σ3 H3 (fun _ _=>False) I3 (B8 MZ) st3 go) (fun r s4 ⟨u,hr,h4⟩=>?_) fun _ _ z=>z.elim
  subst hr;refine wpAny_mono h4 (fun _ s5 ⟨x,H5,I5,r5,y5,HN,QT⟩=>?_) fun _ _ z=>z.elim
  have QU:=I5.pinned (B8 QT) (T.obj _ _ HN);refine wpAny_mono (hg _ s5 σ3 H5 x u _ QU r5 (step x H5 y5)) (fun _ s6 ⟨σ6,H6,I6,q6⟩=>?_) fun _ _ z=>z.elim
  refine wpAny_mono (hb _ s6 σ6 H6 _ I6 q6) (fun f s7 q7=>?_) fun _ _ z=>z.elim
  have again:∀{σ7:St} {H7:Hp},Inv X.BQ (pins++qi fp s5.heap) σ7 H7 s7->N σ7 H7->∃ m,m<n/\∃ i σ' H',Inv X.BQ pins σ' H' s7/\tn i s7.heap/\(∀ b∈fp,H' b=none)/\W i m σ' H':=fun {σ7 H7} I7 n7=>by
   obtain⟨m',hm,w7⟩:=hN σ7 H7 n7;refine⟨m',hm,i+1,σ7,H7,I7.jf,T.keep _ _ _ HN fun b hb o e=>(I7.pin (b,o) (List.mem_append_right _ (List.mem_append_right _ (gJ hb e)))).1,fun b hb=>?_,w7⟩
   obtain⟨o,e,d⟩:=T.obj _ _ HN b hb;exact(I7.pin (b,o) (List.mem_append_right _ (List.mem_append_right _ (gJ hb e)))).2.1
  cases f with
  | next=>obtain⟨σ7,H7,I7,n7⟩:=q7;exact again I7 n7
  | cont=>obtain⟨σ7,H7,I7,n7⟩:=q7;exact again I7 n7
  | brk=>obtain⟨σ7,H7,I7,q7⟩:=q7;exact⟨σ7,H7,I7.jf.je,q7⟩
  | ret v=>obtain⟨x7,σ7,H7,I7,r7,q7⟩:=q7;exact⟨x7,σ7,H7,I7.jf.je,r7,q7⟩
theorem xj{P:Program}{w:World}{X:Cx}:Passes (Ip P w) X (fun _ _ _=>False):=by
 intro pins σ H s e s' I q;obtain⟨_,_,_,_,_,_,_,_,_,_,_,_,_,_,_,_,z⟩:=q;rcases z with⟨_,_,z⟩|⟨_,_,_,_,_,_,_,z⟩
 ·exact z.elim
 ·exact z.elim
end
theorem Ck{K:bK}{h:Heap}{mg:lT}{x:Str}{C:Addr}{bmB:List Value}{newId:String}(X:K.In h)(G:h.Ns mainGlobals mg)(e:PySem.W.nsIn K mainGlobals x=some (some (.ref C)))(q:PySem.W.excIn K C bmB newId=true):
 OwnCls x C bmB newId mg h:=by
 refine⟨PySem.W.mg_of X G e,?_⟩;unfold PySem.W.excIn at q
 split at q
 ·rename_i od cd sl look
  split at q
  ·rename_i Cx bm j0 j1 j2 j3 nw j5 hmro hsl
   simp only[Bool.and_eq_true,beq_iff_eq,Bool.not_eq_true']at q;obtain⟨⟨⟨⟨⟨rfl,rfl⟩,Rr⟩,ht⟩,hok⟩,hni⟩:=q;obtain⟨nm,bs,mro,ns,qn,hd,sn,sub,ab,col,del⟩:=cd
   (dsimp only at hmro Rr hok hni;subst hmro Rr)
   have hs2:sl = #[j0,j1,j2,j3,some (.builtin nw),j5]:=by
    obtain⟨l⟩:=sl;simp only at hsl;rw[hsl]
   subst hs2;exact⟨bm,ns,nm,qn,bs,hd,sn,sub,ab,col,od,j0,j1,j2,j3,j5,_,X _ _ look,.of_isNs (PySem.W.isNs_of_in X hok),PySem.W.nsMap_none_of_in X hok hni,PySem.W.tail_of_in X ht⟩
  ·cases q
 ·cases q
theorem U3{α:Type}:∀ us:List α,us.length=1->∃ a,us=[a]
 | [_],_=>⟨_,rfl⟩
theorem U4{α:Type}:∀ us:List α,us.length=2->∃ a b,us=[a,b]
 | [_,_],_=>⟨_,_,rfl⟩
theorem U5{α:Type}:∀ us:List α,us.length=3->∃ a b c,us=[a,b,c]
 | [_,_,_],_=>⟨_,_,_,rfl⟩
theorem U6{α:Type}:∀ us:List α,us.length=4->∃ a b c d,us=[a,b,c,d]
 | [_,_,_,_],_=>⟨_,_,_,_,rfl⟩
section
variable {X:Cx}{pins:aV}{σ:St}{H:Hp}{s:Shared}{h' : Heap}
theorem Inv.yields{t' : Nat}{wr:List Addr}{T:Addr}{o:HO}(I:Inv X pins σ H s)(k:∀ b u,b∉wr->s.heap.get? b=some u->h'.get? b=some u)(hf:∀ b∈wr,nV X pins H b)(hT:s.heap.objs.size<=T)
 (new:br X.prog X.w (upd H T o) h' T o):Inv X pins σ (upd H T o) { s with heap:=h',toks:=t'}:=by
 have WQ:H T=none:=I.hok.fresh hT;have nT:∀ b u,H b=some u->b≠T:=fun b u e=>bg e WQ
 have nw:∀ b u,H b=some u->b∉wr:=fun b u e hb=>by rw[(hf b hb).1]at e;cases e
 refine I.step (g':=s.gens) (d':=s.drawn) (ch:=wr) (fun b hb=>?_) (fun b o _ _ hc e _=>k b o hc e) (fun b o _ _ hc e _=>⟨o.slots,k b o hc e⟩) (fun b u hc e n=>?_)
  (fun b o hc e=>⟨o,k b o hc e⟩) (fun b xs e=>?_) (fun b ob xs e=>?_) (fun b ps e=>⟨#[],?_⟩) (fun m hm=>?_) (fun b u e=>?_) I.bare
 ·obtain⟨_,f1,_,f3,f4,f5⟩:=hf b hb;exact⟨f3,f1,f4,f5⟩
 ·rw[aq (Nat.ne_of_lt (Nat.lt_of_lt_of_le (Heap.lt_size e) hT))];exact n
 ·rw[aq (nT b _ e)];exact e
 ·rw[aq (nT b _ e)];exact e
 ·rw[aq (nT b _ e),e];simp
 ·obtain⟨o,es,ep,ho,r⟩:=hm;exact⟨o,es,ep,k _ o (fun hb=>(hf _ hb).2.1 rfl) ho,r⟩
 ·by_cases hb:b=T
  ·subst hb;rw[ae]at e;cases e;exact new
  ·rw[aq hb]at e;refine(I.hok b u e).stay (fun c v hc q=>k c v ?_ q) (fun c q=>by rw[aq (nT c _ q)];exact q) fun c xs q=>by rw[aq (nT c _ q)];exact q
   rcases hc with z|z
   ·rw[z];exact nw b u e
   ·exact nw c _ z
theorem Inv.LU{t' : Nat}{wr:List Addr}(I:Inv X pins σ H s)(k:∀ b u,b∉wr->s.heap.get? b=some u->h'.get? b=some u)(hf:∀ b∈wr,nV X pins H b):Inv X pins σ H { s with heap:=h',toks:=t'}:=by
 have nw:∀ b u,H b=some u->b∉wr:=fun b u e hb=>by rw[(hf b hb).1]at e;cases e
 refine I.step (g':=s.gens) (d':=s.drawn) (ch:=wr) (fun b hb=>?_) (fun b o _ _ hc e _=>k b o hc e) (fun b o _ _ hc e _=>⟨o.slots,k b o hc e⟩) (fun _ _ _ _ n=>n)
  (fun b o hc e=>⟨o,k b o hc e⟩) (fun _ _ e=>e) (fun _ _ _ e=>e) (fun b ps e=>⟨#[],by rw[e];simp⟩) (fun m hm=>?_) (fun b u e=>?_) I.bare
 ·obtain⟨_,f1,_,f3,f4,f5⟩:=hf b hb;exact⟨f3,f1,f4,f5⟩
 ·obtain⟨o,es,ep,ho,r⟩:=hm;exact⟨o,es,ep,k _ o (fun hb=>(hf _ hb).2.1 rfl) ho,r⟩
 ·refine(I.hok b u e).stay (fun c v hc q=>k c v ?_ q) (fun _ q=>q) fun _ _ q=>q
  rcases hc with z|z
  ·rw[z];exact nw b u e
  ·exact nw c _ z
end
def Qc(K:bK)(a:Addr):It :=
 ⟨fun i H=>∃ xs x,aO K H a xs/\xs[i]?=some x,fun i H v H'=>∃ T x,v = .ref T/\H T=none/\H' = upd H T (.tup [.int (i:Int),x])/\∀ xs,aO K H a xs->xs[i]?=some x,fun i H=>∃ xs,aO K H a xs/\xs.length<=i⟩
theorem Fv{P:Program}{w:World}{K:bK}{elts:List Expr}{k:Nat}{pos:Pos}(a e it:Addr)(hne:e≠it):
 Turn P w K (.Tuple elts k pos) (Qc K a) [e,it] e (fun i h=>(∃ old,IsEnum h e it (i:Int) old)/\h.IsListIter it a i) where
 mem:=by simp
 obj:=fun i h st b hb=>by
  obtain⟨⟨old,he⟩,o,ho,c,d⟩:=st;have hb' : b=e\/b=it:=by simpa using hb
  rcases hb' with rfl|rfl
  ·exact⟨_,he,fun v z=>by cases z⟩
  ·exact⟨o,ho,fun v z=>by rw[d]at z;cases z⟩
 keep:=fun i h h' st k=>by
  obtain⟨⟨old,he⟩,hit⟩:=st;exact⟨⟨old,k e (by simp) _ he⟩,hit.at fun o x=>k it (by simp) o x⟩
 item:=by
  intro X hP hw hK hc i pins s σ H E I hf st hg;subst hP hw hK;obtain⟨xs,x,hq,hx⟩:=hg;obtain⟨its,rv,p,hz⟩:=I.list hq;obtain⟨u,hu,ru⟩:=rv.get hx;obtain⟨⟨old,he⟩,hit⟩:=st;refine wpAny_pyNext_enum_item he hit p.isList (x:=u) (by simpa using hu) hne fun h1 ho Om hT hsz hk=>?_
  refine⟨_,rfl,wpAny_letOwnedTupleGo_enum ho fun h2 LV hs2=>?_⟩
  have Rt:s.heap.objs.size≠e:=Nat.ne_of_gt (Heap.lt_size he);have hT2:h2.get? s.heap.objs.size=some { cls:=.type "tuple",data:=.seq #[.int i s.toks,u]}:=(hs2.2 _ Rt).trans hT;refine⟨.ref s.heap.objs.size,upd H s.heap.objs.size (.tup [.int (i:Int),x]),I.yields (wr:=[e,it]) (t':=s.toks+1) (fun b o hb q=>?_) hf (Nat.le_refl _) ?_,rfl,⟨_,x,rfl,I.fresh,rfl,fun ys hy=>by rw[I.oW hy hq];exact hx⟩,⟨⟨u,by simpa using LV⟩,?_⟩,fun b hb=>?_⟩
  ·have Iq:b≠e:=fun z=>hb (by simp[z])
   have Oo:b≠it:=fun z=>hb (by simp[z])
   exact(hs2.2 b Iq).trans (hk b o Iq Oo q)
  ·exact⟨dl rfl,[.int i s.toks,u],.cons ⟨_,rfl⟩ (.cons ru .nil),⟨_,hT2,rfl,_,rfl⟩⟩
  ·exact Om.at fun o q=>(hs2.2 it (Ne.symm hne)).trans q
  ·rw[aq]
   ·exact(hf b hb).1
   ·have hb' : b=e\/b=it:=by simpa using hb
    rcases hb' with rfl|rfl
    ·exact Ne.symm Rt
    ·obtain⟨o,q,_⟩:=hit;exact Nat.ne_of_lt (Heap.lt_size q)
 done:=by
  intro X hP hw hK hc i pins s σ H E I hf st hg;subst hP hw hK;obtain⟨xs,hq,hx⟩:=hg;obtain⟨its,rv,p,hz⟩:=I.list hq;obtain⟨⟨old,he⟩,hit⟩:=st;obtain⟨f0,f1,f2,f3,f4,f5⟩:=hf it (by simp)
  have hl:=rv.length;exact wpAny_pyNext_enum_end (I.ok.hd hc) he hit p.isList (by simp;lia) fun h' eb=>⟨rfl,I.turned (t':=s.toks) (fun b o hb e=>eb b o hb e) f0 f1 f3 f4 f5⟩
 self:=fun _ _ _ _ _ st h=>by
  obtain⟨⟨old,he⟩,_⟩:=st;exact wpAny_pyIter_enum he h
def U7(K:bK)(a b:Addr):It :=
 ⟨fun i H=>∃ xs ys x y,aO K H a xs/\aO K H b ys/\xs[i]?=some x/\ys[i]?=some y,
  fun i H v H'=>∃ T x y,v = .ref T/\H T=none/\H' = upd H T (.tup [x,y])/\(∀ xs,aO K H a xs->xs[i]?=some x)/\∀ ys,aO K H b ys->ys[i]?=some y,
  fun i H=>∃ xs ys,aO K H a xs/\aO K H b ys/\(xs.length<=i\/ys.length<=i)⟩
theorem Ir{P:Program}{w:World}{K:bK}{elts:List Expr}{k:Nat}{pos:Pos}(a b z TI TO i1 i2:Addr)(D:ZipApart z TI TO i1 i2 a b):
 Turn P w K (.Tuple elts k pos) (U7 K a b) [z,TI,TO,i1,i2] z (fun i h=>IsZip h z TI TO .none/\IsPair h TI (.ref i1) (.ref i2)/\(∃ u v,IsPair h TO u v)/\h.IsListIter i1 a i/\h.IsListIter i2 b i) where
 mem:=by simp
 obj:=fun i h st c hc=>by
  obtain⟨hz,hI,⟨u,v,hO⟩,⟨o1,Ld,_,d1⟩,o2,ho2,_,d2⟩:=st;have hc' : c=z\/c=TI\/c=TO\/c=i1\/c=i2:=by simpa using hc
  rcases hc' with rfl|rfl|rfl|rfl|rfl
  ·exact⟨_,hz,fun v z=>by cases z⟩
  ·exact⟨_,hI,fun v z=>by cases z⟩
  ·exact⟨_,hO,fun v z=>by cases z⟩
  ·exact⟨o1,Ld,fun v z=>by rw[d1]at z;cases z⟩
  ·exact⟨o2,ho2,fun v z=>by rw[d2]at z;cases z⟩
 keep:=fun i h h' st k=>by
  obtain⟨hz,hI,⟨u,v,hO⟩,h1,h2⟩:=st;exact⟨k z (by simp) _ hz,k TI (by simp) _ hI,⟨u,v,k TO (by simp) _ hO⟩,h1.at fun o e=>k i1 (by simp) o e,h2.at fun o e=>k i2 (by simp) o e⟩
 item:=by
  intro X hP hw hK hc i pins s σ H E I hf st hg;subst hP hw hK;obtain⟨xs,ys,x,y,hq,hq2,hx,hy⟩:=hg;obtain⟨its,rv,p,Zz⟩:=I.list hq;obtain⟨its2,Tr,p2,U8⟩:=I.list hq2;obtain⟨u,hu,ru⟩:=rv.get hx;obtain⟨u2,ZA,ZC⟩:=Tr.get hy;obtain⟨hz,hI,⟨v1,v2,hO⟩,h1,h2⟩:=st;refine wpAny_pyNext_zip_item D hz hI hO h1 h2 p.isList p2.isList (x:=u) (y:=u2) (by simpa using hu) (by simpa using ZA) fun h3 ZD ZE ZF ZG hT hsz hk=>?_
  refine⟨_,rfl,wpAny_letOwnedTupleGo_zip ZD fun h4 ZH Iu=>?_⟩
  have lt:∀{c o},s.heap.get? c=some o->s.heap.objs.size≠c:=fun e=>Nat.ne_of_gt (Heap.lt_size e)
  have Tt:h4.get? s.heap.objs.size=some { cls:=.type "tuple",data:=.seq #[u,u2]}:=(Iu.2 _ (lt hz)).trans hT;have kk:∀ c o,c∉[z,TO,i1,i2]->s.heap.get? c=some o->h4.get? c=some o:=fun c o hc q=>by
   have c1:c≠z:=fun e=>hc (by simp[e])
   exact(Iu.2 c c1).trans (hk c o c1 (fun e=>hc (by simp[e])) (fun e=>hc (by simp[e])) (fun e=>hc (by simp[e])) q)
  have hsub:∀ c∈[z,TO,i1,i2],c∈[z,TI,TO,i1,i2]:=fun c hc=>by
   have hc' : c=z\/c=TO\/c=i1\/c=i2:=by simpa using hc
   rcases hc' with rfl|rfl|rfl|rfl<;>simp
  refine⟨.ref s.heap.objs.size,upd H s.heap.objs.size (.tup [x,y]),I.yields (wr:=[z,TO,i1,i2]) (t':=s.toks) kk (fun c hc=>hf c (hsub c hc)) (Nat.le_refl _) ?_,rfl,
   ⟨_,x,y,rfl,I.fresh,rfl,fun zs hy=>by rw[I.oW hy hq];exact hx,fun zs hz=>by rw[I.oW hz hq2];exact hy⟩,⟨ZH,(Iu.2 _ D.TIz).trans (hk _ _ D.TIz D.TITO D.TIi1 D.TIi2 hI),⟨u,u2,(Iu.2 _ D.TOz).trans ZE⟩,?_,?_⟩,fun c hc=>?_⟩
  ·exact⟨dl rfl,[u,u2],.cons ru (.cons ZC .nil),⟨_,Tt,rfl,_,rfl⟩⟩
  ·exact ZF.at fun o q=>(Iu.2 _ D.i1z).trans q
  ·exact ZG.at fun o q=>(Iu.2 _ D.i2z).trans q
  ·rw[aq]
   ·exact(hf c hc).1
   ·have hc' : c=z\/c=TI\/c=TO\/c=i1\/c=i2:=by simpa using hc
    rcases hc' with rfl|rfl|rfl|rfl|rfl
    ·exact Ne.symm (lt hz)
    ·exact Ne.symm (lt hI)
    ·exact Ne.symm (lt hO)
    ·obtain⟨o,q,_⟩:=h1;exact Ne.symm (lt q)
    ·obtain⟨o,q,_⟩:=h2;exact Ne.symm (lt q)
 done:=by
  intro X hP hw hK hc i pins s σ H E I hf st hg;subst hP hw hK;obtain⟨xs,ys,hq,hq2,hx⟩:=hg;obtain⟨its,rv,p,Zz⟩:=I.list hq;obtain⟨its2,Tr,p2,U8⟩:=I.list hq2;obtain⟨hz,hI,⟨v1,v2,hO⟩,h1,h2⟩:=st;have hl:=rv.length;have hl2:=Tr.length;have hsub:∀ c∈[z,TO,i1,i2],c∈[z,TI,TO,i1,i2]:=fun c hc=>by
   have hc' : c=z\/c=TO\/c=i1\/c=i2:=by simpa using hc
   rcases hc' with rfl|rfl|rfl|rfl<;>simp
  refine wpAny_pyNext_zip_end (I.ok.hd hc) D hz hI hO h1 h2 p.isList p2.isList (hx.imp (fun q=>by simp;lia) fun q=>by simp;lia) fun h' kk=>⟨rfl,I.LU (wr:=[z,TO,i1,i2]) (t':=s.toks) (fun c o hc q=>?_) fun c hc=>hf c (hsub c hc)⟩
  exact kk c o (fun e=>hc (by simp[e])) (fun e=>hc (by simp[e])) (fun e=>hc (by simp[e])) (fun e=>hc (by simp[e])) q
 self:=fun _ _ _ _ _ st h=>wpAny_pyIter_zip st.1 h
theorem Fw{n a b:Nat}(la:a<n)(lb:b<n):ZipApart (n+4) (n+2) (n+3) n (n+1) a b:=by
 have k:∀{x y:Nat},x<y\/y<x->x≠y:=fun h=>by lia
 constructor<;>exact k (by lia)
section
variable {X:Cx}{elts:List Expr}{n:Nat}{tp:Pos}
def Ru(K:bK)(ta:TA):TI:=fun σ H R=>ta σ H fun vs H1=>∃ a,vs=[.ref a]/\(∃ xs,aO K H1 a xs)/\R (Qc K a) H1
def U9(K:bK)(ta:TA):TI:=fun σ H R=>ta σ H fun vs H1=>∃ a b,vs=[.ref a,.ref b]/\(∃ xs,aO K H1 a xs)/\(∃ ys,aO K H1 b ys)/\R (U7 K a b) H1
theorem En(K:bK){a:Expr}{ta:TA}{p pos:Pos}(hg:Gl X "enumerate")(hm:X.mg "enumerate"=none)(ha:PA X [a] ta)(hs:starEach [a] X.env=[(false,eval a X.env)]:=by rfl)(hK:X.K=K:=by rfl):
 PI X (.Tuple elts n tp) (.Call (.Name "enumerate" p) [a] [] pos) (Ru K ta):=by
 subst hK;intro pins s σ H R I h;refine Call_ (kH I hg hm boot_enumerate (PyProof.Rows.callWith_type1 (dB (ha pos pins s σ H _ I h) fun us s1 ⟨vs,H1,I1,r1,q1⟩=>?_) hs rfl))
 obtain⟨a,e,⟨xs,hq⟩,q⟩:=q1;subst e;cases r1 with
 | cons r rr =>
   cases rr;cases r;obtain⟨its,rv,pl,hz⟩:=I1.list hq;refine call_enumerate_list pl.isList fun h' he hit hsz hk=>?_
   have I2:Inv X pins σ H1 { s1 with heap:=h'}:=I1.kept (t':=s1.toks) hk
   refine wpAny_pyIter_enum he ⟨_,[s1.heap.objs.size+1,s1.heap.objs.size],_,_,H1,rfl,I2,Fv a _ _ (Nat.succ_ne_self _),⟨⟨_,he⟩,hit⟩,fun b hb=>?_,q⟩
   have hb' : b=s1.heap.objs.size+1\/b=s1.heap.objs.size:=by simpa using hb
   have Rv:s1.heap.objs.size<=b:=by
    rcases hb' with rfl|rfl
    ·exact Nat.le_succ _
    ·exact Nat.le_refl _
   exact I1.B5 Rv (I1.hok.fresh Rv)
theorem Iv(K:bK){a b:Expr}{ta:TA}{p pos:Pos}(hg:Gl X "zip")(hm:X.mg "zip"=none)(ha:PA X [a,b] ta)(hs:starEach [a,b] X.env=[(false,eval a X.env),(false,eval b X.env)]:=by rfl)(hs2:starEach [b] X.env=[(false,eval b X.env)]:=by rfl)(hK:X.K=K:=by rfl):
 PI X (.Tuple elts n tp) (.Call (.Name "zip" p) [a,b] [] pos) (U9 K ta):=by
 subst hK;intro pins s σ H R I h;refine Call_ (kH I hg hm boot_zip (PyProof.Rows.callWith_type1 (dB (ha pos pins s σ H _ I h) fun us s1 ⟨vs,H1,I1,r1,q1⟩=>?_) (by rw[hs,hs2]) (by rw[hs2];rfl)))
 obtain⟨a,b,e,⟨xs,hq⟩,⟨ys,hq2⟩,q⟩:=q1;subst e;cases r1 with
 | cons r rr =>
   cases rr with
   | cons r' rr =>
     cases rr;cases r;cases r';obtain⟨its,rv,pl,hz⟩:=I1.list hq;obtain⟨its2,Tr,WR,hz2⟩:=I1.list hq2;refine call_zip_2 pl.isList WR.isList fun h' WS hI hO h1 h2 hsz hk=>?_
     have I2:Inv X pins σ H1 { s1 with heap:=h'}:=I1.kept (t':=s1.toks) hk
     have la:a<s1.heap.objs.size:=by obtain⟨_,q,_⟩:=pl.isList;exact Heap.lt_size q
     have lb:b<s1.heap.objs.size:=by obtain⟨_,q,_⟩:=WR.isList;exact Heap.lt_size q
     refine wpAny_pyIter_zip WS ⟨_,[s1.heap.objs.size+4,s1.heap.objs.size+2,s1.heap.objs.size+3,s1.heap.objs.size,s1.heap.objs.size+1],_,_,H1,rfl,I2,
      Ir a b _ _ _ _ _ (Fw la lb),⟨WS,hI,⟨_,_,hO⟩,h1,h2⟩,fun c hc=>?_,q⟩
     have hc' : c=s1.heap.objs.size+4\/c=s1.heap.objs.size+2\/c=s1.heap.objs.size+3\/c=s1.heap.objs.size\/c=s1.heap.objs.size+1:=by simpa using hc
     have hcs:s1.heap.objs.size<=c:=by
      rcases hc' with rfl|rfl|rfl|rfl|rfl
      ·exact Nat.le_add_right _ _
      ·exact Nat.le_add_right _ _
      ·exact Nat.le_add_right _ _
      ·exact Nat.le_refl _
      ·exact Nat.le_add_right _ _
     exact I1.B5 hcs (I1.hok.fresh hcs)
end
section
variable {K:bK}{a b:Addr}{xs ys:List V}{g:TG}{tt:TT}{te:TE}{n:Nat}{fr:St}{D:Addr}{Q:Hp->Prop}{H1:Hp}
theorem Iw{tb:TS}{D:Ends}{σ:St}{H:Hp}(Pv:Nat->St->Hp->Prop)(h0:Pv 0 σ H)(hl:∀ i σ H,i<=xs.length->Pv i σ H->aO K H a xs)
 (hs:∀ i x T σ H,xs[i]?=some x->Pv i σ H->H T=none->g (.ref T) σ (upd H T (.tup [.int (i:Int),x])) fun σ2 H2=>tb { D with nx:=Pv (i+1),ct:=Pv (i+1),bk:=D.nx} σ2 H2) (hd:∀ σ H,Pv xs.length σ H->D.nx σ H) :
 ∃ W:Nat->Nat->St->Hp->Prop,(∃ m,W 0 m σ H)/\∀ i m σ H,W i m σ H->
   ((Qc K a).stop i H/\D.nx σ H)\/((Qc K a).go i H/\∃ N:St->Hp->Prop,(∀ σ' H',N σ' H'->∃ m',m'<m/\W (i+1) m' σ' H')/\∀ x H',(Qc K a).HJ i H x H'->g x σ H' fun σ2 H2=>tb { D with nx:=N,ct:=N,bk:=D.nx} σ2 H2):=by
 refine⟨fun i m σ H=>m=xs.length-i/\i<=xs.length/\Pv i σ H,⟨xs.length,by simp,Nat.zero_le _,h0⟩,?_⟩
 rintro i m σ H ⟨rfl,hi,p⟩;have q:=hl i σ H hi p
 by_cases hlt:i<xs.length
 ·refine .inr ⟨⟨xs,xs[i],q,by simp[hlt]⟩,Pv (i+1),fun σ' H' p'=>⟨xs.length-(i+1),by lia,rfl,hlt,p'⟩,fun v H' y=>?_⟩
  obtain⟨T,x,rfl,hT,rfl,y⟩:=y;exact hs i x T σ _ (y xs q) p hT
 ·have e:i=xs.length:=by lia
  subst e;exact .inl ⟨⟨xs,q,Nat.le_refl _⟩,hd σ H p⟩
theorem z9(hxy:xs.length=ys.length)(Pv:Nat->List V->Hp->Prop)(h0:Pv 0 [] H1)(hl:∀ i acc H,i<=xs.length->Pv i acc H->aO K H a xs/\aO K H b ys/\H D=some (.lst acc)/\acc.length<=i)(hz:xs.length<=sizeLine)
 (hs:∀ i x y T acc H,xs[i]?=some x->ys[i]?=some y->Pv i acc H->H T=none->g (.ref T) (List.replicate n none++fr) (upd H T (.tup [x,y])) fun σ2 H2=>σ2.drop n=fr/\tt σ2 H2 fun b H3 =>
  if b=true then te σ2 H3 fun v H4=>H4 D=some (.lst acc)/\Pv (i+1) (acc++[v]) (upd H4 D (.lst (acc++[v]))) else Pv (i+1) acc H3)
 (hd:∀ acc H,Pv xs.length acc H->Q H):iw (U7 K a b) g tt te n fr D Q H1:=by
 refine⟨fun i m acc H=>m=xs.length-i/\i<=xs.length/\Pv i acc H,⟨xs.length,by simp,Nat.zero_le _,h0⟩,?_⟩
 rintro i m acc H ⟨rfl,hi,p⟩;obtain⟨q,q2,hD,ha⟩:=hl i acc H hi p;refine⟨hD,?_⟩
 by_cases hlt:i<xs.length
 ·have Va:i<ys.length:=by lia
  refine .inr ⟨⟨xs,ys,xs[i],ys[i],q,q2,by simp[hlt],by simp[Va]⟩,by lia,Pv (i+1),fun acc' H' p'=>⟨xs.length-(i+1),by lia,rfl,hlt,p'⟩,fun v H' y=>?_⟩
  obtain⟨T,x,z,rfl,hT,rfl,y1,y2⟩:=y;exact hs i x z T acc _ (y1 xs q) (y2 ys q2) p hT
 ·have e:i=xs.length:=by lia
  subst e;exact .inl ⟨⟨xs,ys,q,q2,.inl (Nat.le_refl _)⟩,hd acc H p⟩
end
section
variable {X:Cx}
theorem Aa:fC X (.type "range") (fun xs H Q=>∃ j:Int,xs=[.int j]/\∀ p,H p=none->Q (.ref p) (upd H p (.E7 0 j))):=by
 intro pins s σ H xs us Q I r h;obtain⟨j,rfl,q⟩:=h;obtain⟨u,rfl,t,rfl⟩:=vals1 r;refine call_range_1 ⟨.ref s.heap.objs.size,_,I.laid (t':=s.toks+1+1) (fun b o e=>Heap.get?_push_of_some _ e) (Nat.le_refl _) ?_,rfl,q _ I.fresh⟩
 exact⟨_,_,_,Heap.get?_push_size _ rfl⟩
def vV(n:Nat):List V:=(List.range n).map fun i=>V.int ((i:Nat):Int)
theorem Na(hc:X.calm=true):fC X (.type "list") (fun xs H Q=>∃ p,∃ n:Nat,xs=[.ref p]/\H p=some (.E7 0 (n:Int))/\n<=900/\∀ l,H l=none->Q (.ref l) (upd H l (.lst (vV n)))):=by
 intro pins s σ H xs us Q I r h;obtain⟨p,n,rfl,hp,hn,q⟩:=h;obtain⟨u,rfl,rx⟩:=vals1 r;cases rx;obtain⟨t,u,v,e⟩:=(show br X.prog X.w H s.heap p (.E7 0 (n:Int)) from I.hok p _ hp)
 have hsz:Builtin.Range.rangeSize 0 (n:Int) 1=(n:Int):=by rw[rangeSize_one];split<;>lia
 refine call_list_range (I.ok.hd hc) e (small_one (by lia) (by lia) (by lia) (by lia)) hsz (Nat.le_trans hn (by decide)) fun h' tk acc c kp e' hacc=>?_
 refine⟨.ref s.heap.objs.size,_,I.laid (t':=tk) kp (Nat.le_refl _) ?_,rfl,q _ I.fresh⟩;have hl:acc.toList.length=n:=by rw[Array.length_toList];exact hacc.1
 have hz:(vV n).length<=sizeLine:=by
  unfold vV;rw[List.length_map,List.length_range];exact Nat.le_of_lt (j9 (by lia))
 refine⟨hz,acc.toList,c,?_,by simpa using e'⟩
 have key:∀(ys:List Value) (k:Nat),(∀ j v,ys[j]?=some v->∃ t,v=Value.int (((k+j:Nat)):Int) t)->Vals ((List.range' k ys.length).map fun i=>V.int ((i:Nat):Int)) ys:=by
  intro ys
  induction ys with
  | nil=>intro k _;exact .nil
  | cons y r ih =>
    intro k hy;obtain⟨t,ht⟩:=hy 0 y rfl;refine .cons ⟨t,by simpa using ht⟩ (ih (k+1) fun j v hv=>?_)
    obtain⟨t',ht'⟩:=hy (j+1) v (by simpa using hv)
    exact⟨t',by rw[ht'];congr 2;lia⟩
 have z:=key acc.toList 0 fun j v hv=>by
  obtain⟨t,ht⟩:=hacc.2 j v (by simpa using hv)
  exact⟨t,by rw[ht];congr 1;lia⟩
 rw[hl]at z;unfold vV;rw[List.range_eq_range'];exact z
theorem sumK(K:bK)(hc:X.calm=true)(hK:X.K=K:=by rfl):fC X (.builtin "sum") (fun xs H Q=>∃(p:Addr) (ns:List Int),xs=[.ref p]/\aO K H p (ns.map V.int)/\Q (.int ns.sum) H):=by
 subst hK;intro pins s σ H xs us Q I r h;obtain⟨p,ns,rfl,hq,q⟩:=h;obtain⟨u,rfl,rx⟩:=vals1 r;cases rx;obtain⟨its,rv,pl,hz⟩:=I.list hq;have hi:∀{ns:List Int} {its:List Value},Vals (ns.map V.int) its->∃ xs:Array (Int×Tok),its.toArray=intItems xs/\xs.toList.map (·.1)=ns:=by
  intro ns
  induction ns with
  | nil=>intro its r;cases r;exact⟨#[],by simp[intItems],rfl⟩
  | cons a l ih =>
    intro its r;cases r with
    | cons r1 r2 =>
      obtain⟨t,rfl⟩:=r1;obtain⟨xs,h1,h2⟩:=ih r2;refine⟨#[(a,t)]++xs,?_,by simp[h2]⟩
      have Iq:=congrArg Array.toList h1;simp only[intItems,Array.toList_map,List.toList_toArray]at Iq;simp[intItems,Iq,Array.map_append]
 obtain⟨ar,e1,e2⟩:=hi rv;have hl:s.heap.IsList p (intItems ar):=e1▸pl.isList;refine sum_intListG (I.ok.hd hc) hl fun h' tk t' hk=>?_
 have e3:preSum (numAt ar) ar.size=ns.sum:=by rw[preSum_eq,List.take_of_length_le (by simp),e2]
 rw[e3];exact⟨.int ns.sum,H,I.kept hk,⟨t',rfl⟩,q⟩
theorem Vb(K:bK)(hc:X.calm=true)(hK:X.K=K:=by rfl):fC X (.type "set") (fun xs H Q=>∃(p:Addr) (ns:List Int),xs=[.ref p]/\aO K H p (ns.map V.int)/\ns.length<=900/\
 ∀(l:Addr) (S:Int->Bool),H l=none->Q (.ref l) (upd H l (.set S (firstMet (fun i=>ns.getD i 0) ns.length).length))):=by
 subst hK;intro pins s σ H xs us Q I r h;obtain⟨p,ns,rfl,hq,hn,q⟩:=h;obtain⟨u,rfl,rx⟩:=vals1 r;cases rx;obtain⟨its,rv,pl,hz⟩:=I.list hq;have hl:=rv.length;rw[List.length_map]at hl;have hsz:its.toArray.size=ns.length:=by rw[List.size_toArray];lia
 refine PySem.call_set_list (I.ok.hd hc) pl.isList (ns:=ns) (by simpa using intsAre_of rv) (by rw[hsz];show ns.length+1<4096;lia) fun h' tk hS hk=>?_
 rw[hsz]at hS;exact⟨.ref s.heap.objs.size,_,I.laid (t':=tk) (o:=.set (fun k'=>(firstMet (fun i=>ns.getD i 0) ns.length).any fun x=>x==k') (firstMet (fun i=>ns.getD i 0) ns.length).length) (fun b o e=>hk b o (Heap.lt_size e) e) (Nat.le_refl _) hS,rfl,q _ _ I.fresh⟩
theorem Oq:fC X (.builtin "len") (fun xs H Q=>∃(p:Addr) (S:Int->Bool) (n:Nat),xs=[.ref p]/\H p=some (.set S n)/\Q (.int (n:Int)) H):=by
 intro pins s σ H xs us Q I r h;obtain⟨p,S,n,rfl,hp,q⟩:=h;obtain⟨u,rfl,rx⟩:=vals1 r;cases rx;obtain⟨o,es,ep,t,ho,hex,hd,_,_,hb,hf,rfl⟩:=(show br X.prog X.w H s.heap p (.set S n) from I.hok p _ hp)
 refine call_len_set ho hex hd hf (by have:es.size<4096:=hb;lia) ⟨.int _,H,I.tok _,⟨_,rfl⟩,q⟩
end
end L2
namespace HT
open PySem PyProof.Rows
section
variable {prog:Program}{w:World}{A:Around}{E:dw}{s:Shared}
theorem nE{t sl:Addr}{items:Array Value}{vl vu:Value}{lo hi:Option Int}{Q:dw}(ht:IsTup s.heap t items)(hs:s.heap.IsSliceOf sl vl vu .none)(pl:IsPart vl lo)(pu:IsPart vu hi)
 (hw:eN items.size 0 lo=0/\eN items.size items.size hi=items.size) (h:Q (.ref t) s):wpAny (model prog w) A (getItem (.ref t) (.ref sl)) Q E s:=by
 obtain⟨os,hos,hcs,hds⟩:=id hs;have UI:s.TypeIs (.ref sl) "slice":=⟨os,hos,hcs⟩;unfold getItem
 try with_reducible refine wpAny_holding ?_
 first | refine wpAny_bind (wpAny_pure ?_) | skip
 refine wpAny_bind (wpAny_sequenceKey ht.typeIs (by decide) ?_)
 refine wpAny_bind (wpAny_callSpecial?_slot (name:=Str.ofString "__getitem__") ht.typeIs PyProof.Rows.slot_tuple_getitem
  (wpAny_call_entry PyProof.Rows.slot_tuple_getitem ht.typeIs entry_tuple_getitem ?_ (args_tuple_getitem _ _)))
 show wpAny _ _ (Builtin.Tuple.tupleItemsOf (.ref t) >>= _) _ _ s;refine wpAny_bind (tupleItemsOf_ ht ?_);refine wpAny_bind (wpAny_typeOf UI ?_);rw[if_pos (by decide)]
 refine wpAny_bind (j8 hs pl pu ?_);have hyes:(((eN items.size 0 lo:Nat):Int)==0&&(1:Int)==1&&(eN items.size items.size hi-eN items.size 0 lo)==items.size)=true:=by
  rw[hw.1,hw.2];simp
 show wpAny _ _ (if(((eN items.size 0 lo:Nat):Int)==0&&(1:Int)==1&&(eN items.size items.size hi-eN items.size 0 lo)==items.size)=true then _ else _) _ _ s
 rw[if_pos hyes];refine wpAny_bind ?_;unfold Builtin.Tuple.tupleIsExact;refine wpAny_bind (wpAny_typeOf ht.typeIs (wpAny_pure ?_));rw[if_pos (by decide)]
 exact wpAny_bind (wpAny_rule (wpAny_pure ⟨_,rfl,wpAny_pure h⟩))
end
end HT
namespace L2
open PySem PySem.Spec PyProof.Rows
section
variable {X:Cx}
def Rx:V->Option Int->Option Int->Hp->VK->Prop:=fun x lo hi H Q=>∃ a xs,x = .ref a/\H a=some (.tup xs)/\∀ p H',av H H'->H' p=some (.tup (qm xs lo hi))->Q (.ref p) H'
theorem Vc:Tn X Rx:=by
 intro pins s σ H x v vl vu lo hi sl Q I rx hs pl pu h;obtain⟨a,xs,rfl,hx,q⟩:=h;cases rx;obtain⟨its,r,ht,hz⟩:=I.tuple (aP.of hx);have hlen:its.toArray.size=xs.length:=by rw[List.size_toArray];exact r.length.symm
 refine⟨"tuple",_,PyProof.Rows.slot_tuple_getitem.lookup,ht.typeIs,?_⟩
 by_cases hw:HT.eN xs.length 0 lo=0/\HT.eN xs.length xs.length hi=xs.length
 ·refine HT.nE ht hs pl pu (by rw[hlen];exact hw) ⟨.ref a,H,I,rfl,q a H (av.refl _) ?_⟩
  unfold qm;rw[hw.1,hw.2,List.drop_zero,Nat.sub_zero,List.take_length];exact hx
 ·refine HT.o4 ht hs pl pu (by rw[hlen];exact hw) ?_ (by rw[hlen];exact hz)
  rw[hlen];refine⟨.ref s.heap.objs.size,_,I.laid (t':=s.toks) (o:=.tup (qm xs lo hi)) (fun b ob q=>Heap.get?_push_of_some _ q) (Nat.le_refl _) ?_,rfl,q _ _ (av.new (I.hok.fresh (Nat.le_refl _))) ae⟩
  exact⟨Nat.le_trans (r6 xs lo hi) hz,_,(r.drop (HT.eN xs.length 0 lo)).take (HT.eN xs.length xs.length hi-HT.eN xs.length 0 lo),IsTup.new _ _⟩
end
end L2
namespace Ring
open PySem
abbrev dJ:=Int×Int×Int
def bit(S:Int)(k:Nat):Bool:=decide (S/2^k%2=1)
def bE(S:Int):List Nat:=(List.range (Builtin.Int.intBits S)).filter (bit S)
def bump(e:List Int)(i:Int):List Int:=e.set i.toNat (e.getD i.toNat 0+1)
def step(ts:List dJ)(e:List Int)(k:Nat):List Int:=match ts[k]? with
 | some t=>bump (bump e t.1) t.2.1
 | none=>e
def jO(p:Nat)(ts:List dJ)(S:Int):List Int:=(bE S).foldl (step ts) (List.replicate p 0)
def uh(p:Nat)(ts:List dJ)(S:Int):List Nat:=(List.range p).filter fun i=>decide ((jO p ts S).getD i 0%2=1)
def Le(ts:List dJ)(k i:Nat):Int:=match ts[k]? with
 | some t=>(if t.1=(i:Int) then 1 else 0)+(if t.2.1=(i:Int) then 1 else 0)
 | none=>0
theorem kg(e:List Int)(i:Int):(bump e i).length=e.length:=by unfold bump;rw[List.length_set]
theorem Iz(ts:List dJ)(e:List Int)(k:Nat):(step ts e k).length=e.length:=by
 unfold step
 split
 ·rw[kg,kg]
 ·rfl
theorem Ab(e:List Int)(j:Int)(i:Nat)(h0:0<=j)(h1:j<e.length):(bump e j).getD i 0=e.getD i 0+if j=(i:Int) then 1 else 0:=by
 unfold bump;rw[List.getD_eq_getElem?_getD,List.getD_eq_getElem?_getD,List.getD_eq_getElem?_getD]
 by_cases h:j=(i:Int)
 ·have hi:j.toNat=i:=by lia
  rw[if_pos h,hi,List.getElem?_set_self (by lia)]
  rfl
 ·have hi:j.toNat≠i:=by lia
  rw[if_neg h,List.getElem?_set_ne hi]
  lia
structure Eo(p:Nat)(ts:List dJ):Prop where
 ends:∀ t∈ts,0<=t.1/\t.1<(p:Int)/\0<=t.2.1/\t.2.1<(p:Int)
theorem step_get{p:Nat}{ts:List dJ}(W:Eo p ts)(e:List Int)(k i:Nat)(he:e.length=p):(step ts e k).getD i 0=e.getD i 0+Le ts k i:=by
 unfold step Le;cases h:ts[k]? with
 | none=>simp
 | some t =>
   obtain⟨a0,a1,b0,b1⟩:=W.ends t (List.mem_of_getElem? h);dsimp only;rw[Ab _ _ _ b0 (by rw[kg,he];exact b1),Ab _ _ _ a0 (by rw[he];exact a1)]
   lia
def qp(ts:List dJ)(ks:List Nat)(i:Nat):Int:=(ks.map fun k=>Le ts k i).sum
theorem Ac{p:Nat}{ts:List dJ}(W:Eo p ts)(i:Nat):∀(ks:List Nat) (e:List Int),e.length=p->(ks.foldl (step ts) e).getD i 0=e.getD i 0+qp ts ks i
 | [],e,_=>by simp[qp]
 | k::r,e,he=>by
   rw[List.foldl_cons,Ac W i r _ (by rw[Iz,he]),step_get W e k i he]
   unfold qp;rw[List.map_cons,List.sum_cons]
   lia
theorem IA{p:Nat}{ts:List dJ}(W:Eo p ts)(S:Int)(i:Nat):(jO p ts S).getD i 0=qp ts (bE S) i:=by
 unfold jO;rw[Ac W i _ _ (by simp)]
 have e:(List.replicate p (0:Int)).getD i 0=0:=by
  rw[List.getD_eq_getElem?_getD,List.getElem?_replicate]
  split<;>rfl
 rw[e]
 lia
theorem eT(m k:Nat):bit (m:Int) k=m.testBit k:=by
 unfold bit;rw[Nat.testBit_eq_decide_div_mod_eq];have e:((m:Int)/2^k%2=1)↔(m/2^k%2=1):=by
  have h2:((2:Int)^k)=((2^k:Nat):Int):=by simp
  rw[h2,<-Int.natCast_ediv]
  lia
 simp only[e]
theorem um(m:Nat):Builtin.Int.intBits (m:Int)=if m=0 then 0 else m.log2+1:=by
 unfold Builtin.Int.intBits
 by_cases h:m=0
 ·simp[h]
 ·simp[h]
theorem bits_le{m n:Nat}(h:m<2^n):Builtin.Int.intBits (m:Int)<=n:=by
 rw[um]
 split
 ·exact Nat.zero_le _
 ·rename_i h0
  exact(Nat.log2_lt h0).mpr h
theorem Ad{m k:Nat}(h:Builtin.Int.intBits (m:Int)<=k):bit (m:Int) k=false:=by
 rw[eT];rw[um]at h
 by_cases h0:m=0
 ·simp[h0]
 ·rw[if_neg h0]at h;exact Nat.testBit_lt_two_pow (Nat.lt_of_lt_of_le Nat.lt_log2_self (Nat.pow_le_pow_right (by decide) h))
theorem pe(f:Nat->Bool)(a:Nat):∀ d,(∀ k,a<=k->f k=false)->(List.range (a+d)).filter f=(List.range a).filter f
 | 0,_=>rfl
 | d+1,h=>by
   rw[<-Nat.add_assoc,List.range_succ,List.filter_append,pe f a d h];have e:[a+d].filter f=[]:=by rw[List.filter_cons,if_neg (by rw[h _ (by lia)];simp)];rfl
   rw[e,List.append_nil]
theorem jj{m n:Nat}(h:m<2^n):bE (m:Int)=(List.range n).filter fun k=>m.testBit k:=by
 unfold bE;have hb:=bits_le h;obtain⟨d,hd⟩:=Nat.exists_eq_add_of_le hb;have e:(fun k=>m.testBit k)=bit (m:Int):=funext fun k=>(eT m k).symm
 rw[e]
 conv=>rhs;rw[hd]
 exact(pe _ _ d fun k hk=>Ad hk).symm
theorem tw{m n:Nat}(h:m<2^n){k:Nat}(hk:k∈bE (m:Int)):k<n:=by
 rw[jj h]at hk;exact List.mem_range.mp (List.mem_filter.mp hk).1
theorem sum_filter(ts:List dJ)(i:Nat)(f:Nat->Bool):∀ ks:List Nat,qp ts (ks.filter f) i=(ks.map fun k=>if f k=true then Le ts k i else 0).sum
 | []=>rfl
 | k::r=>by
   have ih:=sum_filter ts i f r;rw[List.map_cons,List.sum_cons,<-ih];cases h:f k with
   | true =>
     rw[List.filter_cons,if_pos h];unfold qp;rw[List.map_cons,List.sum_cons];simp
   | false =>
     rw[List.filter_cons,if_neg (by rw[h];simp)]
     simp
theorem IB{a b x y:Nat}(q:x/2+2*(y/2)=a/2+b/2)(h:x%2+2*(y%2)=a%2+b%2):x+2*y=a+b:=by lia
theorem mod_one{u v:Nat}(hu:u=0\/u=1)(hv:v=0\/v=1):(u^^^v)+2*(u&&&v)=u+v:=by
 rcases hu with rfl|rfl<;>rcases hv with rfl|rfl<;>rfl
theorem yu:∀ a b:Nat,(a^^^b)+2*(a&&&b)=a+b:=by
 intro a
 induction a using Nat.strongRecOn with
 | ind a ih =>
   intro b
   by_cases h:a=0
   ·subst h;simp
   ·have q:=ih (a/2) (by lia) (b/2)
    rw[<-Nat.xor_div_two,<-Nat.and_div_two]at q;refine IB q ?_;have e1:(a^^^b)%2=a%2^^^b%2:=Nat.xor_mod_two_pow (n:=1);have e2:(a&&&b)%2=a%2&&&b%2:=Nat.and_mod_two_pow (n:=1);rw[e1,e2];exact mod_one (Nat.mod_two_eq_zero_or_one a) (Nat.mod_two_eq_zero_or_one b)
theorem xor_int(a b:Nat):Builtin.bitXor (a:Int) (b:Int)=((a^^^b:Nat):Int):=by
 have h:(a:Int)+b-2*((a&&&b:Nat):Int)=((a^^^b:Nat):Int):=by
  have q:=yu a b
  lia
 have e:=PyProof.Rows.bitXor_and (a:Int) (b:Int);rw[e,PyProof.Rows.bitAnd_pp (by lia) (by lia)]
 simpa using h
open PySem L2
def LW(t:dJ):List V:=[.int t.1,.int t.2.1,.int t.2.2]
def TupAt(H:Hp)(x:V)(t:dJ):Prop:=∃ b,x = .ref b/\H b=some (.tup (LW t))
structure bu(H:Hp)(w:Addr)(p:Nat)(ts:List dJ):Prop where
 ex:∃ b xs,H w=some (.tup [.int (p:Int),.ref b])/\H b=some (.tup xs)/\Paired (TupAt H) xs ts
structure LX(p:Nat)(ts:List dJ):Prop where
 WT:Eo p ts
 len:ts.length<=24
 WU:p<=10
theorem TupAt.tups{H H' : Hp}(s:c6 H H'){x:V}{t:dJ}(h:TupAt H x t):TupAt H' x t:=by
 obtain⟨b,e,h⟩:=h;exact⟨b,e,s _ _ h⟩
theorem bu.tups{H H' : Hp}{w:Addr}{p:Nat}{ts:List dJ}(s:c6 H H')(h:bu H w p ts):bu H' w p ts:=by
 obtain⟨b,xs,h1,h2,h3⟩:=h.ex;exact⟨b,xs,s _ _ h1,s _ _ h2,Paired.imp' (fun _ _ z=>z.tups s) h3⟩
theorem bu.same{H H' : Hp}{w:Addr}{p:Nat}{ts:List dJ}(s:av H H')(h:bu H w p ts):bu H' w p ts:=h.tups s.tups
def aA(l:List Nat):List V:=l.map fun k=>V.int ((k:Nat):Int)
theorem cL(l:List Nat)(k:Nat):aA (l++[k])=aA l++[.int (k:Int)]:=by unfold aA;rw[List.map_append];rfl
theorem aC(l:List Nat):(aA l).length=l.length:=by unfold aA;rw[List.length_map]
theorem gP{l:List Nat}{i:Nat}{x:V}(h:(aA l)[i]?=some x):∃ k,l[i]?=some k/\x = .int (k:Int):=by
 unfold aA at h;rw[List.getElem?_map]at h;obtain⟨k,e,q⟩:=Option.map_eq_some_iff.mp h;exact⟨k,e,q.symm⟩
theorem bG(f:Nat->Bool)(i:Nat):(List.range (i+1)).filter f=(List.range i).filter f++(if f i=true then[i] else[]):=by
 rw[List.range_succ,List.filter_append]
 congr 1
 cases h:f i with
 | true=>rw[List.filter_cons,if_pos h,if_pos rfl];rfl
 | false=>rw[List.filter_cons,if_neg (by rw[h];simp),if_neg (by simp)];rfl
def nF(f:Nat->Bool)(H:Hp)(D:Addr)(i:Nat)(acc:List V)(H2:Hp):Prop:=av H H2/\H2 D=some (.lst acc)/\acc=aA ((List.range i).filter f)
section
variable {f:Nat->Bool}{H H2 H3:Hp}{D:Addr}{i:Nat}{acc:List V}
theorem nF.start(hD:H D=none):nF f H D 0 [] (upd H D (.lst [])):=⟨av.new hD,ae,rfl⟩
theorem nF.len(p:nF f H D i acc H2):H2 D=some (.lst acc)/\acc.length<=i:=by
 refine⟨p.2.1,?_⟩;rw[p.2.2,aC];exact Nat.le_trans (List.length_filter_le _ _) (by rw[List.length_range];exact Nat.le_refl _)
theorem nF.yes(p:nF f H D i acc H2)(hD:H D=none)(s:av H2 H3)(hf:f i=true):H3 D=some (.lst acc)/\nF f H D (i+1) (acc++[.int (i:Int)]) (upd H3 D (.lst (acc++[.int (i:Int)]))):=by
 refine⟨s _ _ p.2.1,(p.1.trans s).put hD,ae,?_⟩;rw[bG,if_pos hf,cL,<-p.2.2]
theorem nF.no(p:nF f H D i acc H2)(s:av H2 H3)(hf:f i=false):nF f H D (i+1) acc H3:=by
 refine⟨p.1.trans s,s _ _ p.2.1,?_⟩;rw[bG,if_neg (by rw[hf];simp),List.append_nil]
 exact p.2.2
end
def bL(ts:List dJ)(k:Nat):dJ:=ts.getD k (0,0,0)
def stepT(e:List Int)(t:dJ):List Int:=bump (bump e t.1) t.2.1
theorem xm{ts:List dJ}:∀(ks:List Nat) (e:List Int),(∀ k∈ks,k<ts.length)->(ks.map (bL ts)).foldl stepT e=ks.foldl (step ts) e
 | [],_,_=>rfl
 | k::r,e,h=>by
   rw[List.map_cons,List.foldl_cons,List.foldl_cons,xm r _ fun j hj=>h j (List.mem_cons_of_mem _ hj)]
   have hk:=h k List.mem_cons_self;have e1:ts[k]?=some (bL ts k):=by
    unfold bL;rw[List.getD_eq_getElem?_getD];simp[hk]
   have e2:step ts e k=stepT e (bL ts k):=by
    unfold step stepT;rw[e1]
   rw[e2]
theorem xn{p:Nat}{ts:List dJ}{m:Nat}(h:m<2^ts.length):jO p ts (m:Int)=((bE (m:Int)).map (bL ts)).foldl stepT (List.replicate p 0):=by
 unfold jO;rw[xm _ _ fun k hk=>tw h hk]
theorem Fy(e:List Int)(t:dJ):(stepT e t).length=e.length:=by unfold stepT;rw[kg,kg]
theorem qt:∀(l:List dJ) (e:List Int),(l.foldl stepT e).length=e.length
 | [],_=>rfl
 | t::r,e=>by rw[List.foldl_cons,qt r,Fy]
def l6(l:List Int):List V:=l.map V.int
theorem qu{l:List Int}{i:Nat}(h:i<l.length):(l6 l)[i]?=some (.int (l.getD i 0)):=by
 unfold l6;rw[List.getElem?_map,List.getD_eq_getElem?_getD];simp[h]
theorem uo(l:List Int)(i:Nat):(l6 l).set i (.int (l.getD i 0+1))=l6 (bump l (i:Int)):=by
 unfold l6 bump;rw[Int.toNat_natCast,List.map_set]
theorem IC(p:Nat):(List.replicate p [V.int 0]).flatten=l6 (List.replicate p 0):=by
 induction p with
 | zero=>rfl
 | succ p ih=>rw[List.replicate_succ,List.flatten_cons,ih,List.replicate_succ];rfl
theorem pq{n j:Nat}(h:j<n):LG n (j:Int)=some j:=by
 unfold LG;rw[if_pos (by lia),if_pos (by lia),Int.toNat_natCast]
def qv(k:Nat):PyData:=.int (k:Int)
theorem kh{K:bK}{H:Hp}:∀ l:List Nat,DatVs K H (aA l) (l.map qv)
 | []=>.nil
 | _::r=>.cons (.int _) (kh r)
theorem uq:∀ l:List Nat,PyData.canLayAll0 (l.map qv)=true
 | []=>rfl
 | _::r=>by
   have ih:=uq r;simp only[List.map_cons,PyData.canLayAll0,ih,Bool.and_true];rfl
theorem xo:∀ l:List Nat,PyData.depthAll (l.map qv)=0
 | []=>rfl
 | _::r=>by
   have ih:=xo r;show max (PyData.depth (PyData.int _)) (PyData.depthAll (r.map _))=0;rw[ih];rfl
theorem iy(l:List Nat):SeqAt.shaped (.list (l.map qv))=true:=by
 unfold SeqAt.shaped;have e:(PyData.list (l.map qv)).canLay0=PyData.canLayAll0 (l.map qv):=by simp[PyData.canLay0]
 rw[e,uq,Bool.true_and];refine decide_eq_true ?_;have e2:PyData.depth (PyData.list (l.map qv))=PyData.depthAll (l.map qv)+1:=by simp[PyData.depth]
 rw[e2,xo]
 decide
theorem LY(l:List Nat):PyData.eqv (.list (l.map qv)) (.list [])=decide (l=[]):=by
 cases l with
 | nil=>rfl
 | cons a r=>rfl
theorem Ot(S:Int)(k:Nat):decide (V.int (Builtin.bitAnd (S/2^k) 1)=V.int 1)=bit S k:=by
 unfold bit;rw[PyProof.Rows.bitAnd_m1];rw[Bool.eq_iff_iff];simp
theorem Cm(S:Int)(k:Nat):decide (V.int (S/2^k%2)=V.int 1)=bit S k:=by
 unfold bit;rw[Bool.eq_iff_iff];simp
theorem LZ(x:Int):decide (V.int x=V.int 1)=decide (x=1):=by
 rw[Bool.eq_iff_iff];simp
structure pA(p:Int)(t:dJ):Prop where
 a0:0<=t.1
 a1:t.1<p
 b0:0<=t.2.1
 b1:t.2.1<p
 ne:t.1≠t.2.1
 l0:1<=t.2.2
 l1:t.2.2<=1000000000000000000000000000000
structure aE(p:Nat)(ts:List dJ):Prop where
 p1:1<=p
 p2:p<=10
 len:ts.length<=24
 vW:∀ t∈ts,pA (p:Int) t
theorem aE.Hv{p:Nat}{ts:List dJ}(g:aE p ts):LX p ts:=⟨⟨fun t ht=>let z:=g.vW t ht;⟨z.a0,z.a1,z.b0,z.b1⟩⟩,g.len,g.p2⟩
def sL(p:Int)(H:Hp)(D:Addr)(n:Nat)(H2:Hp):Prop:=av H H2/\∃ acc ts,H2 D=some (.lst acc)/\Paired (TupAt H2) acc ts/\acc.length=n/\∀ t∈ts,pA p t
section
variable {p:Int}{H H2 H3:Hp}{D b:Addr}{n:Nat}{t:dJ}
theorem sL.start(hD:H D=none):sL p H D 0 (upd H D (.lst [])):=⟨av.new hD,[],[],ae,.nil,rfl,fun t ht=>nomatch ht⟩
theorem sL.push(h:sL p H D n H2)(hD:H D=none)(s:av H2 H3)(g:pA p t)(hb:H3 b=some (.tup (LW t))):
 ∃ acc,H3 D=some (.lst acc)/\acc.length=n/\sL p H D (n+1) (upd H3 D (.lst (acc++[.ref b]))):=by
 obtain⟨s2,acc,ts,hd,pr,hn,gt⟩:=h;have Nb:H3 D=some (.lst acc):=s _ _ hd;refine⟨acc,Nb,hn,(s2.trans s).put hD,acc++[.ref b],ts++[t],ae,?_,by rw[List.length_append,List.length_singleton,hn],fun u hu=>?_⟩
 ·exact Paired.snoc (Paired.imp' (fun _ _ z=>z.tups (s.tups.trans (c6.put Nb))) pr) ⟨b,rfl,c6.put Nb _ _ hb⟩
 ·rcases List.mem_append.mp hu with hu|hu
  ·exact gt u hu
  ·cases List.mem_singleton.mp hu;exact g
theorem sL.fin{q:Nat}(h:sL (q:Int) H D n H2):∃ acc ts,H2 D=some (.lst acc)/\ts.length=n/\(∀ t∈ts,pA (q:Int) t)/\∀ l,H2 l=none->∀ w,upd H2 l (.tup acc) w=none->
 av H (upd (upd H2 l (.tup acc)) w (.tup [.int (q:Int),.ref l]))/\bu (upd (upd H2 l (.tup acc)) w (.tup [.int (q:Int),.ref l])) w q ts:=by
 obtain⟨s2,acc,ts,hd,pr,hn,gt⟩:=h;refine⟨acc,ts,hd,by rw[<-pr.length,hn],gt,fun l hl w hw=>?_⟩
 have n1:av H2 (upd H2 l (.tup acc)):=av.new hl;have n2:=n1.trans (av.new (o:=.tup [.int (q:Int),.ref l]) hw);refine⟨s2.trans n2,l,acc,ae,?_,Paired.imp' (fun _ _ z=>z.tups n2.tups) pr⟩
 rw[aq (bg ae hw),ae]
end
theorem ID{p o r:Int}(h:0<=o)(h1:o<p)(r0:0<=r)(r1:r<p-1):0<=(o+1+r)%p/\(o+1+r)%p<p/\o≠(o+1+r)%p:=by
 have hp:0<p:=by lia
 refine⟨Int.emod_nonneg _ (by lia),Int.emod_lt_of_pos _ hp,?_⟩
 by_cases hlt:o+1+r<p
 ·rw[Int.emod_eq_of_lt (by lia) hlt]
  lia
 ·have e:(o+1+r)%p=o+1+r-p:=by
   rw[<-Int.sub_emod_right,Int.emod_eq_of_lt (by lia) (by lia)]
  rw[e]
  lia
theorem bU{n:Nat}(h:n<=24):n<=sizeLine:=Nat.le_of_lt (j9 (by lia))
theorem iF{n:Nat}(h:n<=900):n<sizeLine:=j9 (by lia)
theorem L0{ns:List Int}{k:Nat}(h:k<ns.length):(ns.map V.int)[k]?=some (.int (ns.getD k 0)):=by
 rw[List.getElem?_map,List.getD_eq_getElem?_getD];simp[h]
theorem l7(x m:Int)(h:0<m):0<=x%m/\x%m<m:=⟨Int.emod_nonneg _ (by lia),Int.emod_lt_of_pos _ h⟩
end Ring
namespace RM
def bz(f:Nat->Bool):Nat->Bool
 | 0=>false
 | n+1=>bz f n^^f n
theorem bN{f g:Nat->Bool}:∀{n:Nat},(∀ k,k<n->f k=g k)->bz f n=bz g n
 | 0,_=>rfl
 | n+1,h=>by
   unfold bz;rw[bN fun k hk=>h k (by lia),h n (by lia)]
theorem jk(f g:Nat->Bool):∀ n,bz (fun k=>f k^^g k) n=(bz f n^^bz g n)
 | 0=>rfl
 | n+1=>by
   unfold bz;rw[jk f g n];cases bz f n<;>cases bz g n<;>cases f n<;>cases g n<;>rfl
theorem nY:∀ n,bz (fun _=>false) n=false
 | 0=>rfl
 | n+1=>by unfold bz;rw[nY n];rfl
theorem pB(c:Bool)(f:Nat->Bool):∀ n,bz (fun k=>c&&f k) n=(c&&bz f n)
 | 0=>by cases c<;>rfl
 | n+1=>by
   unfold bz;rw[pB c f n];cases c<;>simp
theorem xq(f:Nat->Nat->Bool)(n:Nat):∀ m,bz (fun x=>bz (fun k=>f x k) n) m=bz (fun k=>bz (fun x=>f x k) m) n
 | 0=>by
   show false=_;rw[<-nY n];rfl
 | m+1=>by
   show(bz (fun x=>bz (fun k=>f x k) n) m^^bz (fun k=>f m k) n)=_
   rw[xq f n m,<-jk];rfl
theorem gQ{f:Nat->Bool}{n:Nat}(h:∀ k,k<n->f k=false):bz f n=false:=by
 rw[bN (g:=fun _=>false) h,nY]
theorem pC{f:Nat->Bool}{a:Nat}:∀{n:Nat},a<n->(∀ k,k<n->k≠a->f k=false)->bz f n=f a
 | 0,h,_=>absurd h (Nat.not_lt_zero _)
 | n+1,h,z=>by
   unfold bz
   by_cases e:a=n
   ·subst e;rw[gQ fun k hk=>z k (by lia) (by lia)]
    simp
   ·rw[pC (a:=a) (by lia) fun k hk hn=>z k (by lia) hn,z n (by lia) (fun q=>e q.symm)]
    simp
theorem jl(C:Nat->Bool){a m:Nat}(h:a<m):bz (fun x=>C x&&decide (a=x)) m=C a:=by
 rw[pC h fun k _ hk=>by simp[Ne.symm hk]]
 simp
structure Net where
 p:Nat
 n:Nat
 a:Nat->Nat
 b:Nat->Nat
 al:∀ k,k<n->a k<p
 bl:∀ k,k<n->b k<p
 ne:∀ k,k<n->a k≠b k
variable (N:Net)
def Net.inc(k x:Nat):Bool:=decide (N.a k=x)^^decide (N.b k=x)
def Net.bd(m x:Nat):Bool:=bz (fun k=>m.testBit k&&N.inc k x) N.n
def Net.fk(m:Nat):Prop:=∀ x,x<N.p->N.bd m x=false
variable {N}
theorem gR(m q x:Nat):N.bd (m^^^q) x=(N.bd m x^^N.bd q x):=by
 unfold Net.bd;rw[<-jk];refine bN fun k _=>?_
 rw[Nat.testBit_xor];cases m.testBit k<;>cases q.testBit k<;>cases N.inc k x<;>rfl
theorem mZ(x:Nat):N.bd 0 x=false:=by
 unfold Net.bd;exact gQ fun k _=>by simp
theorem l8{k:Nat}(h:k<N.n)(x:Nat):N.bd (2^k) x=N.inc k x:=by
 unfold Net.bd;rw[pC h fun j _ hj=>by simp[Nat.testBit_two_pow,Ne.symm hj]]
 simp[Nat.testBit_two_pow]
theorem fk.xor{m q:Nat}(h:N.fk m)(h' : N.fk q):N.fk (m^^^q):=fun x hx=>by rw[gR,h x hx,h' x hx];rfl
theorem fk.zero:N.fk 0:=fun x _=>mZ x
theorem IE{m:Nat}(C:Nat->Bool)(h:∀ k,k<N.n->m.testBit k=true->C (N.a k)=C (N.b k)):bz (fun x=>C x&&N.bd m x) N.p=false:=by
 have e:bz (fun x=>C x&&N.bd m x) N.p=bz (fun x=>bz (fun k=>C x&&(m.testBit k&&N.inc k x)) N.n) N.p :=
  bN fun x _=>(pB (C x) _ N.n).symm
 rw[e,xq];refine gQ fun k hk=>?_
 have e2:bz (fun x=>C x&&(m.testBit k&&N.inc k x)) N.p=(m.testBit k&&(C (N.a k)^^C (N.b k))):=by
  rw[<-jl C (N.al k hk),<-jl C (N.bl k hk),<-jk,<-pB];refine bN fun x _=>?_
  unfold Net.inc;cases C x<;>cases m.testBit k<;>cases decide (N.a k=x)<;>cases decide (N.b k=x)<;>rfl
 rw[e2];cases hb:m.testBit k with
 | false=>rfl
 | true=>rw[h k hk hb];simp
def join(L:Nat->Nat)(u v:Nat):Nat->Nat:=fun x=>if L x=max (L u) (L v) then min (L u) (L v) else L x
theorem join_eq{L:Nat->Nat}{u v x y:Nat}(h:L x=L y):join L u v x=join L u v y:=by unfold join;rw[h]
theorem xr(L:Nat->Nat)(u v:Nat):join L u v u=join L u v v:=by
 unfold join
 split<;>split<;>lia
theorem xu{L:Nat->Nat}{u v:Nat}(h:L u=L v):join L u v=L:=by
 funext x
 unfold join;rw[h]
 split<;>lia
theorem ur{L:Nat->Nat}{u v x y:Nat}(h:join L u v x=join L u v y):L x=L y\/(L x=L u/\L y=L v)\/(L x=L v/\L y=L u):=by
 unfold join at h;have mm:(max (L u) (L v)=L u/\min (L u) (L v)=L v)\/(max (L u) (L v)=L v/\min (L u) (L v)=L u):=by
  rcases Nat.le_total (L u) (L v) with q|q
  ·exact .inr ⟨Nat.max_eq_right q,Nat.min_eq_left q⟩
  ·exact .inl ⟨Nat.max_eq_left q,Nat.min_eq_right q⟩
 rcases mm with⟨e1,e2⟩|⟨e1,e2⟩
 ·rw[e1,e2]at h
  split at h
  ·rename_i hx
   split at h
   ·rename_i hy
    exact .inl (hx.trans hy.symm)
   ·exact .inr (.inl ⟨hx,h.symm⟩)
  ·split at h
   ·rename_i hy
    exact .inr (.inr ⟨h,hy⟩)
   ·exact .inl h
 ·rw[e1,e2]at h
  split at h
  ·rename_i hx
   split at h
   ·rename_i hy
    exact .inl (hx.trans hy.symm)
   ·exact .inr (.inr ⟨hx,h.symm⟩)
  ·split at h
   ·rename_i hy
    exact .inr (.inl ⟨h,hy⟩)
   ·exact .inl h
theorem join_le{L:Nat->Nat}{u v x:Nat}(h:L x<=x):join L u v x<=x:=by
 unfold join
 split<;>lia
theorem Fz{L:Nat->Nat}{u v:Nat}(h:∀ x,L (L x)=L x)(x:Nat):join L u v (join L u v x)=join L u v x:=by
 have hu:=h u;have hv:=h v;have hx:=h x;have hlo:L (min (L u) (L v))=min (L u) (L v):=by
  rcases Nat.le_total (L u) (L v) with q|q
  ·rw[Nat.min_eq_left q];exact hu
  ·rw[Nat.min_eq_right q];exact hv
 unfold join
 split
 ·rw[hlo]
  split<;>lia
 ·rw[hx]
  split<;>lia
def Net.aM(N:Net)(S:Nat->Bool):Nat->Nat->Nat
 | 0=>fun x=>x
 | k+1=>if S k=true then join (Net.aM N S k) (N.a k) (N.b k) else Net.aM N S k
variable {S:Nat->Bool}
theorem pD:∀(k x:Nat),N.aM S k x<=x
 | 0,_=>Nat.le_refl _
 | k+1,x=>by
   unfold Net.aM
   split
   ·exact join_le (pD k x)
   ·exact pD k x
theorem b9:∀(k x:Nat),N.aM S k (N.aM S k x)=N.aM S k x
 | 0,_=>rfl
 | k+1,x=>by
   by_cases hs:S k=true
   ·have e:N.aM S (k+1)=join (N.aM S k) (N.a k) (N.b k):=by
     conv=>lhs;unfold Net.aM
     rw[if_pos hs]
    rw[e];exact Fz (b9 k) x
   ·have e:N.aM S (k+1)=N.aM S k:=by
     conv=>lhs;unfold Net.aM
     rw[if_neg hs]
    rw[e];exact b9 k x
theorem xw{x y k:Nat}(h:N.aM S k x=N.aM S k y):∀ d,N.aM S (k+d) x=N.aM S (k+d) y
 | 0=>h
 | d+1=>by
   have ih:=xw h d;show N.aM S (k+d+1) x=N.aM S (k+d+1) y;unfold Net.aM
   split
   ·exact join_eq ih
   ·exact ih
theorem iz{j k:Nat}(h:j<k)(hs:S j=true):N.aM S k (N.a j)=N.aM S k (N.b j):=by
 obtain⟨d,rfl⟩:=Nat.exists_eq_add_of_le (Nat.succ_le_of_lt h);refine xw ?_ d;show N.aM S (j+1) (N.a j)=N.aM S (j+1) (N.b j);unfold Net.aM;rw[if_pos hs];exact xr _ _ _
inductive Net.lQ(N:Net)(S:Nat->Bool)(k u:Nat):Nat->Prop
 | refl:Net.lQ N S k u u
 | fwd {j:Nat} (h:Net.lQ N S k u (N.a j)) (hj:j<k) (hs:S j=true):Net.lQ N S k u (N.b j)
 | bwd {j:Nat} (h:Net.lQ N S k u (N.b j)) (hj:j<k) (hs:S j=true):Net.lQ N S k u (N.a j)
theorem Net.lQ.trans{k u v w:Nat}(h:N.lQ S k u v)(h' : N.lQ S k v w):N.lQ S k u w:=by
 induction h' with
 | refl=>exact h
 | fwd _ hj hs ih=>exact .fwd ih hj hs
 | bwd _ hj hs ih=>exact .bwd ih hj hs
theorem Net.lQ.mono{k l u v:Nat}(h:N.lQ S k u v)(lP:k<=l):N.lQ S l u v:=by
 induction h with
 | refl=>exact .refl
 | fwd _ hj hs ih=>exact .fwd ih (by lia) hs
 | bwd _ hj hs ih=>exact .bwd ih (by lia) hs
theorem bQ:∀(k u v:Nat),N.aM S k u=N.aM S k v->N.lQ S k u v
 | 0,u,v,h=>by
   have e:u=v:=h;subst e;exact .refl
 | k+1,u,v,h=>by
   unfold Net.aM at h
   split at h
   ·rename_i hs
    rcases ur h with q|⟨q1,q2⟩|⟨q1,q2⟩
    ·exact(bQ k u v q).mono (by lia)
    ·have c1:=(bQ k u _ q1).mono (Nat.le_succ k);have c2:=(bQ k _ v q2.symm).mono (Nat.le_succ k);exact Net.lQ.trans (.fwd c1 (by lia) hs) c2
    ·have c1:=(bQ k u _ q1).mono (Nat.le_succ k);have c2:=(bQ k _ v q2.symm).mono (Nat.le_succ k);exact Net.lQ.trans (.bwd c1 (by lia) hs) c2
   ·exact(bQ k u v h).mono (by lia)
def Net.fu(N:Net)(k:Nat):Nat->Nat:=N.aM (fun _=>true) k
def Net.l9(N:Net)(k:Nat):Bool:=!decide (N.fu k (N.a k)=N.fu k (N.b k))
theorem Ae(k:Nat):N.fu (k+1)=if N.l9 k=true then join (N.fu k) (N.a k) (N.b k) else N.fu k:=by
 show N.aM (fun _=>true) (k+1)=_
 unfold Net.aM;rw[if_pos rfl];unfold Net.l9
 by_cases h:N.fu k (N.a k)=N.fu k (N.b k)
 ·rw[if_neg (by simp[h])]
  exact xu h
 ·rw[if_pos (by simp[h])]
  rfl
theorem gv{m:Nat}(hf:∀ k,m.testBit k=true->k<N.n/\N.l9 k=true)(he:N.fk m):m=0:=by
 by_cases h0:m=0
 ·exact h0
 exfalso
 have hK:m.testBit m.log2=true:=Nat.testBit_log2 h0;obtain⟨Tu,Tv⟩:=hf _ hK;generalize ZI:m.log2=K at hK Tu Tv;have hlt:m<2^(K+1):=by rw[<-ZI];exact Nat.lt_log2_self
 have hcl:=IE (N:=N) (m:=m^^^2^K) (fun x=>decide (N.fu K x=N.fu K (N.a K))) fun k hk hb=>by
  have ZJ:k<K:=by
   rw[Nat.testBit_xor,Nat.testBit_two_pow]at hb
   by_cases e:K=k
   ·subst e;simp[hK]at hb
   ·have hb' : m.testBit k=true:=by simpa[e]using hb
    have:k<K+1:=by
     by_cases q:k<K+1
     ·exact q
     ·have z:=Nat.testBit_lt_two_pow (Nat.lt_of_lt_of_le hlt (Nat.pow_le_pow_right (by decide) (show K+1<=k by lia)))
      rw[hb']at z;cases z
    lia
  have e:N.fu K (N.a k)=N.fu K (N.b k):=iz (S:=fun _=>true) ZJ rfl
  show decide (N.fu K (N.a k)=_)=decide (N.fu K (N.b k)=_);rw[e]
 have e:bz (fun x=>decide (N.fu K x=N.fu K (N.a K))&&N.bd (m^^^2^K) x) N.p=bz (fun x=>decide (N.fu K x=N.fu K (N.a K))&&N.inc K x) N.p :=
  bN fun x hx=>by rw[gR,he x hx,l8 Tu];simp
 rw[e]at hcl;have e2:bz (fun x=>decide (N.fu K x=N.fu K (N.a K))&&N.inc K x) N.p=(decide (N.fu K (N.a K)=N.fu K (N.a K))^^decide (N.fu K (N.b K)=N.fu K (N.a K))):=by
  rw[<-jl (fun x=>decide (N.fu K x=N.fu K (N.a K))) (N.al K Tu),<-jl (fun x=>decide (N.fu K x=N.fu K (N.a K))) (N.bl K Tu),<-jk]
  refine bN fun x _=>?_
  unfold Net.inc;cases decide (N.fu K x=N.fu K (N.a K))<;>cases decide (N.a K=x)<;>cases decide (N.b K=x)<;>rfl
 rw[e2]at hcl;unfold Net.l9 at Tv;have hne : ¬ N.fu K (N.b K)=N.fu K (N.a K):=fun q=>by rw[q]at Tv;simp at Tv
 simp[hne]at hcl
def Net.trail(N:Net):Nat->Nat->Nat
 | 0=>fun _=>0
 | k+1=>if N.l9 k=true then fun v=>if N.fu k v=max (N.fu k (N.a k)) (N.fu k (N.b k)) then Net.trail N k v^^^(Net.trail N k (N.a k)^^^Net.trail N k (N.b k)^^^2^k) else Net.trail N k v
   else Net.trail N k
theorem ki:∀(k v j:Nat),(N.trail k v).testBit j=true->j<k/\N.l9 j=true
 | 0,v,j,h=>by simp[Net.trail]at h
 | k+1,v,j,h=>by
   have ih:=ki k;unfold Net.trail at h
   split at h
   ·rename_i hf
    dsimp only at h
    split at h
    ·rw[Nat.testBit_xor,Nat.testBit_xor,Nat.testBit_xor,Nat.testBit_two_pow]at h
     by_cases e:k=j
     ·subst e;exact⟨by lia,hf⟩
     ·have z : ¬((N.trail k v).testBit j=false/\(N.trail k (N.a k)).testBit j=false/\(N.trail k (N.b k)).testBit j=false):=by
       rintro⟨z1,z2,z3⟩;simp[z1,z2,z3,e]at h
      cases h1:(N.trail k v).testBit j with
      | true=>obtain⟨q,r⟩:=ih v j h1;exact⟨by lia,r⟩
      | false=>cases h2:(N.trail k (N.a k)).testBit j with
        | true=>obtain⟨q,r⟩:=ih _ j h2;exact⟨by lia,r⟩
        | false=>cases h3:(N.trail k (N.b k)).testBit j with
          | true=>obtain⟨q,r⟩:=ih _ j h3;exact⟨by lia,r⟩
          | false=>exact absurd ⟨h1,h2,h3⟩ z
    ·obtain⟨q,r⟩:=ih v j h;exact⟨by lia,r⟩
   ·obtain⟨q,r⟩:=ih v j h;exact⟨by lia,r⟩
theorem IF(a b c d e f g h:Bool)(ZK:(d^^f)=(g^^h)):((a^^g)^^(((c^^d)^^(e^^f))^^(c^^e)))=(a^^h):=by
 have e1:(((c^^d)^^(e^^f))^^(c^^e))=(d^^f):=by cases c<;>cases d<;>cases e<;>cases f<;>rfl
 rw[e1,ZK];cases a<;>cases g<;>cases h<;>rfl
theorem uv:∀(k:Nat),k<=N.n->∀ v x,N.bd (N.trail k v) x=(decide (v=x)^^decide (N.fu k v=x))
 | 0,_,v,x=>by
   show N.bd 0 x=(decide (v=x)^^decide (v=x));rw[mZ];simp
 | k+1,hk,v,x=>by
   have ih:=uv k (by lia)
   rw[Ae];unfold Net.trail
   by_cases hf:N.l9 k=true
   ·rw[if_pos hf,if_pos hf]
    by_cases hm:N.fu k v=max (N.fu k (N.a k)) (N.fu k (N.b k))
    ·have e:join (N.fu k) (N.a k) (N.b k) v=min (N.fu k (N.a k)) (N.fu k (N.b k)):=by unfold join;rw[if_pos hm]
     show N.bd (if N.fu k v=_ then _ else _) x=_
     rw[if_pos hm,e,gR,gR,gR,l8 (by lia),ih,ih,ih]
     unfold Net.inc;refine IF _ false _ _ _ _ _ _ ?_;rw[hm];rcases Nat.le_total (N.fu k (N.a k)) (N.fu k (N.b k)) with q|q
     ·rw[Nat.max_eq_right q,Nat.min_eq_left q,Bool.xor_comm]
     ·rw[Nat.max_eq_left q,Nat.min_eq_right q]
    ·have e:join (N.fu k) (N.a k) (N.b k) v=N.fu k v:=by unfold join;rw[if_neg hm]
     show N.bd (if N.fu k v=_ then _ else _) x=_
     rw[if_neg hm,e,ih]
   ·rw[if_neg hf,if_neg hf];exact ih v x
def Net.ring(N:Net)(c:Nat):Nat:=N.trail N.n (N.a c)^^^N.trail N.n (N.b c)^^^2^c
theorem IG{c:Nat}(h:c<N.n):N.fu N.n (N.a c)=N.fu N.n (N.b c):=iz (S:=fun _=>true) h rfl
theorem m3{c:Nat}(h:c<N.n):N.fk (N.ring c):=fun x _=>by
 unfold Net.ring;rw[gR,gR,l8 h,uv _ (Nat.le_refl _),uv _ (Nat.le_refl _),IG h];unfold Net.inc;cases decide (N.a c=x)<;>cases decide (N.b c=x)<;>cases decide (N.fu N.n (N.b c)=x)<;>rfl
theorem mh{c j:Nat}(h:(N.ring c).testBit j=true):j=c\/(j<N.n/\N.l9 j=true):=by
 unfold Net.ring at h;rw[Nat.testBit_xor,Nat.testBit_xor,Nat.testBit_two_pow]at h
 by_cases e:c=j
 ·exact .inl e.symm
 ·right
  cases h1:(N.trail N.n (N.a c)).testBit j with
  | true=>exact ki _ _ _ h1
  | false=>cases h2:(N.trail N.n (N.b c)).testBit j with
    | true=>exact ki _ _ _ h2
    | false=>simp[h1,h2,e]at h
theorem uw{c:Nat}(hf:N.l9 c=false):(N.ring c).testBit c=true:=by
 unfold Net.ring;rw[Nat.testBit_xor,Nat.testBit_xor,Nat.testBit_two_pow];cases h1:(N.trail N.n (N.a c)).testBit c with
 | true=>obtain⟨_,q⟩:=ki _ _ _ h1;rw[hf]at q;cases q
 | false=>cases h2:(N.trail N.n (N.b c)).testBit c with
   | true=>obtain⟨_,q⟩:=ki _ _ _ h2;rw[hf]at q;cases q
   | false=>simp
theorem FA{j:Nat}(h:j<N.n)(hf:N.l9 j=true):(N.trail N.n (N.a j)).testBit j=true\/(N.trail N.n (N.b j)).testBit j=true:=by
 have z:N.ring j=0:=gv (fun k hk=>by
  rcases mh hk with rfl|q
  ·exact⟨h,hf⟩
  ·exact q) (m3 h)
 have b:(N.ring j).testBit j=false:=by rw[z];simp
 unfold Net.ring at b;rw[Nat.testBit_xor,Nat.testBit_xor,Nat.testBit_two_pow]at b;cases h1:(N.trail N.n (N.a j)).testBit j with
 | true=>exact .inl rfl
 | false=>cases h2:(N.trail N.n (N.b j)).testBit j with
   | true=>exact .inr rfl
   | false=>simp[h1,h2]at b
def cnt(f:Nat->Bool):Nat->Nat
 | 0=>0
 | n+1=>cnt f n+(if f n=true then 1 else 0)
theorem fX{f g:Nat->Bool}:∀{n:Nat},(∀ k,k<n->f k=g k)->cnt f n=cnt g n
 | 0,_=>rfl
 | n+1,h=>by
   unfold cnt;rw[fX fun k hk=>h k (by lia),h n (by lia)]
theorem ux{f g:Nat->Bool}{h:Nat}(hg:g h=true):∀{p:Nat},h<p->(∀ x,x<p->f x=(g x && !decide (x=h)))->cnt g p=cnt f p+1
 | 0,hh,_=>absurd hh (Nat.not_lt_zero _)
 | p+1,hh,e=>by
   unfold cnt
   by_cases q:h=p
   ·subst q;have z:cnt g h=cnt f h:=fX fun k hk=>by rw[e k (by lia)];simp[show k≠h by lia]
    rw[z,if_pos hg,e h (by lia)]
    simp
   ·rw[ux hg (by lia) fun x hx=>e x (by lia),e p (by lia)]
    simp[Ne.symm q]
    lia
theorem i0(f:Nat->Bool):∀ n,((List.range n).filter f).length=cnt f n
 | 0=>rfl
 | n+1=>by
   rw[List.range_succ,List.filter_append,List.length_append,i0 f n];show _=cnt f n+(if f n=true then 1 else 0)
   cases h:f n with
   | true=>rw[List.filter_cons,if_pos h];rfl
   | false=>rw[List.filter_cons,if_neg (by rw[h];simp)];rfl
theorem kL(f:Nat->Bool):∀ n,cnt f n+cnt (fun k=>!f k) n=n
 | 0=>rfl
 | n+1=>by
   have ih:=kL f n;unfold cnt;cases h:f n<;>simp<;>lia
theorem yv{f:Nat->Bool}:∀{n:Nat},(∀ k,k<n->f k=true)->cnt f n=n
 | 0,_=>rfl
 | n+1,h=>by
   unfold cnt;rw[yv fun k hk=>h k (by lia),if_pos (h n (by lia))]
variable {N:Net}{S:Nat->Bool}
def Net.root(N:Net)(S:Nat->Bool)(k x:Nat):Bool:=decide (N.aM S k x=x)
theorem fY(k:Nat):N.aM S (k+1)=if S k=true then join (N.aM S k) (N.a k) (N.b k) else N.aM S k:=by
 conv=>lhs;unfold Net.aM
theorem jB{k x:Nat}(h:x<N.p):N.aM S k x<N.p:=Nat.lt_of_le_of_lt (pD k x) h
theorem FD{L:Nat->Nat}{u v:Nat}(hr:∀ x,L (L x)=L x)(hne:L u≠L v)(x:Nat):decide (join L u v x=x)=(decide (L x=x) && !decide (x=max (L u) (L v))):=by
 have hhi:L (max (L u) (L v))=max (L u) (L v):=by
  rcases Nat.le_total (L u) (L v) with q|q
  ·rw[Nat.max_eq_right q];exact hr v
  ·rw[Nat.max_eq_left q];exact hr u
 have hlo:L (min (L u) (L v))=min (L u) (L v):=by
  rcases Nat.le_total (L u) (L v) with q|q
  ·rw[Nat.min_eq_left q];exact hr u
  ·rw[Nat.min_eq_right q];exact hr v
 unfold join
 by_cases h:L x=max (L u) (L v)
 ·rw[if_pos h];have h1 : ¬ min (L u) (L v)=x:=fun z=>by
   rw[<-z,hlo]at h
   lia
  by_cases h2:x=max (L u) (L v)
  ·simp[h1,h2]
   lia
  ·have h3 : ¬ L x=x:=fun z=>h2 (z.symm.trans h)
   simp[h1,h3]
 ·rw[if_neg h];have h2 : ¬ x=max (L u) (L v):=fun z=>h (by rw[z];exact hhi)
  simp[h2]
theorem uy{k:Nat}(hk:k<N.n):cnt (N.root S k) N.p=cnt (N.root S (k+1)) N.p+(if(S k && !decide (N.aM S k (N.a k)=N.aM S k (N.b k)))=true then 1 else 0):=by
 cases hs:S k with
 | false =>
   have e:N.root S (k+1)=N.root S k:=by unfold Net.root;rw[fY,if_neg (by rw[hs];simp)]
   rw[e];simp
 | true =>
   by_cases h:N.aM S k (N.a k)=N.aM S k (N.b k)
   ·have e:N.root S (k+1)=N.root S k:=by unfold Net.root;rw[fY,if_pos hs,xu h]
    rw[e];simp[h]
   ·have hhi:N.aM S k (max (N.aM S k (N.a k)) (N.aM S k (N.b k)))=max (N.aM S k (N.a k)) (N.aM S k (N.b k)):=by
     rcases Nat.le_total (N.aM S k (N.a k)) (N.aM S k (N.b k)) with q|q
     ·rw[Nat.max_eq_right q];exact b9 _ _
     ·rw[Nat.max_eq_left q];exact b9 _ _
    have h1:=jB (S:=S) (k:=k) (N.al k hk);have h2:=jB (S:=S) (k:=k) (N.bl k hk);rw[ux (f:=N.root S (k+1)) (g:=N.root S k) (h:=max (N.aM S k (N.a k)) (N.aM S k (N.b k))) (decide_eq_true hhi) (by lia) fun x _=>by
     unfold Net.root;rw[fY,if_pos hs];exact FD (b9 k) h x]
    simp[h]
theorem pF:∀ k,k<=N.n->cnt (N.root (fun _=>true) k) N.p+cnt N.l9 k=N.p
 | 0,_=>by
   show cnt (N.root (fun _=>true) 0) N.p+0=N.p
   rw[yv (f:=N.root (fun _=>true) 0) fun x _=>decide_eq_true rfl]
   rfl
 | k+1,hk=>by
   have ih:=pF k (by lia)
   have st:=uy (N:=N) (S:=fun _=>true) (k:=k) (by lia)
   have e:((fun _=>true:Nat->Bool) k && !decide (N.aM (fun _=>true) k (N.a k)=N.aM (fun _=>true) k (N.b k)))=N.l9 k:=by rw[Bool.true_and];rfl
   rw[e]at st;show cnt (N.root (fun _=>true) (k+1)) N.p+(cnt N.l9 k+if N.l9 k=true then 1 else 0)=N.p
   lia
theorem Af:(N.n:Int)-N.p+cnt (N.root (fun _=>true) N.n) N.p=(cnt (fun k=>!N.l9 k) N.n:Nat):=by
 have h:=pF (N:=N) N.n (Nat.le_refl _);have h2:=kL N.l9 N.n
 lia
def Net.aU(N:Net):List Nat:=(List.range N.n).filter fun k=>!N.l9 k
theorem dF{c:Nat}:c∈N.aU↔c<N.n/\N.l9 c=false:=by
 unfold Net.aU;rw[List.mem_filter,List.mem_range];simp
theorem Cn:N.aU.length=cnt (fun k=>!N.l9 k) N.n:=i0 _ _
theorem cM{m n:Nat}(h:∀ k,m.testBit k=true->k<n):m<2^n:=Nat.lt_pow_two_of_testBit m fun k hk=>by
 cases q:m.testBit k with
 | false=>rfl
 | true=>exact absurd (h k q) (by lia)
theorem cD{m n k:Nat}(h:m<2^n)(hb:m.testBit k=true):k<n:=by
 by_cases q:k<n
 ·exact q
 ·have z:=Nat.testBit_lt_two_pow (Nat.lt_of_lt_of_le h (Nat.pow_le_pow_right (by decide) (show n<=k by lia)))
  rw[hb]at z;cases z
theorem II{m q:Nat}(hm:m<2^N.n)(hq:q<2^N.n)(em:N.fk m)(eq:N.fk q)(h:∀ c,c<N.n->N.l9 c=false->m.testBit c=q.testBit c):m=q:=by
 have z:m^^^q=0:=gv (N:=N) (fun k hk=>by
  have hk':=cD (Nat.xor_lt_two_pow hm hq) hk;refine⟨hk',?_⟩;cases hf:N.l9 k with
  | true=>rfl
  | false =>
    rw[Nat.testBit_xor,h k hk' hf]at hk;simp at hk) (fk.xor em eq)
 have e:m=m^^^q^^^q:=by rw[Nat.xor_assoc,Nat.xor_self,Nat.xor_zero]
 rw[e,z,Nat.zero_xor]
theorem tD{c:Nat}(h:c<N.n):N.ring c<2^N.n:=cM fun k hk=>by
 rcases mh hk with rfl|⟨q,_⟩
 ·exact h
 ·exact q
theorem nZ{c d:Nat}(hc:N.l9 c=false)(hd:N.l9 d=false):(N.ring c).testBit d=decide (c=d):=by
 by_cases e:c=d
 ·subst e;rw[uw hc];simp
 ·cases q:(N.ring c).testBit d with
  | false=>simp[e]
  | true=>rcases mh q with rfl | ⟨_,r⟩
          ·exact absurd rfl e
          ·rw[hd]at r;cases r
end RM
namespace Ring
open PySem L2
def maskOf(f:Nat->Bool):Nat->Nat
 | 0=>0
 | n+1=>(if f n=true then 2^n else 0)+maskOf f n
theorem mask_lt(f:Nat->Bool):∀ n,maskOf f n<2^n
 | 0=>by show 0<1;decide
 | n+1=>by
   have ih:=mask_lt f n;have e:2^(n+1)=2^n+2^n:=by rw[Nat.pow_succ];lia
   unfold maskOf
   split<;>lia
theorem mask_bit(f:Nat->Bool)(j:Nat):∀ n,(maskOf f n).testBit j=(decide (j<n)&&f j)
 | 0=>by simp[maskOf]
 | n+1=>by
   have ih:=mask_bit f j n;have hl:=mask_lt f n;unfold maskOf
   by_cases h:f n=true
   ·rw[if_pos h];rcases Nat.lt_trichotomy j n with q|q|q
    ·rw[Nat.testBit_two_pow_add_gt q,ih];simp[q,show j<n+1 by lia]
    ·subst q;rw[Nat.testBit_two_pow_add_eq,ih];simp[h]
    ·have z:2^n+maskOf f n<2^j:=Nat.lt_of_lt_of_le (show 2^n+maskOf f n<2^(n+1) by rw[Nat.pow_succ];lia) (Nat.pow_le_pow_right (by decide) q)
     rw[Nat.testBit_lt_two_pow z];simp[show ¬ j<n+1 by lia]
   ·rw[if_neg h,Nat.zero_add,ih]
    by_cases q:j=n
    ·subst q;have h' : f j=false:=by simpa using h
     simp[h']
    ·by_cases r:j<n
     ·simp[r,show j<n+1 by lia]
     ·simp[r,show ¬ j<n+1 by lia]
theorem IJ(n:Nat):maskOf (fun _=>true) n=2^n-1:=by
 induction n with
 | zero=>rfl
 | succ n ih =>
   unfold maskOf;rw[ih,if_pos rfl,Nat.pow_succ];have:=Nat.two_pow_pos n
   lia
theorem Ep(n j:Nat):(2^n-1).testBit j=decide (j<n):=by
 rw[<-IJ,mask_bit];simp
theorem Ou{a b x y:Nat}(q:x/2+y/2=a/2+b/2)(h:x%2+y%2=a%2+b%2):x+y=a+b:=by lia
theorem Ov{u v:Nat}(hu:u=0\/u=1)(hv:v=0\/v=1):(u ||| v)+(u&&&v)=u+v:=by
 rcases hu with rfl|rfl<;>rcases hv with rfl|rfl<;>rfl
theorem Ow:∀ a b:Nat,(a ||| b)+(a&&&b)=a+b:=by
 intro a
 induction a using Nat.strongRecOn with
 | ind a ih =>
   intro b
   by_cases h:a=0
   ·subst h;simp
   ·have q:=ih (a/2) (by lia) (b/2)
    rw[<-Nat.or_div_two,<-Nat.and_div_two]at q;refine Ou q ?_;have e1:(a ||| b)%2=a%2 ||| b%2:=Nat.or_mod_two_pow (n:=1)
    have e2:(a&&&b)%2=a%2&&&b%2:=Nat.and_mod_two_pow (n:=1);rw[e1,e2];exact Ov (Nat.mod_two_eq_zero_or_one a) (Nat.mod_two_eq_zero_or_one b)
theorem or_int(a b:Nat):Builtin.bitOr (a:Int) (b:Int)=((a ||| b:Nat):Int):=by
 have q:=Ow a b;rw[PyProof.Rows.bitOr_and,PyProof.Rows.bitAnd_pp (by lia) (by lia)]
 have h:(a:Int)+b-((a&&&b:Nat):Int)=((a ||| b:Nat):Int):=by lia
 simpa using h
theorem kM(k:Nat):(1:Int)*2^(k:Int).toNat=((2^k:Nat):Int):=by
 rw[Int.toNat_natCast,Int.one_mul];simp
theorem eU{ts:List dJ}{k:Nat}(h:k<ts.length):bL ts k∈ts:=by
 unfold bL;rw[List.getD_eq_getElem?_getD];simp[h]
theorem qw{ts:List dJ}{k:Nat}(h:k<ts.length):ts[k]?=some (bL ts k):=by
 unfold bL;rw[List.getD_eq_getElem?_getD];simp[h]
def aE.N{p:Nat}{ts:List dJ}(g:aE p ts):RM.Net where
 p:=p
 n:=ts.length
 a:=fun k=>(bL ts k).1.toNat
 b:=fun k=>(bL ts k).2.1.toNat
 al:=fun k hk=>by
  have z:=g.vW _ (eU hk);have z0:=z.a0;have z1:=z.a1
  lia
 bl:=fun k hk=>by
  have z:=g.vW _ (eU hk);have z0:=z.b0;have z1:=z.b1
  lia
 ne:=fun k hk e=>by
  have z:=g.vW _ (eU hk);have z0:=z.a0;have z1:=z.b0;exact z.ne (by lia)
theorem Er{p:Nat}{ts:List dJ}{g:aE p ts}{k:Nat}(h:k<ts.length):(bL ts k).1=((g.N.a k:Nat):Int):=by
 have z:=(g.vW _ (eU h)).a0;show _=(((bL ts k).1.toNat:Nat):Int)
 lia
theorem Es{p:Nat}{ts:List dJ}{g:aE p ts}{k:Nat}(h:k<ts.length):(bL ts k).2.1=((g.N.b k:Nat):Int):=by
 have z:=(g.vW _ (eU h)).b0;show _=(((bL ts k).2.1.toNat:Nat):Int)
 lia
theorem L1{p:Nat}{ts:List dJ}{g:aE p ts}{k:Nat}(h:k<ts.length)(x:Nat):Le ts k x%2=if g.N.inc k x=true then 1 else 0:=by
 unfold Le RM.Net.inc;rw[qw h];dsimp only;rw[Er (g:=g) h,Es (g:=g) h];generalize g.N.a k=u;generalize g.N.b k=v
 by_cases h1:u=x
 ·by_cases h2:v=x
  ·simp[h1,h2]
  ·have Oo : ¬((v:Int)=(x:Int)):=by lia
   simp[h1,h2,Oo]
 ·have Iq : ¬((u:Int)=(x:Int)):=by lia
  by_cases h2:v=x
  ·simp[h1,h2,Iq]
  ·have Oo : ¬((v:Int)=(x:Int)):=by lia
   simp[h1,h2,Iq,Oo]
theorem IK{p:Nat}{ts:List dJ}{g:aE p ts}(m x:Nat):∀ n,n<=ts.length->((List.range n).map fun k=>if m.testBit k=true then Le ts k x else 0).sum%2=if RM.bz (fun k=>m.testBit k&&g.N.inc k x) n=true then 1 else 0
 | 0,_=>rfl
 | n+1,h=>by
   have ih:=IK (g:=g) m x n (by lia)
   have hd:=L1 (g:=g) (k:=n) (by lia) x
   rw[List.range_succ,List.map_append,List.sum_append];show(_+((if m.testBit n=true then Le ts n x else 0)+0))%2=if(RM.bz _ n^^(m.testBit n&&g.N.inc n x))=true then 1 else 0
   generalize ((List.range n).map fun k=>if m.testBit k=true then Le ts k x else 0).sum=u at ih ⊢
   generalize RM.bz (fun k=>m.testBit k&&g.N.inc k x) n=v at ih ⊢
   generalize g.N.inc n x=i at hd ⊢;generalize Le ts n x=d at hd ⊢;cases m.testBit n<;>cases v<;>cases i<;>simp at ih hd ⊢ <;> lia
theorem Et{p:Nat}{ts:List dJ}(g:aE p ts){m:Nat}(hm:m<2^ts.length){x:Nat}:decide ((jO p ts (m:Int)).getD x 0%2=1)=g.N.bd m x:=by
 rw[IA g.Hv.WT,jj hm,sum_filter];have h:=IK (g:=g) m x ts.length (Nat.le_refl _);rw[h];show _=RM.bz _ ts.length;generalize RM.bz (fun k=>m.testBit k&&g.N.inc k x) ts.length=v
 cases v<;>simp
theorem Ag{p:Nat}{ts:List dJ}(g:aE p ts){m:Nat}(hm:m<2^ts.length):uh p ts (m:Int)=[]↔g.N.fk m:=by
 unfold uh;rw[List.filter_eq_nil_iff]
 constructor
 ·intro h x hx;have q:=h x (List.mem_range.mpr hx);rw[Et g hm]at q
  simpa using q
 ·intro h x hx;rw[Et g hm,h x (List.mem_range.mp hx)];simp
def cE(f:Nat->Nat)(n:Nat):List V:=(List.range n).map fun x=>V.int ((f x:Nat):Int)
theorem ck(f:Nat->Nat)(n:Nat):(cE f n).length=n:=by unfold cE;rw[List.length_map,List.length_range]
theorem bS{f:Nat->Nat}{n x:Nat}(h:x<n):(cE f n)[x]?=some (.int ((f x:Nat):Int)):=by
 unfold cE;rw[List.getElem?_map,List.getElem?_range h];rfl
theorem kN{f:Nat->Nat}{n x:Nat}{v:V}(h:(cE f n)[x]?=some v):x<n/\v = .int ((f x:Nat):Int):=by
 have hx:x<n:=by
  have:=(List.getElem?_eq_some_iff.mp h).1
  rwa [ck]at this
 rw[bS hx]at h;exact⟨hx,(Option.some.inj h).symm⟩
theorem xx(f:Nat->Nat)(n:Nat):cE f (n+1)=cE f n++[.int ((f n:Nat):Int)]:=by
 unfold cE;rw[List.range_succ,List.map_append];rfl
theorem uz{f g:Nat->Nat}{n:Nat}(h:∀ x,x<n->f x=g x):cE f n=cE g n:=by
 unfold cE;refine List.map_congr_left fun x hx=>?_
 rw[h x (List.mem_range.mp hx)]
theorem Ah(p:Nat):(List.replicate p [V.int 0]).flatten=cE (fun _=>0) p:=by
 induction p with
 | zero=>rfl
 | succ p ih =>
   rw[xx,<-ih,List.replicate_succ',List.flatten_append];rfl
def uA(f:Nat->Nat)(H:Hp)(D:Addr)(i:Nat)(acc:List V)(H2:Hp):Prop:=av H H2/\H2 D=some (.lst acc)/\acc=cE f i
section
variable {f:Nat->Nat}{H H2 H3:Hp}{D:Addr}{i:Nat}{acc:List V}{v:V}
theorem uA.start(hD:H D=none):uA f H D 0 [] (upd H D (.lst [])):=⟨av.new hD,ae,rfl⟩
theorem uA.len(p:uA f H D i acc H2):H2 D=some (.lst acc)/\acc.length<=i:=⟨p.2.1,by rw[p.2.2,ck];exact Nat.le_refl _⟩
theorem uA.next(p:uA f H D i acc H2)(hD:H D=none)(s:av H2 H3)(hv:v = .int ((f i:Nat):Int)):H3 D=some (.lst acc)/\uA f H D (i+1) (acc++[v]) (upd H3 D (.lst (acc++[v]))):=by
 refine⟨s _ _ p.2.1,(p.1.trans s).put hD,ae,?_⟩;rw[xx,<-p.2.2,hv]
end
theorem xy{N:RM.Net}{m:Nat}:∀ n,((List.range n).filter fun k=>m.testBit k).foldl (fun L k=>RM.join L (N.a k) (N.b k)) (fun x=>x)=N.aM (fun k=>m.testBit k) n
 | 0=>rfl
 | n+1=>by
   rw[bG,List.foldl_append,xy n,RM.fY]
   split<;>rfl
end Ring
namespace RM
theorem uB{N:Net}{S S' : Nat->Bool}:∀{n:Nat},(∀ k,k<n->S k=S' k)->N.aM S n=N.aM S' n
 | 0,_=>rfl
 | n+1,h=>by rw[fY,fY,uB fun k hk=>h k (by lia),h n (by lia)]
end RM
namespace Ring
open PySem L2
def pieceOf(L:Nat->Nat)(p s:Nat):List Nat:=(List.range p).filter fun x=>decide (L x=s)
def dZ(L:Nat->Nat)(p:Nat):List Nat:=(List.range p).filter fun x=>decide (L x=x)
def Nc(D:Addr)(H0 H:Hp)(y:V)(l:List Nat):Prop:=∃ b,y = .ref b/\b≠D/\H0 b=none/\H b=some (.lst (aA l))
def uC(L:Nat->Nat)(p:Nat)(H:Hp)(D:Addr)(i:Nat)(H2:Hp):Prop:=av H H2/\∃ ys,H2 D=some (.lst ys)/\Paired (Nc D H H2) ys ((dZ L i).map (pieceOf L p))/\ys.length<=i
section
variable {L:Nat->Nat}{p i:Nat}{H H2 H3:Hp}{D b:Addr}
theorem uC.start(hD:H D=none):uC L p H D 0 (upd H D (.lst [])):=⟨av.new hD,[],ae,.nil,Nat.le_refl _⟩
theorem uD:dZ L (i+1)=dZ L i++(if L i=i then[i] else[]):=by
 unfold dZ;rw[bG]
 by_cases h:L i=i<;>simp[h]
theorem uC.skip(h:uC L p H D i H2)(hn : ¬ L i=i):uC L p H D (i+1) H2:=by
 obtain⟨s,ys,hd,pr,hl⟩:=h;refine⟨s,ys,hd,?_,by lia⟩
 rw[uD,if_neg hn,List.append_nil];exact pr
theorem uC.push(h:uC L p H D i H2)(hD:H D=none)(hr:L i=i)(s:av H2 H3)(hb:H2 b=none)(Tw:H3 b=some (.lst (aA (pieceOf L p i)))):
 ∃ ys,H3 D=some (.lst ys)/\ys.length<=i/\uC L p H D (i+1) (upd H3 D (.lst (ys++[.ref b]))):=by
 obtain⟨s2,ys,hd,pr,hl⟩:=h;have Nb:=s _ _ hd;have WV:b≠D:=fun e=>by rw[e,hd]at hb;cases hb
 refine⟨ys,Nb,hl,(s2.trans s).put hD,ys++[.ref b],ae,?_,by rw[List.length_append,List.length_singleton];lia⟩
 rw[uD,if_pos hr,List.map_append];refine Paired.snoc (Paired.imp' (fun _ _ ⟨e,he,hn,h0,q⟩=>⟨e,he,hn,h0,by rw[aq hn];exact s _ _ q⟩) pr) ?_
 exact⟨b,rfl,WV,s2.free hb,by rw[aq WV];exact Tw⟩
end
def se(p:Nat)(ts:List dJ)(g:aE p ts)(ks:List Nat):Nat->Nat:=ks.foldl (fun L k=>RM.join L (g.N.a k) (g.N.b k)) fun x=>x
theorem Co{p:Nat}{ts:List dJ}{g:aE p ts}{ks:List Nat}{k:Nat}:se p ts g (ks++[k])=RM.join (se p ts g ks) (g.N.a k) (g.N.b k):=by
 unfold se;rw[List.foldl_append];rfl
def bT(p:Nat)(ts:List dJ)(g:aE p ts)(m:Nat):Nat->Nat:=g.N.aM (fun k=>m.testBit k) ts.length
theorem Cp{p:Nat}{ts:List dJ}{g:aE p ts}{m:Nat}(hm:m<2^ts.length):se p ts g (bE (m:Int))=bT p ts g m:=by
 unfold se bT;rw[jj hm];exact xy _
theorem L3{p:Nat}{ts:List dJ}{g:aE p ts}:bT p ts g (2^ts.length-1)=g.N.fu ts.length:=by
 unfold bT RM.Net.fu;exact RM.uB fun k hk=>by rw[Ep];simp[hk]
theorem Eu{p:Nat}{ts:List dJ}{g:aE p ts}:(ts.length:Int)-(p:Int)+(dZ (bT p ts g (2^ts.length-1)) p).length=(g.N.aU.length:Int):=by
 have h:=RM.Af (N:=g.N);rw[RM.Cn];unfold dZ;rw[RM.i0,L3];exact h
theorem Ew(a b:Nat):(if(b:Int)<(a:Int) then(b:Int) else(a:Int))=((min a b:Nat):Int):=by
 split<;>lia
theorem Ex(a b:Nat):(if(b:Int) > (a:Int) then(b:Int) else(a:Int))=((max a b:Nat):Int):=by
 split<;>lia
theorem jC(a b:Nat):decide (V.int (a:Int)=V.int (b:Int))=decide (a=b):=by
 rw[Bool.eq_iff_iff];simp
 lia
end Ring
namespace RM
variable {N:Net}{S:Nat->Bool}
variable {pt r j:Nat}{l:List Nat}
theorem IL{l:List Nat}:∀{p:Nat},l.Nodup->(∀ x∈l,x<p)->l.length<=p:=by
 intro p hn hl;have hp:l.Perm ((List.range p).filter fun x=>decide (x∈l)):=by
  refine(List.perm_ext_iff_of_nodup hn (List.Pairwise.filter _ List.nodup_range)).mpr fun a=>?_
  rw[List.mem_filter,List.mem_range];simp;exact fun h=>hl a h
 rw[hp.length_eq];have:=List.length_filter_le (fun x=>decide (x∈l)) (List.range p)
 rwa [List.length_range]at this
end RM
namespace Ring
open PySem L2
theorem Cq{p:Nat}{f:Nat->Bool}:((List.range p).filter f).Pairwise (· < ·):=List.Pairwise.filter _ List.pairwise_lt_range
theorem jm(l:List Nat):aA l=(l.map fun x=>((x:Nat):Int)).map V.int:=by unfold aA;rw[List.map_map];rfl
theorem pG(u:Nat)(l:List Nat):M5 (.int (u:Int)) (aA l)=decide (u∈l):=by
 unfold M5 aA;rw[List.any_map,Bool.eq_iff_iff,List.any_eq_true];simp only[Function.comp,decide_eq_true_eq]
 constructor
 ·rintro⟨x,hx,h⟩;have e:((x:Nat):Int)=(u:Int):=eq_of_beq h;have:x=u:=by lia
  exact this▸hx
 ·intro h;exact⟨u,h,by simp[LJ]⟩
theorem qx(l:List Nat):(aA l).all o6=true:=by
 unfold aA;rw[List.all_map,List.all_eq_true];intro x _;rfl
theorem and_int(a b:Nat):Builtin.bitAnd (a:Int) (b:Int)=((a&&&b:Nat):Int):=by
 rw[PyProof.Rows.bitAnd_pp (by lia) (by lia)]
 simp
end Ring
namespace RM
variable {N:Net}
theorem IM{L:Nat->Nat}{u v x y:Nat}:join L u v x=join L u v y↔(L x=L y\/(L x=L u/\L y=L v)\/(L x=L v/\L y=L u)):=by
 constructor
 ·exact ur
 ·have e:=xr L u v;rintro(h|⟨h1,h2⟩|⟨h1,h2⟩)
  ·exact join_eq h
  ·rw[join_eq h1,join_eq h2,e]
  ·rw[join_eq h1,join_eq h2,e]
def Ox(L:Nat->Nat)(u v:Nat):Nat->Nat:=fun x=>if L x=L v then L u else L x
theorem L4{L:Nat->Nat}{u v x y:Nat}:Ox L u v x=Ox L u v y↔(L x=L y\/(L x=L u/\L y=L v)\/(L x=L v/\L y=L u)):=by
 unfold Ox
 split<;>split<;>lia
end RM
namespace Ring
open PySem L2
def Qd(T:Nat->Nat):Nat->Nat
 | 0=>0
 | n+1=>Qd T n ||| T n
theorem Ey(T:Nat->Nat)(j:Nat):∀ n,(Qd T n).testBit j=true↔∃ x,x<n/\(T x).testBit j=true
 | 0=>by simp[Qd]
 | n+1=>by
   unfold Qd;rw[Nat.testBit_or,Bool.or_eq_true,Ey T j n]
   constructor
   ·rintro(⟨x,hx,h⟩|h)
    ·exact⟨x,by lia,h⟩
    ·exact⟨n,by lia,h⟩
   ·rintro⟨x,hx,h⟩
    by_cases e:x=n
    ·subst e;exact .inr h
    ·exact .inl ⟨x,by lia,h⟩
section
variable {p:Nat}{ts:List dJ}{g:aE p ts}
def jD(p:Nat)(ts:List dJ)(g:aE p ts):Nat:=maskOf g.N.l9 ts.length
theorem Cr:Qd (g.N.trail ts.length) p=jD p ts g:=by
 refine Nat.eq_of_testBit_eq fun j=>?_
 unfold jD;rw[mask_bit,Bool.eq_iff_iff,Ey];simp only[Bool.and_eq_true,decide_eq_true_eq]
 constructor
 ·rintro⟨x,_,h⟩;exact RM.ki _ _ _ h
 ·rintro⟨h1,h2⟩;rcases RM.FA (N:=g.N) h1 h2 with h|h
  ·exact⟨_,g.N.al j h1,h⟩
  ·exact⟨_,g.N.bl j h1,h⟩
theorem Cs(j:Nat):((2^ts.length-1)^^^jD p ts g).testBit j=(decide (j<ts.length) && !g.N.l9 j):=by
 unfold jD;rw[Nat.testBit_xor,Ep,mask_bit];cases decide (j<ts.length)<;>cases g.N.l9 j<;>rfl
theorem xA:(2^ts.length-1)^^^jD p ts g<2^ts.length:=Nat.xor_lt_two_pow (by have:=Nat.two_pow_pos ts.length;lia) (mask_lt _ _)
theorem Ai:bE (((2^ts.length-1)^^^jD p ts g:Nat):Int)=g.N.aU:=by
 rw[jj xA];unfold RM.Net.aU;refine List.filter_congr fun k hk=>?_
 have:=List.mem_range.mp hk;rw[Cs];simp[this]
end
theorem L5(n:Nat):((2:Int)^n-1)=((2^n-1:Nat):Int):=by
 have h:((2:Int)^n)=((2^n:Nat):Int):=by simp
 have:=Nat.two_pow_pos n
 lia
theorem Oz{S:Int}{l:List Nat}(h:∀ c∈l,S≠((c:Nat):Int)):M5 (.int S) (aA l)=false:=by
 unfold M5 aA;rw[List.any_map,List.any_eq_false];intro x hx z;exact h x hx (eq_of_beq z).symm
theorem nN{c:Nat}:∀{n:Nat},c<n->(List.range n).filter (fun k=>decide (k=c))=[c]
 | 0,h=>absurd h (Nat.not_lt_zero _)
 | n+1,h=>by
   rw[bG]
   by_cases e:c=n
   ·subst e;have z:(List.range c).filter (fun k=>decide (k=c))=[]:=by
     rw[List.filter_eq_nil_iff];intro x hx;have:=List.mem_range.mp hx;simp
     lia
    rw[z];simp
   ·rw[nN (by lia)]
    simp[Ne.symm e]
theorem yw{l:List Nat}{i:Nat}{k:Nat}(h:l[i]?=some k):(aA l)[i]?=some (.int (k:Int)):=by
 unfold aA;rw[List.getElem?_map,h];rfl
theorem Aj(l:List Nat):PyData.eqv (.list (l.map qv)) (.list (l.map qv))=true:=SeqAt.eqv_refl _ (by
 have e:(PyData.list (l.map qv)).canLay0=PyData.canLayAll0 (l.map qv):=by simp[PyData.canLay0]
 rw[e,uq])
def vX(f:Nat->Int)(l:List Nat)(H:Hp)(D:Addr)(i:Nat)(acc:List V)(H2:Hp):Prop:=av H H2/\H2 D=some (.lst acc)/\acc=((l.take i).map f).map V.int
section
variable {f:Nat->Int}{l:List Nat}{H H2 H3:Hp}{D:Addr}{i k:Nat}{acc:List V}{v:V}
theorem vX.start(hD:H D=none):vX f l H D 0 [] (upd H D (.lst [])):=⟨av.new hD,ae,rfl⟩
theorem vX.len(p:vX f l H D i acc H2):H2 D=some (.lst acc)/\acc.length<=i:=by
 refine⟨p.2.1,?_⟩;rw[p.2.2,List.length_map,List.length_map,List.length_take]
 lia
theorem vX.next(p:vX f l H D i acc H2)(hD:H D=none)(s:av H2 H3)(hk:l[i]?=some k)(hv:v = .int (f k)):H3 D=some (.lst acc)/\vX f l H D (i+1) (acc++[v]) (upd H3 D (.lst (acc++[v]))):=by
 refine⟨s _ _ p.2.1,(p.1.trans s).put hD,ae,?_⟩;rw[List.take_add_one,hk,List.map_append,List.map_append,<-p.2.2,hv];rfl
theorem vX.fin(p:vX f l H D l.length acc H2):H2 D=some (.lst ((l.map f).map V.int)):=by rw[p.2.1,p.2.2,List.take_length]
end
end Ring
namespace RM
theorem uE(f:Nat->Bool):∀ n,bz f n=decide (cnt f n%2=1)
 | 0=>rfl
 | n+1=>by
   unfold bz cnt;rw[uE f n]
   by_cases h:f n=true
   ·rw[h,if_pos rfl]
    by_cases q:cnt f n%2=1
    ·have q' : ¬(cnt f n+1)%2=1:=by lia
     simp[q,q']
    ·have q' : (cnt f n+1)%2=1:=by lia
     simp[q,q']
   ·have h' : f n=false:=by simpa using h
    rw[h',if_neg (by decide)]
    simp
end RM
namespace Ring
open PySem L2
def lenOf(ts:List dJ)(m:Nat):Int:=((bE (m:Int)).map fun k=>(bL ts k).2.2).sum
def FE(ts:List dJ)(f:Nat->Bool):Nat->Int
 | 0=>0
 | n+1=>FE ts f n+(if f n=true then(bL ts n).2.2 else 0)
theorem sj(ts:List dJ)(f:Nat->Bool):∀ n,(((List.range n).filter f).map fun k=>(bL ts k).2.2).sum=FE ts f n
 | 0=>rfl
 | n+1=>by
   rw[bG,List.map_append,List.sum_append,sj ts f n];show _=FE ts f n+(if f n=true then(bL ts n).2.2 else 0)
   split<;>simp
theorem FF{ts:List dJ}{m:Nat}(hm:m<2^ts.length):lenOf ts m=FE ts (fun k=>m.testBit k) ts.length:=by
 unfold lenOf;rw[jj hm];exact sj ts _ _
section
variable {p:Nat}{ts:List dJ}(g:aE p ts)
include g
end
end Ring
namespace L2
open PySem PySem.Spec PyProof.Rows
end L2
namespace Ring
open PySem L2
end Ring
namespace RM
def sm(f:Nat->Nat):Nat->Nat
 | 0=>0
 | n+1=>sm f n+f n
theorem fD{f g:Nat->Nat}:∀{n:Nat},(∀ k,k<n->f k=g k)->sm f n=sm g n
 | 0,_=>rfl
 | n+1,h=>by
   show sm f n+f n=sm g n+g n;rw[fD fun k hk=>h k (by lia),h n (by lia)]
theorem qy(f g:Nat->Nat):∀ n,sm (fun k=>f k+g k) n=sm f n+sm g n
 | 0=>rfl
 | n+1=>by
   show sm (fun k=>f k+g k) n+(f n+g n)=sm f n+f n+(sm g n+g n)
   rw[qy f g n]
   lia
theorem tE:∀ n,sm (fun _=>0) n=0
 | 0=>rfl
 | n+1=>by
   show sm (fun _=>0) n+0=0
   rw[tE n]
theorem Ez(f:Nat->Nat->Nat)(n:Nat):∀ p,sm (fun x=>sm (fun k=>f x k) n) p=sm (fun k=>sm (fun x=>f x k) p) n
 | 0=>(tE n).symm
 | p+1=>by
   show sm (fun x=>sm (fun k=>f x k) n) p+sm (fun k=>f p k) n=sm (fun k=>sm (fun x=>f x k) p+f p k) n
   rw[Ez f n p,qy]
theorem iG(f:Nat->Bool):∀ n,cnt f n=sm (fun k=>if f k=true then 1 else 0) n
 | 0=>rfl
 | n+1=>by
   show cnt f n+(if f n=true then 1 else 0)=sm (fun k=>if f k=true then 1 else 0) n+(if f n=true then 1 else 0)
   rw[iG f n]
theorem EA{f g:Nat->Nat}:∀{n:Nat},(∀ k,k<n->f k<=g k)->sm f n<=sm g n
 | 0,_=>Nat.le_refl _
 | n+1,h=>by
   have h1:=EA (f:=f) (g:=g) (n:=n) fun k hk=>h k (by lia)
   have h2:=h n (by lia)
   show sm f n+f n<=sm g n+g n
   lia
theorem IP{f g:Nat->Nat}{n:Nat}(h:∀ k,k<n->f k<=g k)(e:sm f n=sm g n):∀ k,k<n->f k=g k:=by
 induction n with
 | zero=>exact fun k hk=>absurd hk (Nat.not_lt_zero _)
 | succ n ih =>
   intro k hk;have h1:=EA (f:=f) (g:=g) (n:=n) fun k hk=>h k (by lia)
   have h2:=h n (by lia)
   have e:sm f n+f n=sm g n+g n:=e
   by_cases hkn:k=n
   ·subst hkn
    lia
   ·exact ih (fun j hj=>h j (by lia)) (by lia) k (by lia)
theorem Ct{f g:Nat->Bool}{n:Nat}(h:∀ k,k<n->f k=true->g k=true):cnt f n<=cnt g n:=by
 rw[iG,iG];refine EA fun k hk=>?_
 by_cases hf:f k=true
 ·rw[if_pos hf,if_pos (h k hk hf)];exact Nat.le_refl _
 ·rw[if_neg hf];exact Nat.zero_le _
theorem Ak{f g:Nat->Bool}{n:Nat}(h:∀ k,k<n->f k=true->g k=true)(e:cnt f n=cnt g n):∀ k,k<n->g k=true->f k=true:=fun k hk hg=>by
 rw[iG,iG]at e;have q:=IP (n:=n) (fun k hk=>by
  by_cases hf:f k=true
  ·rw[if_pos hf,if_pos (h k hk hf)];exact Nat.le_refl _
  ·rw[if_neg hf];exact Nat.zero_le _) e k hk
 rw[if_pos hg]at q
 by_cases hf:f k=true
 ·exact hf
 ·rw[if_neg hf]at q
  lia
theorem mj{f:Nat->Bool}:∀{n:Nat},0<cnt f n->∃ k,k<n/\f k=true
 | 0,h=>absurd h (Nat.lt_irrefl _)
 | n+1,h=>by
   by_cases hf:f n=true
   ·exact⟨n,by lia,hf⟩
   ·have h:0<cnt f n+(if f n=true then 1 else 0):=h
    rw[if_neg hf]at h;obtain⟨k,hk,q⟩:=mj (f:=f) (n:=n) (by lia)
    exact⟨k,by lia,q⟩
theorem m4{f:Nat->Bool}{k:Nat}(hf:f k=true):∀{n:Nat},k<n->0<cnt f n
 | 0,h=>absurd h (Nat.not_lt_zero _)
 | n+1,h=>by
   show 0<cnt f n+(if f n=true then 1 else 0)
   by_cases hk:k=n
   ·subst hk;rw[if_pos hf]
    lia
   ·have:=m4 hf (n:=n) (by lia)
    lia
theorem m5{f:Nat->Bool}:∀{n:Nat},2<=cnt f n->∃ c d,c<d/\d<n/\f c=true/\f d=true
 | 0,h=>absurd h (by show ¬ 2<=0;lia)
 | n+1,h=>by
   have h:2<=cnt f n+(if f n=true then 1 else 0):=h
   by_cases hf:f n=true
   ·rw[if_pos hf]at h;obtain⟨k,hk,q⟩:=mj (f:=f) (n:=n) (by lia)
    exact⟨k,n,hk,by lia,q,hf⟩
   ·rw[if_neg hf]at h;obtain⟨c,d,h1,h2,h3,h4⟩:=m5 (f:=f) (n:=n) (by lia)
    exact⟨c,d,h1,by lia,h3,h4⟩
theorem tF{f:Nat->Bool}{u v:Nat}(hu:f u=true)(hv:f v=true)(ne:u≠v):∀{n:Nat},u<n->v<n->2<=cnt f n
 | 0,h,_=>absurd h (Nat.not_lt_zero _)
 | n+1,h1,h2=>by
   show 2<=cnt f n+(if f n=true then 1 else 0)
   by_cases e1:u=n
   ·subst e1;have:=m4 hv (n:=u) (by lia)
    rw[if_pos hu]
    lia
   ·by_cases e2:v=n
    ·subst e2;have:=m4 hu (n:=v) (by lia)
     rw[if_pos hv]
     lia
    ·have:=tF hu hv ne (n:=n) (by lia) (by lia)
     lia
theorem uF(a:Nat):∀ n,cnt (fun x=>decide (a=x)) n=if a<n then 1 else 0
 | 0=>rfl
 | n+1=>by
   show cnt (fun x=>decide (a=x)) n+(if decide (a=n)=true then 1 else 0)=_
   rw[uF a n]
   by_cases e:a=n
   ·subst e;simp
   ·have d:(if decide (a=n)=true then 1 else 0)=0:=if_neg (by simpa using e)
    rw[d]
    by_cases h:a<n
    ·rw[if_pos h,if_pos (by lia)]
    ·rw[if_neg h,if_neg (by lia)]
theorem uG{f g:Nat->Bool}:∀{n:Nat},(∀ x,x<n->¬(f x=true/\g x=true))->cnt (fun x=>f x^^g x) n=cnt f n+cnt g n
 | 0,_=>rfl
 | n+1,h=>by
   show cnt (fun x=>f x^^g x) n+(if(f n^^g n)=true then 1 else 0)=cnt f n+(if f n=true then 1 else 0)+(cnt g n+(if g n=true then 1 else 0))
   rw[uG fun x hx=>h x (by lia)]
   have q:=h n (by lia)
   cases hf:f n<;>cases hg:g n
   ·simp
   ·simp
    lia
   ·simp
    lia
   ·exact absurd ⟨hf,hg⟩ q
variable {N:Net}
def Net.dg(N:Net)(m x:Nat):Nat:=cnt (fun k=>m.testBit k&&N.inc k x) N.n
theorem IQ(m x:Nat):N.bd m x=decide (N.dg m x%2=1):=uE _ _
theorem tG{m x:Nat}(e:N.fk m)(hx:x<N.p):N.dg m x%2=0:=by
 have h:=e x hx;rw[IQ]at h;have:=of_decide_eq_false h
 lia
theorem tH{k x:Nat}(hk:k<N.n):N.inc k x=true↔(N.a k=x\/N.b k=x):=by
 have ne:=N.ne k hk;unfold Net.inc
 by_cases h1:N.a k=x
 ·have h2 : ¬ N.b k=x:=fun z=>ne (h1.trans z.symm)
  simp[h1,h2]
 ·by_cases h2:N.b k=x
  ·simp[h1,h2]
  ·simp[h1,h2]
theorem L6{k:Nat}(hk:k<N.n):cnt (N.inc k) N.p=2:=by
 have ne:=N.ne k hk;have e:cnt (N.inc k) N.p=cnt (fun x=>decide (N.a k=x)^^decide (N.b k=x)) N.p:=rfl
 rw[e,uG fun x _ ⟨h1,h2⟩=>ne ((of_decide_eq_true h1).trans (of_decide_eq_true h2).symm),uF,uF,if_pos (N.al k hk),if_pos (N.bl k hk)]
theorem yx(m:Nat):sm (fun x=>N.dg m x) N.p=2*cnt (fun k=>m.testBit k) N.n:=by
 have e:sm (fun x=>N.dg m x) N.p=sm (fun x=>sm (fun k=>if(m.testBit k&&N.inc k x)=true then 1 else 0) N.n) N.p:=fD fun x _=>iG _ _
 rw[e,Ez,iG];have d:∀ n,2*sm (fun k=>if m.testBit k=true then 1 else 0) n=sm (fun k=>(if m.testBit k=true then 1 else 0)+(if m.testBit k=true then 1 else 0)) n:=fun n=>by
  rw[qy]
  lia
 rw[d];refine fD fun k hk=>?_
 by_cases h:m.testBit k=true
 ·rw[if_pos h];have q:=L6 hk;rw[iG]at q;show _=2;exact(fD fun x _=>by rw[h,Bool.true_and]).trans q
 ·rw[if_neg h];have h' : m.testBit k=false:=by simpa using h
  have:sm (fun x=>if(m.testBit k&&N.inc k x)=true then 1 else 0) N.p=sm (fun _=>0) N.p:=fD fun x _=>by rw[h'];rfl
  rw[this,tE]
theorem Ry{q m:Nat}(h:∀ k,q.testBit k=true->m.testBit k=true)(x:Nat):N.dg q x<=N.dg m x:=Ct fun k _ hq=>by
 rw[Bool.and_eq_true]at hq ⊢;exact⟨h k hq.1,hq.2⟩
theorem uH{m k x:Nat}(hk:k<N.n)(hb:m.testBit k=true)(hx:N.a k=x\/N.b k=x):0<N.dg m x:=m4 (k:=k) (by rw[hb,Bool.true_and];exact(tH hk).mpr hx) hk
theorem pH{m x:Nat}(h:0<N.dg m x):∃ k,k<N.n/\m.testBit k=true/\(N.a k=x\/N.b k=x):=by
 obtain⟨k,hk,q⟩:=mj h;rw[Bool.and_eq_true]at q;exact⟨k,hk,q.1,(tH hk).mp q.2⟩
theorem alone{m x y:Nat}(h:N.dg m x=0)(c:N.lQ (fun k=>m.testBit k) N.n x y):y=x:=by
 induction c with
 | refl=>rfl
 | fwd _ hj hs ih=>exact absurd (uH hj hs (.inl ih)) (by lia)
 | bwd _ hj hs ih=>exact absurd (uH hj hs (.inr ih)) (by lia)
theorem FG{S:Nat->Bool}{k u v:Nat}(hk:k<=N.n)(c:N.lQ S k u v):∃ t,(∀ j,t.testBit j=true->j<k/\S j=true)/\∀ x,N.bd t x=(decide (u=x)^^decide (v=x)):=by
 induction c with
 | refl=>exact⟨0,fun j hj=>by simp at hj,fun x=>by rw[mZ];simp⟩
 | fwd _ hj hs ih =>
   rename_i j _
   obtain⟨t,h1,h2⟩:=ih;refine⟨t^^^2^j,fun i hi=>?_,fun x=>?_⟩
   ·rw[Nat.testBit_xor,Nat.testBit_two_pow]at hi
    by_cases e:j=i
    ·subst e;exact⟨hj,hs⟩
    ·rw[decide_eq_false e,Bool.xor_false]at hi;exact h1 i hi
   ·rw[gR,h2,l8 (by lia)]
    unfold Net.inc;cases decide (u=x)<;>cases decide (N.a j=x)<;>cases decide (N.b j=x)<;>rfl
 | bwd _ hj hs ih =>
   rename_i j _
   obtain⟨t,h1,h2⟩:=ih;refine⟨t^^^2^j,fun i hi=>?_,fun x=>?_⟩
   ·rw[Nat.testBit_xor,Nat.testBit_two_pow]at hi
    by_cases e:j=i
    ·subst e;exact⟨hj,hs⟩
    ·rw[decide_eq_false e,Bool.xor_false]at hi;exact h1 i hi
   ·rw[gR,h2,l8 (by lia)]
    unfold Net.inc;cases decide (u=x)<;>cases decide (N.a j=x)<;>cases decide (N.b j=x)<;>rfl
def Net.Ring(N:Net)(m:Nat):Prop:=m≠0/\N.fk m/\∀ q,(∀ k,q.testBit k=true->m.testBit k=true)->N.fk q->q=0\/q=m
section
variable {m s:Nat}
theorem EB(hm:m<2^N.n)(ev:N.fk m)(C:Nat->Bool)(hC:∀ x,x<N.p->C x=decide (N.aM (fun k=>m.testBit k) N.n x=s))(h2:2<=cnt C N.p)
 (Vd:∀ k,k<N.n->m.testBit k=true->C (N.a k)=true) (hl:cnt C N.p=cnt (fun k=>m.testBit k) N.n):N.Ring m:=by
 have Nd:∀ k,k<N.n->m.testBit k=true->C (N.a k)=true/\C (N.b k)=true:=fun k hk hb=>by
  have h:=Vd k hk hb;refine⟨h,?_⟩;rw[hC _ (N.al k hk)]at h;rw[hC _ (N.bl k hk)];rw[iz (S:=fun k=>m.testBit k) hk hb]at h
  exact h
 have pos:∀ x,x<N.p->C x=true->0<N.dg m x:=fun x hx hc=>by
  cases hz:N.dg m x with
  | succ d=>lia
  | zero =>
    exfalso
    obtain⟨y,hy,Nf,hne⟩:∃ y,y<N.p/\C y=true/\y≠x:=by
     obtain⟨c,d,h1,h3,h4,h5⟩:=m5 h2
     by_cases e:c=x
     ·exact⟨d,h3,h5,by lia⟩
     ·exact⟨c,by lia,h4,e⟩
    rw[hC x hx]at hc;rw[hC y hy]at Nf;exact hne (alone hz (bQ _ _ _ ((of_decide_eq_true hc).trans (of_decide_eq_true Nf).symm)))
 have two:∀ x,x<N.p->(if C x=true then 2 else 0)=N.dg m x:=by
  refine IP (fun x hx=>?_) ?_
  ·by_cases hc:C x=true
   ·rw[if_pos hc];have h1:=pos x hx hc;have h3:=tG ev hx
    lia
   ·rw[if_neg hc];exact Nat.zero_le _
  ·rw[yx,<-hl,iG];have d:∀ n,2*sm (fun k=>if C k=true then 1 else 0) n=sm (fun k=>(if C k=true then 1 else 0)+(if C k=true then 1 else 0)) n:=fun n=>by
    rw[qy]
    lia
   rw[d];exact fD fun x _=>by split<;>rfl
 obtain⟨c0,hc0,hcc⟩:=mj (f:=C) (n:=N.p) (by lia)
 refine⟨fun z=>?_,ev,fun q hq eq=>?_⟩
 ·have h:=pos c0 hc0 hcc;obtain⟨k,_,hb,_⟩:=pH h;rw[z]at hb;simp at hb
 ·by_cases Cu:q=0
  ·exact .inl Cu
  ·right
   have full:∀ x,x<N.p->0<N.dg q x->∀ k,k<N.n->m.testBit k=true->(N.a k=x\/N.b k=x)->q.testBit k=true:=fun x hx h k hk hb Lf=>by
    have h1:=Ry (N:=N) hq x;have h3:=tG eq hx;have h4:=two x hx;have h5:N.dg q x=N.dg m x:=by
     by_cases hc:C x=true
     ·rw[if_pos hc]at h4
      lia
     ·rw[if_neg hc]at h4
      lia
    have h6:=Ak (f:=fun k=>q.testBit k&&N.inc k x) (g:=fun k=>m.testBit k&&N.inc k x) (n:=N.n) (fun k _ z=>by
     rw[Bool.and_eq_true]at z ⊢;exact⟨hq k z.1,z.2⟩) h5 k hk (by rw[hb,Bool.true_and];exact(tH hk).mpr Lf)
    rw[Bool.and_eq_true]at h6;exact h6.1
   obtain⟨k0,hb0⟩:∃ k,q.testBit k=true:=Nat.exists_testBit_of_ne_zero Cu;have hk0:k0<N.n:=cD hm (hq k0 hb0);have spread:∀{y},N.lQ (fun k=>m.testBit k) N.n (N.a k0) y->0<N.dg q y:=fun {y} c=>by
    induction c with
    | refl=>exact uH hk0 hb0 (.inl rfl)
    | fwd _ hj hs ih=>exact uH hj (full _ (N.al _ hj) ih _ hj hs (.inl rfl)) (.inr rfl)
    | bwd _ hj hs ih=>exact uH hj (full _ (N.bl _ hj) ih _ hj hs (.inr rfl)) (.inl rfl)
   refine Nat.eq_of_testBit_eq fun k=>?_
   cases hb:m.testBit k with
   | false =>
     cases hz:q.testBit k with
     | false=>rfl
     | true =>
       have:=hq k hz;rw[hb]at this;cases this
   | true =>
     have hk:=cD hm hb;have e1:=(Nd k hk hb).1;have e2:=(Nd k0 hk0 (hq k0 hb0)).1;rw[hC _ (N.al k hk)]at e1;rw[hC _ (N.al k0 hk0)]at e2;exact full _ (N.al k hk) (spread (bQ _ _ _ ((of_decide_eq_true e2).trans (of_decide_eq_true e1).symm))) k hk hb (.inl rfl)
theorem n5(hm:m<2^N.n)(r:N.Ring m):∃ k0,k0<N.n/\m.testBit k0=true/\∀ k,k<N.n->m.testBit k=true->N.aM (fun k=>m.testBit k) N.n (N.a k)=N.aM (fun k=>m.testBit k) N.n (N.a k0):=by
 obtain⟨h0,ev,mn⟩:=r;obtain⟨k0,hb0⟩:=Nat.exists_testBit_of_ne_zero h0;have hk0:=cD hm hb0;refine⟨k0,hk0,hb0,?_⟩;generalize hs:N.aM (fun k=>m.testBit k) N.n (N.a k0)=s
 have bit:∀ k,(Ring.maskOf (fun k=>m.testBit k&&decide (N.aM (fun k=>m.testBit k) N.n (N.a k)=s)) N.n).testBit k=(decide (k<N.n)&&(m.testBit k&&decide (N.aM (fun k=>m.testBit k) N.n (N.a k)=s))):=fun k=>Ring.mask_bit _ k _
 have sub:∀ k,(Ring.maskOf (fun k=>m.testBit k&&decide (N.aM (fun k=>m.testBit k) N.n (N.a k)=s)) N.n).testBit k=true->m.testBit k=true:=fun k hk=>by
  rw[bit,Bool.and_eq_true,Bool.and_eq_true]at hk;exact hk.2.1
 have Ve:N.fk (Ring.maskOf (fun k=>m.testBit k&&decide (N.aM (fun k=>m.testBit k) N.n (N.a k)=s)) N.n):=fun x hx=>by
  have e:N.bd (Ring.maskOf (fun k=>m.testBit k&&decide (N.aM (fun k=>m.testBit k) N.n (N.a k)=s)) N.n) x=(decide (N.aM (fun k=>m.testBit k) N.n x=s)&&N.bd m x):=by
   unfold Net.bd;rw[<-pB];refine bN fun k hk=>?_
   rw[bit,decide_eq_true hk,Bool.true_and];cases hb:m.testBit k with
   | false=>simp
   | true =>
     cases hi:N.inc k x with
     | false=>simp
     | true =>
       have el:N.aM (fun k=>m.testBit k) N.n (N.a k)=N.aM (fun k=>m.testBit k) N.n x:=by
        rcases(tH hk).mp hi with z|z
        ·rw[z]
        ·rw[<-z];exact iz (S:=fun k=>m.testBit k) hk hb
       rw[el];simp
  rw[e,ev x hx,Bool.and_false]
 rcases mn _ sub Ve with q|q
 ·have:=bit k0;rw[q,hb0,hs,decide_eq_true hk0]at this;simp at this
 ·intro k hk hb;have h:=bit k;rw[q,hb,decide_eq_true hk]at h;exact of_decide_eq_true (by simpa using h.symm)
theorem xB(S:Nat->Bool):∀ k,k<=N.n->cnt (N.root S k) N.p+cnt (fun j=>S j && !decide (N.aM S j (N.a j)=N.aM S j (N.b j))) k=N.p
 | 0,_=>by
   show cnt (N.root S 0) N.p+0=N.p;rw[yv (f:=N.root S 0) fun x _=>decide_eq_true rfl]
   rfl
 | k+1,hk=>by
   have ih:=xB S k (by lia)
   have st:=uy (N:=N) (S:=S) (k:=k) (by lia)
   show cnt (N.root S (k+1)) N.p+(cnt (fun j=>S j && !decide (N.aM S j (N.a j)=N.aM S j (N.b j))) k+if(S k && !decide (N.aM S k (N.a k)=N.aM S k (N.b k)))=true then 1 else 0)=N.p
   lia
theorem Al(hm:m<2^N.n)(r:N.Ring m)(C:Nat->Bool)(hC:∀ x,x<N.p->C x=decide (N.aM (fun k=>m.testBit k) N.n x=s))
 (Vd:∀ k,k<N.n->m.testBit k=true->C (N.a k)=true):2<=cnt C N.p/\cnt C N.p=cnt (fun k=>m.testBit k) N.n/\∀ x,x<N.p->C x=false->N.aM (fun k=>m.testBit k) N.n x=x/\∀ y,N.aM (fun k=>m.testBit k) N.n y=x->y=x:=by
 obtain⟨h0,ev,mn⟩:=r;obtain⟨k0,hb0⟩:=Nat.exists_testBit_of_ne_zero h0;have hk0:=cD hm hb0;have Nd:∀ k,k<N.n->m.testBit k=true->C (N.a k)=true/\C (N.b k)=true:=fun k hk hb=>by
  have h:=Vd k hk hb;refine⟨h,?_⟩;rw[hC _ (N.al k hk)]at h;rw[hC _ (N.bl k hk),<-iz (S:=fun k=>m.testBit k) hk hb]
  exact h
 have h2:2<=cnt C N.p:=tF (Nd k0 hk0 hb0).1 (Nd k0 hk0 hb0).2 (N.ne k0 hk0) (N.al k0 hk0) (N.bl k0 hk0);have none:∀ x,x<N.p->C x=false->N.dg m x=0:=fun x hx hc=>by
  cases hz:N.dg m x with
  | zero=>rfl
  | succ d =>
    exfalso
    obtain⟨k,hk,hb,Lf⟩:=pH (N:=N) (m:=m) (x:=x) (by lia)
    rcases Lf with e|e
    ·have:=(Nd k hk hb).1;rw[e,hc]at this;cases this
    ·have:=(Nd k hk hb).2;rw[e,hc]at this;cases this
 have FH:∀ x,x<N.p->C x=false->N.aM (fun k=>m.testBit k) N.n x=x/\∀ y,N.aM (fun k=>m.testBit k) N.n y=x->y=x:=fun x hx hc=>by
  have hz:=none x hx hc;have r1:N.aM (fun k=>m.testBit k) N.n x=x:=alone hz (bQ _ _ _ (b9 _ _).symm)
  exact⟨r1,fun y hy=>alone hz (bQ _ _ _ (r1.trans hy.symm))⟩
 refine⟨h2,?_,FH⟩;have pos:∀ x,x<N.p->C x=true->0<N.dg m x:=fun x hx hc=>by
  cases hz:N.dg m x with
  | succ d=>lia
  | zero =>
    exfalso
    obtain⟨y,hy,Nf,hne⟩:∃ y,y<N.p/\C y=true/\y≠x:=by
     obtain⟨c,d,h1,h3,h4,h5⟩:=m5 h2
     by_cases e:c=x
     ·exact⟨d,h3,h5,by lia⟩
     ·exact⟨c,by lia,h4,e⟩
    rw[hC x hx]at hc;rw[hC y hy]at Nf;exact hne (alone hz (bQ _ _ _ ((of_decide_eq_true hc).trans (of_decide_eq_true Nf).symm)))
 have ge:cnt C N.p<=cnt (fun k=>m.testBit k) N.n:=by
  have h:sm (fun x=>if C x=true then 2 else 0) N.p<=sm (fun x=>N.dg m x) N.p:=EA fun x hx=>by
   by_cases hc:C x=true
   ·rw[if_pos hc];have h1:=pos x hx hc;have h3:=tG ev hx
    lia
   ·rw[if_neg hc];exact Nat.zero_le _
  rw[yx]at h;have d:sm (fun x=>if C x=true then 2 else 0) N.p=2*cnt C N.p:=by
   rw[iG];have d:∀ n,2*sm (fun k=>if C k=true then 1 else 0) n=sm (fun k=>(if C k=true then 1 else 0)+(if C k=true then 1 else 0)) n:=fun n=>by
    rw[qy]
    lia
   rw[d];exact fD fun x _=>by split<;>rfl
  lia
 refine Nat.le_antisymm ge (Nat.le_of_not_lt fun more=>?_)
 have Vf:=xB (N:=N) (fun k=>m.testBit k) N.n (Nat.le_refl _)
 have hr:cnt (N.root (fun k=>m.testBit k) N.n) N.p+cnt C N.p=N.p+1:=by
  have hc0:=(Nd k0 hk0 hb0).1;rw[hC _ (N.al k0 hk0)]at hc0;have hs:=of_decide_eq_true hc0;have sI:s<N.p:=by rw[<-hs];exact jB (N.al k0 hk0)
  have hss:N.aM (fun k=>m.testBit k) N.n s=s:=by rw[<-hs];exact b9 _ _
  have e:cnt (N.root (fun k=>m.testBit k) N.n) N.p=cnt (fun x=>!C x^^decide (s=x)) N.p:=fX fun x hx=>by
   unfold Net.root;cases hc:C x with
   | false =>
     have ne : ¬ s=x:=fun z=>by
      have:=hC x hx;rw[hc,<-z,hss]at this;simp at this
     rw[decide_eq_true (FH x hx hc).1,decide_eq_false ne];rfl
   | true =>
     have h:=hC x hx;rw[hc]at h;have h:=of_decide_eq_true h.symm;rw[h];simp
  rw[e,uG fun x hx ⟨z1,z2⟩=>by
   have z2:=of_decide_eq_true z2;have:=hC x hx;rw[<-z2,hss]at this;rw[<-z2,this]at z1;simp at z1,uF,if_pos sI]
  have:=kL C N.p
  lia
 have split:cnt (fun k=>m.testBit k) N.n=cnt (fun j=>m.testBit j && !decide (N.aM (fun k=>m.testBit k) j (N.a j)=N.aM (fun k=>m.testBit k) j (N.b j))) N.n+cnt (fun j=>m.testBit j&&decide (N.aM (fun k=>m.testBit k) j (N.a j)=N.aM (fun k=>m.testBit k) j (N.b j))) N.n:=by
  rw[<-uG fun x _ ⟨z1,z2⟩=>by
   rw[Bool.and_eq_true]at z1 z2;have:=z1.2;rw[z2.2]at this;cases this]
  refine fX fun k _=>?_
  cases m.testBit k<;>cases decide (N.aM (fun k=>m.testBit k) k (N.a k)=N.aM (fun k=>m.testBit k) k (N.b k))<;>rfl
 obtain⟨c,d,hcd,hd,hc1,hd1⟩:=m5 (f:=fun j=>m.testBit j&&decide (N.aM (fun k=>m.testBit k) j (N.a j)=N.aM (fun k=>m.testBit k) j (N.b j))) (n:=N.n) (by lia)
 have whole:∀ j,j<N.n->(m.testBit j&&decide (N.aM (fun k=>m.testBit k) j (N.a j)=N.aM (fun k=>m.testBit k) j (N.b j)))=true->∀ i,m.testBit i=true->i<=j:=fun j hj h i hi=>by
  rw[Bool.and_eq_true]at h;obtain⟨t,t1,t2⟩:=FG (Nat.le_of_lt hj) (bQ _ _ _ (of_decide_eq_true h.2));have own:(t^^^2^j).testBit j=true:=by
   rw[Nat.testBit_xor,Nat.testBit_two_pow,decide_eq_true rfl];cases hz:t.testBit j with
   | false=>rfl
   | true=>exact absurd (t1 j hz).1 (Nat.lt_irrefl _)
  have sub:∀ k,(t^^^2^j).testBit k=true->m.testBit k=true:=fun k hk=>by
   rw[Nat.testBit_xor,Nat.testBit_two_pow]at hk
   by_cases e:j=k
   ·subst e;exact h.1
   ·rw[decide_eq_false e,Bool.xor_false]at hk;exact(t1 k hk).2
  have Ve:N.fk (t^^^2^j):=fun x hx=>by
   rw[gR,t2,l8 hj];unfold Net.inc;cases decide (N.a j=x)<;>cases decide (N.b j=x)<;>rfl
  rcases mn _ sub Ve with q|q
  ·rw[q]at own;simp at own
  ·rw[<-q,Nat.testBit_xor,Nat.testBit_two_pow]at hi
   by_cases e:j=i
   ·lia
   ·rw[decide_eq_false e,Bool.xor_false]at hi;exact Nat.le_of_lt (t1 i hi).1
 have h1:m.testBit d=true:=by
  rw[Bool.and_eq_true]at hd1;exact hd1.1
 have:=whole c (by lia) hc1 d h1
 lia
end
end RM
namespace Ring
open PySem L2
def dO(L:Nat->Nat)(p:Nat):List Nat:=(dZ L p).filter fun s=>decide (1<(pieceOf L p s).length)
def OA(L:Nat->Nat)(p k:Nat):List Nat->Bool
 | [s]=>decide ((pieceOf L p s).length=k)
 | _=>false
def sr(p:Nat)(ts:List dJ)(g:aE p ts)(m:Nat):Bool:=decide (uh p ts (m:Int)=[])&&OA (bT p ts g m) p (bE (m:Int)).length (dO (bT p ts g m) p)
theorem i7(L:Nat->Nat)(p s:Nat):(pieceOf L p s).length=RM.cnt (fun x=>decide (L x=s)) p:=RM.i0 _ _
theorem uI{m n:Nat}(hm:m<2^n):(bE (m:Int)).length=RM.cnt (fun k=>m.testBit k) n:=by
 rw[jj hm];exact RM.i0 _ _
theorem FI{f:Nat->Bool}{n c:Nat}(hc:c<n)(h:∀ k,k<n->f k=decide (k=c)):(List.range n).filter f=[c]:=by
 rw[<-nN hc];exact List.filter_congr fun k hk=>h k (List.mem_range.mp hk)
theorem FJ{p:Nat}{ts:List dJ}(g:aE p ts){m:Nat}(hm:m<2^ts.length):sr p ts g m=true↔g.N.Ring m:=by
 have eL:bT p ts g m=g.N.aM (fun k=>m.testBit k) g.N.n:=rfl
 have ep:g.N.p=p:=rfl
 constructor
 ·intro h;unfold sr at h;rw[Bool.and_eq_true]at h;obtain⟨h1,h2⟩:=h;have ev:=(Ag g hm).mp (of_decide_eq_true h1);unfold OA at h2
  split at h2
  ·rename_i s hs
   have h2:=of_decide_eq_true h2;have hmem:s∈dO (bT p ts g m) p:=by rw[hs];exact List.mem_singleton.mpr rfl
   unfold dO at hmem;have hlen:=of_decide_eq_true (List.mem_filter.mp hmem).2;refine RM.EB (s:=s) hm ev (fun x=>decide (bT p ts g m x=s)) (fun x _=>by rw[eL]) ?_ (fun k hk hb=>?_) ?_
   ·rw[ep,<-i7];exact hlen
   ·
    have WW:=g.N.al k hk;have ZL:=g.N.bl k hk;have e:bT p ts g m (g.N.b k)=bT p ts g m (g.N.a k):=(RM.iz (S:=fun k=>m.testBit k) hk hb).symm
    have hr:bT p ts g m (bT p ts g m (g.N.a k))=bT p ts g m (g.N.a k):=RM.b9 _ _;have hlt:bT p ts g m (g.N.a k)<p:=RM.jB WW;have ht:bT p ts g m (g.N.a k)∈dO (bT p ts g m) p:=by
     unfold dO dZ;refine List.mem_filter.mpr ⟨List.mem_filter.mpr ⟨List.mem_range.mpr hlt,decide_eq_true hr⟩,decide_eq_true ?_⟩;rw[i7];exact RM.tF (u:=g.N.a k) (v:=g.N.b k) (decide_eq_true rfl) (decide_eq_true e) (g.N.ne k hk) WW ZL
    rw[hs]at ht;exact decide_eq_true (List.mem_singleton.mp ht)
   ·rw[ep,<-i7,h2];exact uI hm
  ·cases h2
 ·intro r;obtain⟨k0,hk0,hb0,hall⟩:=RM.n5 hm r;generalize hs:g.N.aM (fun k=>m.testBit k) g.N.n (g.N.a k0)=s at hall
  obtain⟨h2,hl,FH⟩:=RM.Al (s:=s) hm r (fun x=>decide (bT p ts g m x=s)) (fun x _=>by rw[eL]) (fun k hk hb=>decide_eq_true (hall k hk hb))
  have sI:s<p:=by rw[<-hs];exact RM.jB (g.N.al k0 hk0)
  have hss:bT p ts g m s=s:=by rw[eL,<-hs];exact RM.b9 _ _
  have ht:dO (bT p ts g m) p=[s]:=by
   unfold dO dZ;rw[List.filter_filter];refine FI sI fun x hx=>?_
   by_cases e:x=s
   ·subst e;rw[decide_eq_true hss,i7,decide_eq_true rfl,Bool.and_true];exact decide_eq_true h2
   ·rw[decide_eq_false e]
    by_cases Lf:bT p ts g m x=x
    ·have hc:decide (bT p ts g m x=s)=false:=decide_eq_false (by rw[Lf];exact e)
     obtain⟨_,q⟩:=FH x hx hc;have : ¬ 1<(pieceOf (bT p ts g m) p x).length:=fun z=>by
      rw[i7]at z;obtain⟨c,d,h1,_,h3,h4⟩:=RM.m5 z;have h3:=q c (of_decide_eq_true h3);have h4:=q d (of_decide_eq_true h4)
      lia
     rw[decide_eq_false this,Bool.false_and]
    ·rw[decide_eq_false Lf,Bool.and_false]
  unfold sr;rw[decide_eq_true ((Ag g hm).mpr r.2.1),ht,Bool.true_and];refine decide_eq_true ?_;rw[i7,uI hm];exact hl
theorem Cv{p:Nat}{ts:List dJ}{g:aE p ts}{m:Nat}(ev:uh p ts (m:Int)=[]):sr p ts g m=OA (bT p ts g m) p (bE (m:Int)).length (dO (bT p ts g m) p):=by
 unfold sr;rw[decide_eq_true ev,Bool.true_and]
def OB(H:Hp)(y:V)(l:List Nat):Prop:=∃ b,y = .ref b/\H b=some (.lst (aA l))
def uJ(f:List Nat->Bool)(ls:List (List Nat))(H:Hp)(D:Addr)(i:Nat)(acc:List V)(H2:Hp):Prop:=av H H2/\H2 D=some (.lst acc)/\Paired (OB H) acc ((ls.take i).filter f)
section
variable {f:List Nat->Bool}{ls:List (List Nat)}{H H2 H3:Hp}{D:Addr}{i:Nat}{acc:List V}{y:V}{l:List Nat}
theorem uJ.start(hD:H D=none):uJ f ls H D 0 [] (upd H D (.lst [])):=⟨av.new hD,ae,.nil⟩
theorem uJ.len(h:uJ f ls H D i acc H2):H2 D=some (.lst acc)/\acc.length<=i:=⟨h.2.1,by
 rw[h.2.2.length];exact Nat.le_trans (List.length_filter_le _ _) (by rw[List.length_take];lia)⟩
theorem uJ.yes(h:uJ f ls H D i acc H2)(hD:H D=none)(hl:ls[i]?=some l)(hf:f l=true)(hy:OB H y l):H2 D=some (.lst acc)/\uJ f ls H D (i+1) (acc++[y]) (upd H2 D (.lst (acc++[y]))):=by
 refine⟨h.2.1,h.1.put hD,ae,?_⟩;rw[List.take_add_one,hl,List.filter_append];show Paired _ _ (_++List.filter f [l]);rw[List.filter_cons,if_pos hf];exact Paired.snoc h.2.2 hy
theorem uJ.no(h:uJ f ls H D i acc H2)(hl:ls[i]?=some l)(hf:f l=false):uJ f ls H D (i+1) acc H2:=by
 refine⟨h.1,h.2.1,?_⟩;rw[List.take_add_one,hl,List.filter_append];show Paired _ _ (_++List.filter f [l]);rw[List.filter_cons,if_neg (by rw[hf];exact Bool.false_ne_true)]
 simpa using h.2.2
end
end Ring
namespace L2
open PySem PySem.Spec PyProof.Rows
section
variable {prog:Program}{w:World}{A:Around}{E:dw}{s:Shared}
theorem Cw{it t:Addr}{i:Nat}{items:Array Value}{x:Value}{Q:dw}(hit:s.heap.IsTupleIter it t i)(ht:s.heap.IsTuple t items)(hx:items[i]?=some x)
 (q:∀ h',h'.IsTupleIter it t (i+1)->Heap.SameBut it s.heap h'->Q x { s with heap:=h'}):wpAny (model prog w) A (Builtin.SmallTypes.nextOf (.ref it)) Q E s:=by
 obtain⟨o,ho,hc,hd⟩:=id hit;obtain⟨ot,Vg,_,nt,hdt⟩:=ht;rw[Builtin.SmallTypes.nextOf];refine wpAny_bind (wpAny_callSpecial?_slot (name:=Str.ofString "__next__") hit.typeIs F.slot_tuple_iterator_next (wpAny_call_entry F.slot_tuple_iterator_next hit.typeIs F.entry_tuple_iterator_next ?_ (F.args_tuple_iterator_next_1 _)));show wpAny _ _ (field (.ref it) 0 >>= fun _=>_) _ _ s
 refine wpAny_bind (wpAny_field ho hd (x:=.ref t) rfl ?_);show wpAny _ _ (if(Value.ref t==Value.none)=true then _ else _) _ _ s
 rw[if_neg (by simp)]
 show wpAny _ _ (field (.ref it) 1 >>= fun _=>_) _ _ s
 refine wpAny_bind (wpAny_field ho hd (x:=.int i 0) rfl ?_);show wpAny _ _ (seqItems? (.ref t) >>= fun _=>_) _ _ s
 refine wpAny_bind (wpAny_seqItems Vg hdt ?_);simp only[Int.toNat_natCast,hx];refine wpAny_bind (wpAny_setField ho hd (by simp) (wpAny_pure ⟨x,rfl,wpAny_pure (q _ ?_ (Heap.SameBut.update ..))⟩))
 refine⟨_,Heap.get?_update_self _ ho (Obj.isFreed_of_fields (Obj.data_mapFields hd _)),(Obj.cls_mapFields ..).trans hc,?_⟩;rw[Obj.data_mapFields hd];simp[rawInt]
theorem FL{it t:Addr}{i:Nat}{items:Array Value}{Q:dw}(hh:A.handled=none)(hit:s.heap.IsTupleIter it t i)(ht:s.heap.IsTuple t items)(hx:items[i]?=none)
 (q:∀ h' e,Heap.ExtBut it s.heap h'->(∃ o,h'.get? e=some o/\o.cls = .type "StopIteration")->E (.ref e) { s with heap:=h'}):wpAny (model prog w) A (Builtin.SmallTypes.nextOf (.ref it)) Q E s:=by
 obtain⟨o,ho,hc,hd⟩:=id hit;obtain⟨ot,Vg,_,nt,hdt⟩:=ht;rw[Builtin.SmallTypes.nextOf];refine wpAny_bind (wpAny_callSpecial?_slot (name:=Str.ofString "__next__") hit.typeIs F.slot_tuple_iterator_next (wpAny_call_entry F.slot_tuple_iterator_next hit.typeIs F.entry_tuple_iterator_next ?_ (F.args_tuple_iterator_next_1 _)));show wpAny _ _ (field (.ref it) 0 >>= fun _=>_) _ _ s
 refine wpAny_bind (wpAny_field ho hd (x:=.ref t) rfl ?_);show wpAny _ _ (if(Value.ref t==Value.none)=true then _ else _) _ _ s
 rw[if_neg (by simp)]
 show wpAny _ _ (field (.ref it) 1 >>= fun _=>_) _ _ s
 refine wpAny_bind (wpAny_field ho hd (x:=.int i 0) rfl ?_);show wpAny _ _ (seqItems? (.ref t) >>= fun _=>_) _ _ s
 refine wpAny_bind (wpAny_seqItems Vg hdt ?_);simp only[Int.toNat_natCast,hx];refine wpAny_bind (wpAny_rule (wpAny_bind (wpAny_setField ho hd (by simp) ?_)))
 show wpAny _ _ (newExc (.type "StopIteration") [] >>= fun _=>_) _ _ _
 refine wpAny_bind ?_;simp only[newExc,newTuple];refine wpAny_bind (wpAny_newObj_type ?_ (by size_fits))
 refine wpAny_bind (m:=firstArgMember _ _) (wpAny_of_eq (a:=Value.none) (by first | rfl | (simp only[firstArgMember];rfl)) (wpAny_newObj_type ?_ (by size_fits)))
 exact wpAny_raiseNew_none hh (q _ _ (((Heap.SameBut.update ..).extBut.push _).push _) ⟨_,Heap.get?_push_size _ rfl,rfl⟩)
theorem su(hh:A.handled=none)(it t:Addr)(hne:t≠it)(items:Array Value):
 Draws prog w A it [it,t] items.size (fun i v=>items[i]?=some v) (fun i h=>h.IsTupleIter it t i/\h.IsTuple t items) where
 live:=fun _ _ st=>let⟨o,ho,_⟩:=st.1;⟨o,ho⟩
 frame:=fun _ _ _ st hk=>⟨st.1.at fun o e=>hk it (by simp) o e,st.2.at fun o e=>hk t (by simp) o e⟩
 item:=fun i s Q E hi st hQ=>Cw st.1 st.2 (x:=items[i]) (by simp[hi]) fun h' Vh hs'=>hQ _ h' s.toks (by simp[hi]) ⟨Vh,st.2.extBut hs'.extBut hne⟩ hs'
 done:=fun s Q E st hE=>FL hh st.1 st.2 (by simp) hE
end
open AutoSeq1 (wpAny_loadPart') in
theorem qz(l:Addr)(items:Array Value)(n:Nat)(dct:Option Addr)(sl:Array (Option Value)):
 Meets (Builtin.«enumerate.__new__» ⟨[.type "enumerate",.ref l],[]⟩) (fun _ R s=>s.heap.get? l=some { cls:=.type "tuple",dict:=dct,data:=.seq items n,slots:=sl}/\
  R (.ok (.ret (.ref (s.heap.push { cls:=.type "tuple_iterator",data:=.fields #[.ref l,.int 0 0]}).objs.size)))
    { s with heap:=(s.heap.push { cls:=.type "tuple_iterator",data:=.fields #[.ref l,.int 0 0]}).push { cls:=.type "enumerate",data:=.fields #[.none,.bool false,.ref s.heap.objs.size,rawInt 0,.none,.none]}}) :=
 .of_wp fun prog w A R s h=>by
  obtain⟨hp,g,d,tk,os⟩:=s;obtain⟨hl,h⟩:=h;have hsub:=sub_enumerate;have hL:Heap.IsTuple (Shared.heap ⟨hp,g,d,tk,os⟩) l items:=⟨_,hl,rfl,n,rfl⟩
  wp_walk using wpAny_loadPart' hl
  refine wpAny_stack_any fun st=>wpAny_pure ?_
  split
  ·rename_i c _ _ _ _ _
   cases(c==Value.type "enumerate")
   ·wp_walk using wpAny_loadPart' hl,wpAny_pyIter_tuple hL
    exact⟨_,rfl,h⟩
   ·wp_walk using wpAny_loadPart' hl,wpAny_pyIter_tuple hL
    exact⟨_,rfl,h⟩
  ·wp_walk using wpAny_loadPart' hl,wpAny_pyIter_tuple hL
   exact⟨_,rfl,h⟩
section
variable {prog:Program}{w:World}{A:Around}{E:dw}{s:Shared}
theorem Cy{l:Addr}{items:Array Value}{Q:dw}(hL:s.heap.IsTuple l items)
 (h:∀ h',IsEnum h' (s.heap.objs.size+1) s.heap.objs.size 0 .none->h'.IsTupleIter s.heap.objs.size l 0->h'.objs.size=s.heap.objs.size+2->(∀ b o,s.heap.get? b=some o->h'.get? b=some o)->Q (.ref (s.heap.objs.size+1)) { s with heap:=h'}) :
 wpAny (model prog w) A (call (.type "enumerate") [.ref l]) Q E s:=by
 obtain⟨⟨c,dct,dt,sl⟩,hl,hc,n,hd⟩:=hL
 replace hc:c = .type "tuple":=hc
 replace hd:dt = .seq items n:=hd
 subst hc hd;refine callType_new F.called_enumerate (by decide) (F.typeCall_enumerate_1 _) (F.newCall_enumerate_1 _) (fun obj=>F.args_object_init_2 obj _) F.entry_enumerate_new (qz l items n dct sl) ⟨hl,?_⟩
 have hz:(s.heap.push { cls:=.type "tuple_iterator",data:=.fields #[.ref l,.int 0 0]}).objs.size=s.heap.objs.size+1:=Heap.size_push ..;show _/\_;rw[hz];have he:IsEnum ((s.heap.push { cls:=.type "tuple_iterator",data:=.fields #[.ref l,.int 0 0]}).push { cls:=.type "enumerate",data:=.fields #[.none,.bool false,.ref s.heap.objs.size,rawInt 0,.none,.none]}) (s.heap.objs.size+1) s.heap.objs.size 0 .none:=by
  have z:=Heap.get?_push_size (s.heap.push { cls:=.type "tuple_iterator",data:=.fields #[.ref l,.int 0 0]}) (o:={ cls:=.type "enumerate",data:=.fields #[.none,.bool false,.ref s.heap.objs.size,rawInt 0,.none,.none]}) rfl;rw[hz]at z;exact z
 exact⟨⟨_,he,rfl⟩,h _ he ⟨_,Heap.get?_push_of_some _ (Heap.get?_push_size _ rfl),rfl,rfl⟩ (by rw[Heap.size_push,hz]) fun b o x=>Heap.get?_push_of_some _ (Heap.get?_push_of_some _ x)⟩
end
def FN(K:bK)(a:Addr):It :=
 ⟨fun i H=>∃ xs x,aP K H a xs/\xs[i]?=some x,fun i H v H'=>∃ T x,v = .ref T/\H T=none/\H' = upd H T (.tup [.int (i:Int),x])/\∀ xs,aP K H a xs->xs[i]?=some x,fun i H=>∃ xs,aP K H a xs/\xs.length=i⟩
theorem Cz{P:Program}{w:World}{K:bK}{elts:List Expr}{k:Nat}{pos:Pos}(a e it:Addr)(hne:e≠it):
 Turn P w K (.Tuple elts k pos) (FN K a) [e,it] e (fun i h=>(∃ old,IsEnum h e it (i:Int) old)/\h.IsTupleIter it a i) where
 mem:=by simp
 obj:=fun i h st b hb=>by
  obtain⟨⟨old,he⟩,o,ho,c,d⟩:=st;have hb' : b=e\/b=it:=by simpa using hb
  rcases hb' with rfl|rfl
  ·exact⟨_,he,fun v z=>by cases z⟩
  ·exact⟨o,ho,fun v z=>by rw[d]at z;cases z⟩
 keep:=fun i h h' st k=>by
  obtain⟨⟨old,he⟩,hit⟩:=st;exact⟨⟨old,k e (by simp) _ he⟩,hit.at fun o x=>k it (by simp) o x⟩
 item:=by
  intro X hP hw hK hc i pins s σ H E I hf st hg;subst hP hw hK;obtain⟨xs,x,hq,hx⟩:=hg;obtain⟨its,rv,p,hz⟩:=I.tuple hq;obtain⟨u,hu,ru⟩:=rv.get hx;obtain⟨⟨old,he⟩,hit⟩:=st;have pT:s.heap.IsTuple a its.toArray:=p;have hai:a≠it:=fun z=>by
   obtain⟨o1,h1,_,_,d1⟩:=pT;obtain⟨o2,h2,_,d2⟩:=hit;rw[z,h2]at h1;cases h1;rw[d2]at d1;cases d1
  have ZM:e∉[it,a]:=fun z=>by
   have z' : e=it\/e=a:=by simpa using z
   rcases z' with z' | z'
   ·exact hne z'
   ·obtain⟨o1,h1,_,_,d1⟩:=pT;rw[<-z',he]at h1;cases h1;cases d1
  refine wpAny_pyNext_enum_itemD (su (A:=X.A.in1) (I.ok.hd hc) it a hai its.toArray) he ⟨hit,pT⟩ (by have:=(List.getElem?_eq_some_iff.mp hu).1;simpa using this) hne ZM fun y h1 tk hy ho Om hT hsz hk=>?_
  have ZN:y=u:=by
   have z:its.toArray[i]?=some u:=by simpa using hu
   rw[hy]at z;exact Option.some.inj z
  subst ZN;refine⟨_,rfl,wpAny_letOwnedTupleGo_enum ho fun h2 LV hs2=>?_⟩
  have Rt:s.heap.objs.size≠e:=Nat.ne_of_gt (Heap.lt_size he);have hT2:h2.get? s.heap.objs.size=some { cls:=.type "tuple",data:=.seq #[.int i tk,y]}:=(hs2.2 _ Rt).trans hT;refine⟨.ref s.heap.objs.size,upd H s.heap.objs.size (.tup [.int (i:Int),x]),I.yields (wr:=[e,it]) (t':=tk+1) (fun b o hb q=>?_) hf (Nat.le_refl _) ?_,rfl,⟨_,x,rfl,I.fresh,rfl,fun ys hy=>by rw[I.wR hy hq];exact hx⟩,⟨⟨y,by simpa using LV⟩,?_⟩,fun b hb=>?_⟩
  ·have Iq:b≠e:=fun z=>hb (by simp[z])
   have Oo:b≠it:=fun z=>hb (by simp[z])
   exact(hs2.2 b Iq).trans (hk b o Iq Oo q)
  ·exact⟨dl rfl,[.int i tk,y],.cons ⟨_,rfl⟩ (.cons ru .nil),⟨_,hT2,rfl,_,rfl⟩⟩
  ·exact Om.1.at fun o q=>(hs2.2 it (Ne.symm hne)).trans q
  ·rw[aq]
   ·exact(hf b hb).1
   ·have hb' : b=e\/b=it:=by simpa using hb
    rcases hb' with rfl|rfl
    ·exact Ne.symm Rt
    ·obtain⟨o,q,_⟩:=hit;exact Nat.ne_of_lt (Heap.lt_size q)
 done:=by
  intro X hP hw hK hc i pins s σ H E I hf st hg;subst hP hw hK;obtain⟨xs,hq,hx⟩:=hg;obtain⟨its,rv,p,hz⟩:=I.tuple hq;obtain⟨⟨old,he⟩,hit⟩:=st;have pT:s.heap.IsTuple a its.toArray:=p;have hai:a≠it:=fun z=>by
   obtain⟨o1,h1,_,_,d1⟩:=pT;obtain⟨o2,h2,_,d2⟩:=hit;rw[z,h2]at h1;cases h1;rw[d2]at d1;cases d1
  obtain⟨f0,f1,f2,f3,f4,f5⟩:=hf it (by simp)
  have hl:=rv.length;have hi:i=its.toArray.size:=by rw[List.size_toArray];lia
  subst hi;exact wpAny_pyNext_enum_endD (su (A:=X.A.in1) (I.ok.hd hc) it a hai its.toArray) he ⟨hit,pT⟩ fun h' eb=>⟨rfl,I.turned (t':=s.toks) (fun b o hb e=>eb b o hb e) f0 f1 f3 f4 f5⟩
 self:=fun _ _ _ _ _ st h=>by
  obtain⟨⟨old,he⟩,_⟩:=st;exact wpAny_pyIter_enum he h
section
variable {X:Cx}{elts:List Expr}{n:Nat}{tp:Pos}
def OD(K:bK)(ta:TA):TI:=fun σ H R=>ta σ H fun vs H1=>∃ a,vs=[.ref a]/\(∃ xs,aP K H1 a xs)/\R (FN K a) H1
theorem Am(K:bK){a:Expr}{ta:TA}{p pos:Pos}(hg:Gl X "enumerate")(hm:X.mg "enumerate"=none)(ha:PA X [a] ta)(hs:starEach [a] X.env=[(false,eval a X.env)]:=by rfl)(hK:X.K=K:=by rfl):
 PI X (.Tuple elts n tp) (.Call (.Name "enumerate" p) [a] [] pos) (OD K ta):=by
 subst hK;intro pins s σ H R I h;refine Call_ (kH I hg hm boot_enumerate (PyProof.Rows.callWith_type1 (dB (ha pos pins s σ H _ I h) fun us s1 ⟨vs,H1,I1,r1,q1⟩=>?_) hs rfl))
 obtain⟨a,e,⟨xs,hq⟩,q⟩:=q1;subst e;cases r1 with
 | cons r rr =>
   cases rr;cases r;obtain⟨its,rv,pl,hz⟩:=I1.tuple hq;refine Cy (show s1.heap.IsTuple a its.toArray from pl) fun h' he hit hsz hk=>?_
   have I2:Inv X pins σ H1 { s1 with heap:=h'}:=I1.kept (t':=s1.toks) hk
   refine wpAny_pyIter_enum he ⟨_,[s1.heap.objs.size+1,s1.heap.objs.size],_,_,H1,rfl,I2,Cz a _ _ (Nat.succ_ne_self _),⟨⟨_,he⟩,hit⟩,fun b hb=>?_,q⟩
   have hb' : b=s1.heap.objs.size+1\/b=s1.heap.objs.size:=by simpa using hb
   have Rv:s1.heap.objs.size<=b:=by
    rcases hb' with rfl|rfl
    ·exact Nat.le_succ _
    ·exact Nat.le_refl _
   exact I1.B5 Rv (I1.hok.fresh Rv)
end
section
variable {K:bK}{a:Addr}{xs:List V}{g:TG}{tt:TT}{te:TE}{n:Nat}{fr:St}{D:Addr}{Q:Hp->Prop}{H1:Hp}
theorem CA(Pv:Nat->List V->Hp->Prop)(h0:Pv 0 [] H1)(hl:∀ i acc H,i<=xs.length->Pv i acc H->aP K H a xs/\H D=some (.lst acc)/\acc.length<=i)(hz:xs.length<=sizeLine)
 (hs:∀ i x T acc H,xs[i]?=some x->Pv i acc H->H T=none->g (.ref T) (List.replicate n none++fr) (upd H T (.tup [.int (i:Int),x])) fun σ2 H2=>σ2.drop n=fr/\tt σ2 H2 fun b H3 =>
  if b=true then te σ2 H3 fun v H4=>H4 D=some (.lst acc)/\Pv (i+1) (acc++[v]) (upd H4 D (.lst (acc++[v]))) else Pv (i+1) acc H3)
 (hd:∀ acc H,Pv xs.length acc H->Q H):iw (FN K a) g tt te n fr D Q H1:=by
 refine⟨fun i m acc H=>m=xs.length-i/\i<=xs.length/\Pv i acc H,⟨xs.length,by simp,Nat.zero_le _,h0⟩,?_⟩
 rintro i m acc H ⟨rfl,hi,p⟩;obtain⟨q,hD,ha⟩:=hl i acc H hi p;refine⟨hD,?_⟩
 by_cases hlt:i<xs.length
 ·refine .inr ⟨⟨xs,xs[i],q,by simp[hlt]⟩,by lia,Pv (i+1),fun acc' H' p'=>⟨xs.length-(i+1),by lia,rfl,hlt,p'⟩,fun v H' y=>?_⟩
  obtain⟨T,x,rfl,hT,rfl,y⟩:=y;exact hs i x T acc _ (y xs q) p hT
 ·have e:i=xs.length:=by lia
  subst e;exact .inl ⟨⟨xs,q,rfl⟩,hd acc H p⟩
end
end L2
namespace RM
variable {N:Net}
def Net.cut(N:Net)(C:Nat->Bool):Nat:=Ring.maskOf (fun k=>C (N.a k)^^C (N.b k)) N.n
def Net.par(N:Net)(q m:Nat):Bool:=bz (fun k=>q.testBit k&&m.testBit k) N.n
theorem m6(q r m:Nat):N.par (q^^^r) m=(N.par q m^^N.par r m):=by
 unfold Net.par;rw[<-jk];refine bN fun k _=>?_
 rw[Nat.testBit_xor];cases q.testBit k<;>cases r.testBit k<;>cases m.testBit k<;>rfl
theorem kj(m:Nat):N.par 0 m=false:=gQ fun k _=>by simp
theorem EC{k:Nat}(h:k<N.n)(m:Nat):N.par (2^k) m=m.testBit k:=by
 unfold Net.par;rw[pC h fun j _ hj=>by simp[Nat.testBit_two_pow,Ne.symm hj]]
 simp[Nat.testBit_two_pow]
theorem yy(C:Nat->Bool)(k:Nat):(N.cut C).testBit k=(decide (k<N.n)&&(C (N.a k)^^C (N.b k))):=Ring.mask_bit _ k _
theorem OE(C:Nat->Bool):N.cut C<2^N.n:=Ring.mask_lt _ _
theorem FO{C D:Nat->Bool}(h:∀ x,x<N.p->C x=D x):N.cut C=N.cut D:=by
 refine Nat.eq_of_testBit_eq fun k=>?_
 rw[yy,yy]
 by_cases hk:k<N.n
 ·rw[h _ (N.al k hk),h _ (N.bl k hk)]
 ·rw[decide_eq_false hk];rfl
theorem An{k:Nat}(hk:k<N.n)(hf:N.l9 k=true):N.ring k=0:=gv (fun j hj=>by
 rcases mh hj with e|e
 ·subst e;exact⟨hk,hf⟩
 ·exact e) (m3 hk)
theorem FP{m:Nat}(k:Nat):(m^^^N.cut fun x=>N.par (N.trail N.n x) m).testBit k=if k<N.n then N.par (N.ring k) m else m.testBit k:=by
 rw[Nat.testBit_xor,yy]
 by_cases hk:k<N.n
 ·rw[if_pos hk,decide_eq_true hk,Bool.true_and];unfold Net.ring;rw[m6,m6,EC hk];cases m.testBit k<;>cases N.par (N.trail N.n (N.a k)) m<;>cases N.par (N.trail N.n (N.b k)) m<;>rfl
 ·rw[if_neg hk,decide_eq_false hk];simp
theorem Ao{m k:Nat}(hm:m<2^N.n)(h:(m^^^N.cut fun x=>N.par (N.trail N.n x) m).testBit k=true):k<N.n/\N.l9 k=false/\N.par (N.ring k) m=true:=by
 rw[FP]at h
 by_cases hk:k<N.n
 ·rw[if_pos hk]at h;refine⟨hk,?_,h⟩;cases hf:N.l9 k with
  | false=>rfl
  | true =>
    rw[An hk hf,kj]at h;cases h
 ·rw[if_neg hk]at h;exact absurd (cD hm h) hk
end RM
namespace Ring
def orM(ks:List Nat):Nat:=ks.foldl (fun m k=>m ||| 2^k) 0
theorem IS(ks:List Nat)(j:Nat):∀ m,(ks.foldl (fun m k=>m ||| 2^k) m).testBit j=(m.testBit j || decide (j∈ks)):=by
 induction ks with
 | nil=>intro m;simp
 | cons k r ih =>
   intro m;rw[List.foldl_cons,ih,Nat.testBit_or,Nat.testBit_two_pow]
   by_cases h:k=j
   ·subst h;simp
   ·have h' : ¬ j=k:=fun z=>h z.symm
    simp[h,h']
theorem iN(ks:List Nat)(j:Nat):(orM ks).testBit j=decide (j∈ks):=by
 unfold orM;rw[IS];simp
theorem Aq(ks:List Nat){t:Nat}(h:t∉ks):orM (ks++[t])=orM ks^^^2^t:=Nat.eq_of_testBit_eq fun j=>by
 rw[Nat.testBit_xor,iN,iN,Nat.testBit_two_pow]
 by_cases e:t=j
 ·subst e;simp[h]
 ·have e' : ¬ j=t:=fun z=>e z.symm
  simp[e,e']
theorem CB(f:Nat->Bool)(n:Nat):orM ((List.range n).filter f)=maskOf f n:=Nat.eq_of_testBit_eq fun j=>by
 rw[iN,mask_bit,Bool.eq_iff_iff];simp
theorem OF{ks:List Nat}{n:Nat}(h:∀ k∈ks,k<n):orM ks<2^n:=RM.cM fun k hk=>by
 rw[iN]at hk;exact h k (of_decide_eq_true hk)
end Ring
namespace RM
variable {N:Net}
inductive Net.Walk(N:Net):List Nat->Nat->List Nat->Prop
 | one {v:Nat}:Net.Walk N [] v []
 | snoc {pre ks:List Nat} {v w t:Nat} (h:Net.Walk N pre v ks) (ht:t<N.n) (hn:t∉ks) (j:(N.a t=v/\N.b t=w)\/(N.b t=v/\N.a t=w)):Net.Walk N (pre++[v]) w (ks++[t])
theorem Net.Walk.len{pre ks:List Nat}{v:Nat}(h:N.Walk pre v ks):pre.length=ks.length:=by
 induction h with
 | one=>rfl
 | snoc _ _ _ _ ih=>rw[List.length_append,List.length_append,ih];rfl
theorem Net.Walk.lt{pre ks:List Nat}{v:Nat}(h:N.Walk pre v ks):∀ t∈ks,t<N.n:=by
 induction h with
 | one=>exact fun t ht=>nomatch ht
 | snoc _ ht _ _ ih =>
   intro s hs;rcases List.mem_append.mp hs with q|q
   ·exact ih s q
   ·have e:=List.mem_singleton.mp q;rw[e];exact ht
theorem Net.Walk.bd{pre ks:List Nat}{v:Nat}(h:N.Walk pre v ks):∀ i u,(pre++[v])[i]?=some u->∀ x,N.bd (Ring.orM (ks.drop i)) x=(decide (u=x)^^decide (v=x)):=by
 induction h with
 | one =>
   rename_i v
   intro i u hu x
   match i,hu with
   | 0,hu =>
     have e:v=u:=Option.some.inj hu;subst e;show N.bd 0 x=_;rw[mZ];simp
   | i+1,hu=>simp at hu
 | snoc hw ht hn j ih =>
   rename_i pre ks v w t
   intro i u hu x;have hl:=hw.len
   by_cases hi:i<(pre++[v]).length
   ·rw[List.getElem?_append_left hi]at hu;have hi' : i<=ks.length:=by rw[List.length_append]at hi;simp at hi;lia
    rw[List.drop_append_of_le_length hi',Ring.Aq _ (fun z=>hn (List.mem_of_mem_drop z)),gR,ih i u hu x,l8 ht]
    have e:N.inc t x=(decide (v=x)^^decide (w=x)):=by
     unfold Net.inc;rcases j with⟨j1,j2⟩|⟨j1,j2⟩
     ·rw[j1,j2]
     ·rw[j1,j2];exact Bool.xor_comm _ _
    rw[e];cases decide (u=x)<;>cases decide (v=x)<;>cases decide (w=x)<;>rfl
   ·have hi2:i=(pre++[v]).length:=by
     have:=(List.getElem?_eq_some_iff.mp hu).1;rw[List.length_append]at this;simp at this hi ⊢
     lia
    rw[hi2,List.getElem?_append_right (Nat.le_refl _),Nat.sub_self]at hu;have e:w=u:=Option.some.inj hu;subst e;have:(ks++[t]).drop i=[]:=List.drop_eq_nil_of_le (by rw[hi2,List.length_append,List.length_append];simp;lia)
    rw[this];show N.bd 0 x=_;rw[mZ];simp
structure Way(N:Net)(gU:Nat)(pre:List Nat)(v:Nat)(ks:List Nat)(left:Nat):Prop where
 w:N.Walk pre v ks
 lt:gU<2^N.n
 ev:N.fk gU
 sub:∀ t∈ks,gU.testBit t=true
 yz:left=gU^^^Ring.orM ks
 nd:pre.Nodup
 WX:∀ x∈pre++[v],x<N.p
 st:pre=[]->∃ t,t<N.n/\gU.testBit t=true/\N.a t=v
section
variable {gU left v:Nat}{pre ks:List Nat}
theorem Way.start{t:Nat}(lt:gU<2^N.n)(ev:N.fk gU)(hb:gU.testBit t=true):Way N gU [] (N.a t) [] gU:=by
 have ht:=cD lt hb;refine⟨.one,lt,ev,(fun _ z=>nomatch z),?_,List.Pairwise.nil,fun x hx=>?_,fun _=>⟨t,ht,hb,rfl⟩⟩
 ·show gU=gU^^^0;simp
 ·have e:x=N.a t:=by simpa using hx
  rw[e];exact N.al t ht
theorem Way.pJ(h:Way N gU pre v ks left)(t:Nat):left.testBit t=(gU.testBit t && !decide (t∈ks)):=by
 rw[h.yz,Nat.testBit_xor,Ring.iN]
 by_cases hm:t∈ks
 ·rw[h.sub t hm,decide_eq_true hm];rfl
 ·rw[decide_eq_false hm];simp
theorem Way.L7(h:Way N gU pre v ks left):left<2^N.n:=cM fun k hk=>by
 rw[h.pJ,Bool.and_eq_true]at hk;exact cD h.lt hk.1
theorem Way.on(h:Way N gU pre v ks left)(hv:v∉pre):∃ t,left.testBit t=true/\(N.a t=v\/N.b t=v):=by
 cases pre with
 | nil =>
   obtain⟨t,ht,hb,e⟩:=h.st rfl;have hk:ks=[]:=List.length_eq_zero_iff.mp (by rw[<-h.w.len];rfl)
   refine⟨t,?_,.inl e⟩;rw[h.pJ,hb,hk];simp
 | cons u r =>
   have hb:=h.w.bd 0 u rfl v;rw[List.drop_zero]at hb;have hu : ¬ u=v:=fun z=>hv (by rw[z];exact List.mem_cons_self)
   rw[decide_eq_false hu,decide_eq_true rfl]at hb;have ZO:v<N.p:=h.WX v (List.mem_append_right _ (List.mem_singleton.mpr rfl));have hl:N.bd left v=true:=by
    rw[h.yz,gR,h.ev v ZO,hb];rfl
   rw[IQ]at hl;have hp:=of_decide_eq_true hl;obtain⟨k,hk,hkb,hx⟩:=pH (N:=N) (m:=left) (x:=v) (by lia)
   exact⟨k,hkb,hx⟩
theorem Way.go(h:Way N gU pre v ks left)(hv:v∉pre){t w:Nat}(hb:left.testBit t=true)(j:(N.a t=v/\N.b t=w)\/(N.b t=v/\N.a t=w)):
 Way N gU (pre++[v]) w (ks++[t]) (left^^^2^t):=by
 rw[h.pJ,Bool.and_eq_true]at hb;have hn:t∉ks:=by simpa using hb.2
 have ht:=cD h.lt hb.1;refine⟨.snoc h.w ht hn j,h.lt,h.ev,fun s hs=>?_,?_,?_,fun x hx=>?_,fun z=>?_⟩
 ·rcases List.mem_append.mp hs with q|q
  ·exact h.sub s q
  ·rw[List.mem_singleton.mp q];exact hb.1
 ·rw[Ring.Aq _ hn,h.yz,Nat.xor_assoc]
 ·refine List.nodup_append.mpr ⟨h.nd,by simp,fun x hx y hy=>?_⟩
  have e:y=v:=by simpa using hy
  rw[e];exact fun z=>hv (z▸hx)
 ·rcases List.mem_append.mp hx with q|q
  ·exact h.WX x q
  ·have e:x=w:=by simpa using q
   rw[e];rcases j with⟨_,j2⟩|⟨_,j2⟩
   ·rw[<-j2];exact N.bl t ht
   ·rw[<-j2];exact N.al t ht
 ·simp at z
theorem Way.closes(h:Way N gU pre v ks left){i:Nat}(hi:pre[i]?=some v):Ring.orM (ks.drop i)≠0/\N.fk (Ring.orM (ks.drop i))/\Ring.orM (ks.drop i)<2^N.n/\∀ k,(Ring.orM (ks.drop i)).testBit k=true->gU.testBit k=true:=by
 have OG:=(List.getElem?_eq_some_iff.mp hi).1;have hl:=h.w.len;have pL:∀ k,(Ring.orM (ks.drop i)).testBit k=true->k∈ks:=fun k hk=>by
  rw[Ring.iN]at hk;exact List.mem_of_mem_drop (of_decide_eq_true hk)
 refine⟨fun z=>?_,fun x _=>?_,cM fun k hk=>h.w.lt k (pL k hk),fun k hk=>h.sub k (pL k hk)⟩
 ·have hne:ks.drop i≠[]:=fun q=>by
   have:=List.drop_eq_nil_iff.mp q
   lia
  obtain⟨k,hk⟩:=List.exists_mem_of_ne_nil _ hne;have:=Ring.iN (ks.drop i) k;rw[z,decide_eq_true hk]at this;simp at this
 ·rw[h.w.bd i v (by rw[List.getElem?_append_left OG];exact hi) x]
  simp
end
end RM
namespace Ring
open PySem L2
theorem ED{p:Nat}{ts:List dJ}{g:aE p ts}{q m:Nat}(hm:m<2^ts.length):decide ((bE ((q&&&m:Nat):Int)).length%2=1)=g.N.par q m:=by
 rw[uI (n:=ts.length) (Nat.and_lt_two_pow q hm)];unfold RM.Net.par;rw[RM.uE];have e:RM.cnt (fun k=>(q&&&m).testBit k) ts.length=RM.cnt (fun k=>q.testBit k&&m.testBit k) g.N.n:=RM.fX fun k _=>by rw[Nat.testBit_and]
 rw[e]
def xorL(rs:List Nat):Nat:=rs.foldl (fun m r=>m^^^r) 0
theorem FQ(rs:List Nat):∀ m,rs.foldl (fun m r=>m^^^r) m=m^^^xorL rs:=by
 induction rs with
 | nil=>intro m;show m=m^^^0;simp
 | cons r rs ih =>
   intro m;show rs.foldl (fun m r=>m^^^r) (m^^^r)=m^^^rs.foldl (fun m r=>m^^^r) (0^^^r)
   rw[ih,ih,Nat.zero_xor,Nat.xor_assoc]
theorem xorL_cons(rs:List Nat)(r:Nat):xorL (r::rs)=r^^^xorL rs:=by
 show rs.foldl (fun m r=>m^^^r) (0^^^r)=_
 rw[FQ,Nat.zero_xor]
theorem IT(l:List Nat){i:Nat}(h:i<=l.length):qm (aA l) (some (i:Int)) none=aA (l.drop i):=by
 unfold qm;rw[HT.LD,HT.HW,aC,Nat.min_eq_left h];unfold aA;rw[<-List.map_drop,<-List.map_take,List.take_of_length_le (by rw[List.length_drop];lia)]
end Ring
namespace L2
open PySem PySem.Spec PyProof.Rows
section
variable {κ:Type}[DecidableEq κ]
def eE(kvs:List (κ×V))(k:κ):Option V:=(kvs.find? fun kv=>decide (kv.1=k)).map (·.2)
def putK(kvs:List (κ×V))(k:κ)(v:V):List (κ×V) :=
 if(kvs.any fun kv=>decide (kv.1=k))=true then kvs.map (fun kv=>if kv.1=k then(kv.1,v) else kv) else kvs++[(k,v)]
def dM(kvs:List (κ×V))(k:κ):List (κ×V):=kvs.filter fun kv=>decide (kv.1≠k)
theorem uK{k:κ}:eE ([]:List (κ×V)) k=none:=rfl
theorem cN{p:κ×V}{r:List (κ×V)}{k:κ}(e:p.1=k):eE (p::r) k=some p.2:=by simp[eE,List.find?_cons,e]
theorem cB{p:κ×V}{r:List (κ×V)}{k:κ}(e : ¬ p.1=k):eE (p::r) k=eE r k:=by simp[eE,List.find?_cons,e]
theorem iA(k:κ):∀ kvs:List (κ×V),(kvs.any fun kv=>decide (kv.1=k))=(eE kvs k).isSome
 | []=>rfl
 | p::r=>by
   rw[List.any_cons]
   by_cases e:p.1=k
   ·simp only[cN e,decide_eq_true e,Bool.true_or,Option.isSome_some]
   ·rw[cB e,decide_eq_false e,Bool.false_or];exact iA k r
theorem Ar(k j:κ)(y:V):∀ kvs:List (κ×V),eE (kvs.map fun kv=>if kv.1=k then(kv.1,y) else kv) j=(eE kvs j).map fun x=>if j=k then y else x
 | []=>rfl
 | p::r=>by
   have ih:=Ar k j y r;rw[List.map_cons]
   by_cases h:p.1=k
   ·rw[if_pos h]
    by_cases e:p.1=j
    ·rw[cN (p:=(p.1,y)) e,cN e,Option.map_some,if_pos (e.symm.trans h)]
    ·rw[cB (p:=(p.1,y)) e,cB e,ih]
   ·rw[if_neg h]
    by_cases e:p.1=j
    ·rw[cN (p:=p) e,cN e,Option.map_some,if_neg (fun z=>h (e.trans z))]
    ·rw[cB (p:=p) e,cB e,ih]
theorem xC(k j:κ)(y:V):∀ kvs:List (κ×V),eE kvs k=none->eE (kvs++[(k,y)]) j=if j=k then some y else eE kvs j
 | [],_=>by
   by_cases e:k=j
   ·rw[if_pos e.symm];exact cN (p:=(k,y)) e
   ·rw[if_neg (fun z=>e z.symm)];exact cB (p:=(k,y)) e
 | p::r,hn=>by
   rw[List.cons_append];have hk : ¬ p.1=k:=fun z=>by rw[cN z]at hn;cases hn
   rw[cB hk]at hn;have ih:=xC k j y r hn
   by_cases e:p.1=j
   ·rw[cN e,cN e,if_neg (fun z=>hk (e.trans z))]
   ·rw[cB e,cB e,ih]
theorem IU(kvs:List (κ×V))(k j:κ)(y:V):eE (putK kvs k y) j=if j=k then some y else eE kvs j:=by
 unfold putK
 by_cases a:(kvs.any fun kv=>decide (kv.1=k))=true
 ·rw[if_pos a,Ar];rw[iA]at a
  by_cases e:j=k
  ·obtain⟨x,hx⟩:=Option.isSome_iff_exists.mp a;rw[if_pos e,e,hx,Option.map_some,if_pos rfl]
  ·rw[if_neg e];cases eE kvs j with
   | none=>rfl
   | some x=>rw[Option.map_some,if_neg e]
 ·rw[if_neg a];refine xC k j y kvs ?_;rw[iA]at a;cases q:eE kvs k with
  | none=>rfl
  | some x=>rw[q]at a;exact(a rfl).elim
theorem sy(kvs:List (κ×V))(k:κ)(v:V):(putK kvs k v).length<=kvs.length+1:=by
 unfold putK
 split
 ·rw[List.length_map];lia
 ·rw[List.length_append,List.length_cons,List.length_nil];lia
theorem As{kvs:List (κ×V)}{k:κ}(v:V)(h:eE kvs k=none):putK kvs k v=kvs++[(k,v)]:=by
 unfold putK;rw[iA,h];exact if_neg (by decide)
theorem oQ.FT{o:Option V}{u:Option Value}(r:oQ o u):o.isSome=u.isSome:=by
 cases o with
 | none=>cases u with
   | none=>rfl
   | some _=>exact(show False from r).elim
 | some _=>cases u with
   | none=>exact(show False from r).elim
   | some _=>rfl
theorem oQ.getD{o:Option V}{u:Option Value}{d:V}{d' : Value}(r:oQ o u)(rd:RelV d d'):RelV (o.getD d) (u.getD d'):=by
 cases o with
 | none=>cases u with
   | none=>exact rd
   | some _=>exact(show False from r).elim
 | some _=>cases u with
   | none=>exact(show False from r).elim
   | some _=>exact r
theorem KV.val{kvs:List (κ×V)}{vs:List (κ×Value)}(r:KV kvs vs)(k:κ):oQ (eE kvs k) (valueAt vs k):=by
 unfold KV at r
 induction r with
 | nil=>exact True.intro
 | @cons p q ps qs h t ih =>
   obtain⟨h1,h2⟩:=h
   by_cases e:p.1=k
   ·have e' : q.1=k:=h1.symm.trans e;have b:valueAt (q::qs) k=some q.2:=by simp[valueAt,List.find?_cons,e']
    rw[cN e,b];exact h2
   ·have e' : ¬ q.1=k:=fun z=>e (h1.trans z)
    have b:valueAt (q::qs) k=valueAt qs k:=by simp[valueAt,List.find?_cons,e']
    rw[cB e,b];exact ih
theorem KV.any{kvs:List (κ×V)}{vs:List (κ×Value)}(r:KV kvs vs)(k:κ):(kvs.any fun kv=>decide (kv.1=k))=vs.any fun kv=>decide (kv.1=k):=by
 unfold KV at r
 induction r with
 | nil=>rfl
 | cons h t ih=>rw[List.any_cons,List.any_cons,ih,h.1]
theorem KV.repl{kvs:List (κ×V)}{vs:List (κ×Value)}(r:KV kvs vs)(k:κ){y:V}{u:Value}(ry:RelV y u):
 KV (kvs.map fun kv=>if kv.1=k then(kv.1,y) else kv) (vs.map fun kv=>if kv.1=k then(kv.1,u) else kv):=by
 unfold KV at r ⊢
 induction r with
 | nil=>exact .nil
 | @cons p q ps qs h t ih =>
   rw[List.map_cons,List.map_cons];refine .cons ?_ ih;obtain⟨h1,h2⟩:=h
   by_cases e:p.1=k
   ·rw[if_pos e,if_pos (h1.symm.trans e)];exact⟨h1,ry⟩
   ·rw[if_neg e,if_neg (fun z=>e (h1.trans z))];exact⟨h1,h2⟩
theorem KV.put{kvs:List (κ×V)}{vs:List (κ×Value)}(r:KV kvs vs)(k:κ){y:V}{u:Value}(ry:RelV y u):KV (putK kvs k y) (stored vs k u):=by
 unfold putK stored;rw[r.any k]
 by_cases e:(vs.any fun kv=>decide (kv.1=k))=true
 ·rw[if_pos e,if_pos e];exact r.repl k ry
 ·rw[if_neg e,if_neg e];exact Paired.snoc r ⟨rfl,ry⟩
theorem KV.length{kvs:List (κ×V)}{vs:List (κ×Value)}(r:KV kvs vs):kvs.length=vs.length:=Paired.length r
theorem IV(kvs:List (κ×V))(k:κ):(dM kvs k).length<=kvs.length:=List.length_filter_le _ _
end
theorem EF{P:Program}{w:World}{k:Key}{u:Value}(r:RelV (kV k) u):(dz P w).is k u=true:=by
 cases k with
 | inl i=>obtain⟨t,e⟩:=(show ∃ t,u=Value.int i t from r);subst e;exact zR P w i t
 | inr x=>obtain⟨t,e⟩:=(show ∃ t,u=Value.str x t from r);subst e;exact zS P w x t
theorem xD{P:Program}{w:World}:∀{ks:List Key} {us:List Value},Vals (ks.map kV) us->ItemsAre (dz P w) ks us
 | [],_,r=>by rw[List.map_nil]at r;cases r;exact .nil
 | k::ks,_,r=>by
   rw[List.map_cons]at r;cases r with
   | cons h t=>exact .cons (EF h) (xD t)
abbrev KT(H:Hp):List (List Key×V)->List (List Key×Addr×Value)->Prop:=Paired fun p q=>p.1=q.1/\H q.2.1=some (.tup (p.1.map kV))/\RelV p.2 q.2.2
theorem KT.val{H:Hp}{kvs:List (List Key×V)}{xs:List (List Key×Addr×Value)}(r:KT H kvs xs)(k:List Key):oQ (eE kvs k) ((atKey xs k).map (·.2)):=by
 induction r with
 | nil=>exact True.intro
 | @cons p q ps qs h t ih =>
   obtain⟨h1,_,h2⟩:=h
   by_cases e:p.1=k
   ·have e' : q.1=k:=h1.symm.trans e;have b:atKey (q::qs) k=some q.2:=by simp[atKey,List.find?_cons,e']
    rw[cN e,b];exact h2
   ·have e' : ¬ q.1=k:=fun z=>e (h1.trans z)
    have b:atKey (q::qs) k=atKey qs k:=by simp[atKey,List.find?_cons,e']
    rw[cB e,b];exact ih
theorem KT.repl{H:Hp}{kvs:List (List Key×V)}{xs:List (List Key×Addr×Value)}(r:KT H kvs xs)(k:List Key){y:V}{u:Value}(ry:RelV y u):
 KT H (kvs.map fun kv=>if kv.1=k then(kv.1,y) else kv) (xs.map (putAt k u)):=by
 induction r with
 | nil=>exact .nil
 | @cons p q ps qs h t ih =>
   rw[List.map_cons,List.map_cons];refine .cons ?_ ih;obtain⟨h1,h2,h3⟩:=h;unfold putAt
   by_cases e:p.1=k
   ·rw[if_pos e,if_pos (h1.symm.trans e)];exact⟨h1,h2,ry⟩
   ·rw[if_neg e,if_neg (fun z=>e (h1.trans z))];exact⟨h1,h2,h3⟩
theorem KT.put{H:Hp}{kvs:List (List Key×V)}{xs:List (List Key×Addr×Value)}(r:KT H kvs xs)(k:List Key){b:Addr}{y:V}{u:Value}(hb:H b=some (.tup (k.map kV)))(ry:RelV y u):
 KT H (putK kvs k y) (storedH xs k b u):=by
 have e:(kvs.any fun kv=>decide (kv.1=k))=(atKey xs k).isSome:=by
  rw[iA,(r.val k).FT,Option.isSome_map]
 unfold putK storedH;rw[e]
 by_cases q:(atKey xs k).isSome=true
 ·rw[if_pos q,if_pos q];exact r.repl k ry
 ·rw[if_neg q,if_neg q];exact Paired.snoc r ⟨rfl,hb,ry⟩
theorem KT.keeps{H H' : Hp}{kvs:List (List Key×V)}{xs:List (List Key×Addr×Value)}(r:KT H kvs xs)(ht:∀ b ys,H b=some (.tup ys)->H' b=some (.tup ys)):KT H' kvs xs :=
 Paired.yg r fun _ _ z=>⟨z.1,ht _ _ z.2.1,z.2.2⟩
section
variable {P:Program}{w:World}{H:Hp}{h:Heap}{a:Addr}
theorem Nh{u:HO}(ok:lU P w H h)(e:Rd H a u):br P w H h a u:=e.ok ok
theorem Au{kvs:List (Key×V)}(ok:lU P w H h)(e:Rd H a (.dK kvs)):kvs.length<=sizeLine/\(a==sysModules)=false/\∃ vs,KV kvs vs/\h.DictOf (dz P w) a vs :=
 show br P w H h a (.dK kvs) from Nh ok e
theorem Rz{kvs:List (Key×V)}(ok:lU P w H h)(e:H a=some (.dK kvs)):kvs.length<=sizeLine/\(a==sysModules)=false/\∃ vs,KV kvs vs/\h.DictOf (dz P w) a vs:=Au ok (.inl e)
theorem qA{ks:List Key}(ok:lU P w H h)(e:H a=some (.tup (ks.map kV))):(tupleKind (dz P w)).is h ks a:=by
 obtain⟨_,its,r,o,h1,h2,n,h3⟩:=(show br P w H h a (.tup (ks.map kV)) from ok a _ e)
 exact⟨o,its.toArray,n,h1,h2,h3,by simpa using xD r⟩
theorem Av{kvs:List (List Key×V)}(ok:lU P w H h)(e:Rd H a (.dT kvs)):kvs.length<=sizeLine/\(a==sysModules)=false/\
 ∃ xs,KT H kvs xs/\h.DictOfH (tupleKind (dz P w)) a xs:=by
 obtain⟨z,y,xs,r,o,es,ep,h1,h2,h3,h4,h5⟩:=(show br P w H h a (.dT kvs) from Nh ok e)
 refine⟨z,y,xs,r,o,es,ep,h1,h2,h3,h4,fun x hx=>?_,h5⟩
 have all:∀{l:List (List Key×V)} {m:List (List Key×Addr×Value)},KT H l m->∀ x∈m,(tupleKind (dz P w)).is h x.1 x.2.1:=by
  intro l m q
  induction q with
  | nil=>intro x hx;exact nomatch hx
  | @cons p q ps qs hq t ih =>
    intro x hx;rcases List.mem_cons.mp hx with e|hx
    ·subst e;exact qA ok (by rw[<-hq.1];exact hq.2.1)
    ·exact ih x hx
 exact all r x hx
theorem IW{kvs:List (List Key×V)}(ok:lU P w H h)(e:H a=some (.dT kvs)):kvs.length<=sizeLine/\(a==sysModules)=false/\
 ∃ xs,KT H kvs xs/\h.DictOfH (tupleKind (dz P w)) a xs:=Av ok (.inl e)
end
def IX(H:Hp)(a:Addr)(y:V)(r:Option V):Prop :=
 (∃ kvs k,Rd H a (.dK kvs)/\y=kV k/\r=eE kvs k)\/∃ kvs k b,Rd H a (.dT kvs)/\y = .ref b/\H b=some (.tup (k.map kV))/\r=eE kvs k
def IY(H:Hp)(a:Addr)(y v:V)(H' : Hp):Prop :=
 (∃ kvs k,H a=some (.dK kvs)/\y=kV k/\kvs.length<sizeLine/\H' = upd H a (.dK (putK kvs k v)))\/
 ∃ kvs k b,H a=some (.dT kvs)/\y = .ref b/\H b=some (.tup (k.map kV))/\kvs.length<sizeLine/\H' = upd H a (.dT (putK kvs k v))
theorem IY.t{H:Hp}{a b:Addr}{kvs:List (List Key×V)}{k:List Key}{v:V}(e:H a=some (.dT kvs))(eb:H b=some (.tup (k.map kV)))(hl:kvs.length<sizeLine):
 IY H a (.ref b) v (upd H a (.dT (putK kvs k v))):=.inr ⟨kvs,k,b,e,rfl,eb,hl,rfl⟩
section
variable {X:Cx}{pins:aV}{σ:St}{H:Hp}{s:Shared}{a:Addr}{y v:V}{u r:Value}{o:Option V}{A:Around}{E:dw}
theorem Inv.big(I:Inv X pins σ H s):sysModules<s.heap.objs.size:=by
 have h:mainGlobals<s.heap.objs.size:=(I.mod.glob.keeps I.bk).lt;exact Nat.lt_trans (by decide) h
theorem FU{Q:dw}(hu:A.units+1<cLine)(I:Inv X pins σ H s)(g:IX H a y (some v))(ry:RelV y u)(h:∀ w' s',Inv X pins σ H s'->RelV v w'->Q w' s'):
 wpAny (model X.prog X.w) A (getItem (.ref a) u) Q E s:=by
 rcases g with⟨kvs,k,e,ey,l⟩|⟨kvs,k,b,e,ey,eb,l⟩
 ·subst ey;obtain⟨z,hd,vs,rel,dd⟩:=Au I.hok e;obtain⟨w',hw,rw'⟩:=oQ.some_of (v:=v) (o:=valueAt vs k) (by rw[l];exact rel.val k)
  exact wpAny_getItem_of (EF ry) dd.mapOf hw (h w' _ (I.tok _) rw')
 ·subst ey;cases(show u=Value.ref b from ry)
  obtain⟨z,hd,xs,rel,dd⟩:=Av I.hok e;obtain⟨w',hw,rw'⟩:=oQ.some_of (v:=v) (o:=(atKey xs k).map (·.2)) (by rw[l];exact rel.val k)
  obtain⟨p,hp,Qa⟩:=Option.map_eq_some_iff.mp hw;refine wpAny_getItem_heap (tupleKind_room_in1 hu) (qA I.hok eb) dd hp ?_;rw[Qa];exact h w' _ (I.tok _) rw'
theorem tI{h' : Heap}{t' : Nat}{ob:HO}(I:Inv X pins σ H s)(mu:Qz (H a))(hs:Heap.SameBut a s.heap h')(he:∃ q,h'.get? a=some q)(new:br X.prog X.w (upd H a ob) h' a ob):
 Inv X pins σ (upd H a ob) { s with heap:=h',toks:=t'} :=
 I.write (x:=a) (e:=a) mu (.inl rfl) (fun b q hb z=>(hs.2 b hb).trans z) he new
theorem OH{P:Program}{w:World}{H' : Hp}{h' : Heap}{kvs:List (Key×V)}{vs:List (Key×Value)}(z:kvs.length<=sizeLine)(hd:(a==sysModules)=false)(rel:KV kvs vs)(dd:h'.DictOf (dz P w) a vs):
 br P w H' h' a (.dK kvs):=⟨z,hd,vs,rel,dd⟩
theorem FW{H' : Hp}{Q:Unit->Shared->Prop}(hu:A.units+1<cLine)(I:Inv X pins σ H s)(g:IY H a y v H')(ry:RelV y u)(rv:RelV v r)(h:∀ s',Inv X pins σ H' s'->Q () s'):
 wpAny (model X.prog X.w) A (setItem (.ref a) u r) Q E s:=by
 rcases g with⟨kvs,k,e,ey,l,eH⟩|⟨kvs,k,b,e,ey,eb,l,eH⟩
 ·subst ey eH;obtain⟨z,hd,vs,rel,dd⟩:=Rz I.hok e;have hz:vs.length<=sizeLine:=by rw[<-rel.length];exact z
  have hl:(putK kvs k v).length<=sizeLine:=by have:=sy kvs k v;lia
  refine wpAny_setItem_pairs (hsz:=hz) (EF ry) dd fun h' Qe hs=>h _ ?_
  have he:∃ q,h'.get? a=some q:=let⟨q,_,_,hq,_⟩:=Qe;⟨q,hq⟩;exact tI I (by rw[e];exact True.intro) hs he (OH hl hd (rel.put k rv) Qe)
 ·subst ey eH;cases(show u=Value.ref b from ry)
  obtain⟨z,hd,xs,rel,dd⟩:=IW I.hok e;have hz:xs.length<=sizeLine:=by rw[<-Paired.length rel];exact z
  have hl:(putK kvs k v).length<=sizeLine:=by have:=sy kvs k v;lia
  refine wpAny_setItem_heap (hsz:=hz) (tupleKind_room_in1 hu) (qA I.hok eb) dd fun h' Qe hs=>h _ ?_
  obtain⟨q,es,ep,hq,h2,h3,h4,_,h5⟩:=Qe;refine tI I (by rw[e];exact True.intro) hs ⟨q,hq⟩ ⟨hl,hd,_,(rel.put k eb rv).keeps fun c ys ec=>?_,q,es,ep,hq,h2,h3,h4,h5⟩
  rw[aq (aW ec e (fun z=>nomatch z))]
  exact ec
end
def RA(i:Expr):Prop:=∀ ov iv,subscripted i false ov iv=operate [ov,iv] (getItem ov iv)
theorem L8{prog:Program}{w:World}{A:Around}{E:dw}{s:Shared}{env:Env}{value slice:Expr}{pos:Pos}{T id:String}{Q:dw}
 (hl:typeLookup (.type T) "__getitem__"=pure (some (.builtin id))) (hs:RA slice)
 (h:wpAny (model prog w) A (eval value env) (fun o s₁=>wpAny (model prog w) A (eval slice env) (fun i s₂=>s₂.TypeIs o T/\wpAny (model prog w) A (getItem o i) Q E s₂) E s₁) E s) :
 wpAny (model prog w) A (eval (.Subscript value slice pos) env) Q E s:=by
 refine Subscript_ (wpAny_mono h (fun o s₁ h₁=>wpAny_mono h₁ (fun i s₂ h₂=>?_) fun _ _ x=>x) fun _ _ x=>x)
 obtain⟨hT,h₂⟩:=h₂;unfold subscriptTail;refine wpAny_bind ?_;rw[getitemInPython_of_ne hT.not_modules];refine wpAny_bind (wpAny_specialOf hT hl ?_);have fin:wpAny (model prog w) A (subscripted slice false o i) (fun r s₃=>wpAny (model prog w) A (letTemporaryGo value o r >>= fun _=>pure r) Q E s₃) E s₂:=by
  rw[hs o i];exact wpAny_operating (wpAny_mono h₂ (fun r s₃ h₃=>wpAny_bind (wpAny_letTemporaryGo (wpAny_pure h₃))) fun _ _ x=>x)
 first
  | exact wpAny_pure (wpAny_bind fin)
  | exact wpAny_bind (wpAny_pure (wpAny_bind fin))
  | exact wpAny_bind fin
theorem Aw{X:Cx}{pins:aV}{σ:St}{H:Hp}{s:Shared}{a:Addr}{y:V}{o:Option V}(I:Inv X pins σ H s)(g:IX H a y o):s.TypeIs (.ref a) "dict":=by
 rcases g with⟨kvs,k,e,_,_⟩|⟨kvs,k,b,e,_,_,_⟩
 ·obtain⟨_,_,vs,_,dd⟩:=Au I.hok e;exact dd.typeIs
 ·obtain⟨_,_,xs,_,dd⟩:=Av I.hok e;exact dd.typeIs
def RB(td ty:TE):TE:=fun σ H Q=>td σ H fun x H1=>ty σ H1 fun y H2=>∃ a v,x = .ref a/\IX H2 a y (some v)/\Q v H2
def RC(td ty tv:TE):TS:=fun D σ H=>tv σ H fun v H1=>td σ H1 fun x H2=>ty σ H2 fun y H3=>∃ a H4,x = .ref a/\IY H3 a y v H4/\D.nx σ H4
section
variable {X:Cx}{o i e value:Expr}{pos pos' tpos:Pos}{td ty tv:TE}
theorem Ma(hu:X.A.units+1<cLine)(ho:PE X o td)(hi:PE X i ty)(hs:RA i):PE X (.Subscript o i pos) (RB td ty):=by
 intro pins s σ H Q I h;refine L8 PySem.F.slot_dict_getitem.lookup hs (dB (ho pins s σ H _ I h) fun u s1 ⟨x,H1,I1,rx,q1⟩=>dB (hi pins s1 σ H1 _ I1 q1) fun iv s2 ⟨y,H2,I2,ry,a,v,ex,g,q2⟩=>?_)
 subst ex;obtain rfl:u=Value.ref a:=rx;exact⟨Aw I2 g,FU hu I2 g ry fun w' s3 I3 rw'=>⟨v,H2,I3,rw',q2⟩⟩
theorem Mb(hu:X.A.units+1<cLine)(ho:PE X o td)(hi:PE X i ty)(hv:PE X value tv)(hs:swapsWith value (some (.Subscript o i pos')) pos.line X.env=pure false):
 PS X (.Assign [.Subscript o i pos'] value pos) (RC td ty tv):=by
 intro pins s σ H D I h;refine wpAny_Assign_Subscript (dB (hv pins s σ H _ I h) fun r s1 ⟨v,H1,I1,rv,q1⟩=>dB (ho pins s1 σ H1 _ I1 q1) fun u s2 ⟨x,H2,I2,rx,q2⟩=>dB (hi pins s2 σ H2 _ I2 q2) fun iv s3 ⟨y,H3,I3,ry,a,H4,ex,g,q3⟩=>?_) hs
 subst ex;obtain rfl:u=Value.ref a:=rx;exact FW hu I3 g ry rv fun s4 I4=>⟨σ,H4,I4,q3⟩
end
theorem IZ{P:Program}{w:World}{H:Hp}(h:Heap)(hb:sysModules<h.objs.size):br P w H (h.push { cls:=.type "dict",data:=.dict #[]}) h.objs.size (.dT []) :=
 ⟨Nat.zero_le _,beq_eq_false_iff_ne.mpr (Ne.symm (Nat.ne_of_lt hb)),[],.nil,_,#[],0,Heap.get?_push_size _ rfl,⟨rfl,rfl,rfl⟩,rfl,rfl,List.nodup_nil⟩
structure M1(X:Cx)(o:Expr)(m:Str)(apos:Pos)(e:Expr)(cpos:Pos):Prop where
 base:attributeBase o m X.env (eval o X.env)=eval o X.env
 few:((backTo cpos (starEach [e] X.env)).all (fun x=>!x.1)&&(backToKw cpos (keywordEach [] X.env)).all (fun x=>x.1.isSome)
  && decide (([e]:List Expr).length+([]:List Keyword).length+(if([]:List Keyword).isEmpty then 0 else 1)<30))=true
 line:(apos.endLine==cpos.line)=true
 trees:backTo cpos (starEach [e] X.env)=[(false,eval e X.env)]
structure M2(X:Cx)(o:Expr)(m:Str)(apos:Pos)(e f:Expr)(cpos:Pos):Prop where
 base:attributeBase o m X.env (eval o X.env)=eval o X.env
 few:((backTo cpos (starEach [e,f] X.env)).all (fun x=>!x.1)&&(backToKw cpos (keywordEach [] X.env)).all (fun x=>x.1.isSome)
  && decide (([e,f]:List Expr).length+([]:List Keyword).length+(if([]:List Keyword).isEmpty then 0 else 1)<30))=true
 line:(apos.endLine==cpos.line)=true
 trees:backTo cpos (starEach [e,f] X.env)=[(false,eval e X.env),(false,eval f X.env)]
def Vi(H:Hp)(a:Addr):Prop:=(∃ kvs,Rd H a (.dK kvs))\/∃ kvs,Rd H a (.dT kvs)
theorem Ja{X:Cx}{pins:aV}{σ:St}{H:Hp}{s:Shared}{a:Addr}(I:Inv X pins σ H s)(d:Vi H a):
 s.TypeIs (.ref a) "dict"/\(∀ b,Value.ref a = .ref b->∃ ob,s.heap.get? b=some ob/\ob.dict=none)/\(a==sysModules)=false:=by
 rcases d with⟨kvs,e⟩|⟨kvs,e⟩
 ·obtain⟨_,hd,vs,_,dd⟩:=Au I.hok e;refine⟨dd.typeIs,fun b q=>?_,hd⟩
  cases q;obtain⟨ob,_,_,h1,h2,_⟩:=dd;exact⟨ob,h1,h2.2.1⟩
 ·obtain⟨_,hd,xs,_,dd⟩:=Av I.hok e;refine⟨dd.typeIs,fun b q=>?_,hd⟩
  cases q;obtain⟨ob,_,_,h1,h2,_⟩:=dd;exact⟨ob,h1,h2.2.1⟩
section
variable {X:Cx}{pins:aV}{σ:St}{H:Hp}{s:Shared}{a:Addr}{y d:V}{u r:Value}{o:Option V}{A:Around}{E:dw}
theorem OI{Q:dw}(hu:A.units+1<cLine)(I:Inv X pins σ H s)(g:IX H a y o)(ry:RelV y u)(rd:RelV d r)(h:∀ w' s',Inv X pins σ H s'->RelV (o.getD d) w'->Q w' s'):
 wpAny (model X.prog X.w) A (call (.builtin "dict.get") [.ref a,u,r]) Q E s:=by
 rcases g with⟨kvs,k,e,ey,l⟩|⟨kvs,k,b,e,ey,eb,l⟩
 ·subst ey;obtain⟨z,hd,vs,rel,dd⟩:=Au I.hok e;refine call_meetsIn PySem.F.slot_dict_get dd.typeIs PySem.F.entry_dict_get (PySem.F.args_dict_get_3 _ _ _) (meets_dict_get_default (dz X.prog X.w) a (EF ry) hd r) ⟨_,dd.mapOf,h _ _ (I.tok _) ?_⟩;rw[l];exact(rel.val k).getD rd
 ·subst ey;cases(show u=Value.ref b from ry)
  obtain⟨z,hd,xs,rel,dd⟩:=Av I.hok e;refine call_meetsIn PySem.F.slot_dict_get dd.typeIs PySem.F.entry_dict_get (PySem.F.args_dict_get_3 _ _ _) (meetsH_dict_get_default (tupleKind (dz X.prog X.w)) a b hd r) ⟨tupleKind_room_in1 hu,k,xs,qA I.hok eb,dd,h _ _ (I.tok _) ?_⟩;rw[l];exact(rel.val k).getD rd
end
def OJ(td ty tx:TE):TE:=fun σ H Q=>td σ H fun x H1=>∃ a,x = .ref a/\Vi H1 a/\ty σ H1 fun y H2=>tx σ H2 fun z H3=>∃ o,IX H3 a y o/\Q (o.getD z) H3
section
variable {X:Cx}{o e f:Expr}{apos cpos:Pos}{td ty tx:TE}
theorem Jb(hu:X.A.units+1<cLine)(ho:PE X o td)(he:PE X e ty)(hf:PE X f tx)(m:M2 X o "get" apos e f cpos):PE X (.Call (.Attribute o "get" apos) [e,f] [] cpos) (OJ td ty tx):=by
 intro pins s σ H Q I h;refine wpAny_Call_method m.base m.few m.line PySem.F.plainAttrs_dict PySem.F.slot_dict_get PySem.F.type_dict_get (dB (ho pins s σ H _ I h) fun u s1 ⟨x,H1,I1,rx,a,ex,d,q1⟩=>?_)
 subst ex;obtain rfl:u=Value.ref a:=rx;obtain⟨t1,t2,_⟩:=Ja I1 d;refine⟨t1,t2,?_⟩;rw[m.trees];refine Calls.callWith_builtin rfl (Calls.evalArgs_plain (Calls.spliced_cons (dB (he pins s1 σ H1 _ I1 q1) fun iv s2 ⟨y,H2,I2,ry,q2⟩ =>
  Calls.spliced_cons (dB (hf pins s2 σ H2 _ I2 q2) fun fv s3 ⟨z,H3,I3,rz,ov,g,q3⟩=>Calls.spliced_nil ?_))))
 exact OI hu I3 g ry rz fun w' s4 I4 rw'=>⟨_,H3,I4,rw',q3⟩
end
section
variable {κ:Type}[DecidableEq κ]
theorem Jc{kvs:List (κ×V)}{k:κ}(h:eE kvs k=none): ¬ k∈kvs.map (·.1):=by
 intro m;obtain⟨p,hp,e⟩:=List.mem_map.mp m;have q:(kvs.any fun kv=>decide (kv.1=k))=true:=List.any_eq_true.mpr ⟨p,hp,decide_eq_true e⟩
 rw[iA,h]at q;exact absurd q (by simp)
theorem Mc{kvs:List (κ×V)}{k:κ}{v:V}(h:eE kvs k=some v):k∈kvs.map (·.1):=by
 have q:(kvs.any fun kv=>decide (kv.1=k))=true:=by
  rw[iA,h]
  all_goals rfl
 obtain⟨p,hp,e⟩:=List.any_eq_true.mp q;exact List.mem_map.mpr ⟨p,hp,of_decide_eq_true e⟩
theorem EG:∀{l:List κ} {k:κ},l.Nodup->¬ k∈l->(l++[k]).Nodup
 | [],k,_,_=>by simp
 | a::r,k,h,hk=>by
   obtain⟨h1,h2⟩:=List.nodup_cons.mp h;show(a::(r++[k])).Nodup;refine List.nodup_cons.mpr ⟨fun m=>?_,EG h2 fun m=>hk (List.mem_cons.mpr (Or.inr m))⟩
   rcases List.mem_append.mp m with q|q
   ·exact h1 q
   ·exact hk (List.mem_cons.mpr (Or.inl (List.mem_singleton.mp q).symm))
theorem Me{kvs:List (κ×V)}{k:κ}(v:V)(hn:(kvs.map (·.1)).Nodup)(h:eE kvs k=none):((putK kvs k v).map (·.1)).Nodup:=by
 rw[As v h,List.map_append];exact EG hn (Jc h)
theorem xE{p:κ×V}{r:List (κ×V)}{k:κ}(e:p.1=k):dM (p::r) k=dM r k:=by
 unfold dM;rw[List.filter_cons,if_neg (by simp[e])]
theorem xF{p:κ×V}{r:List (κ×V)}{k:κ}(e : ¬ p.1=k):dM (p::r) k=p::dM r k:=by
 unfold dM;rw[List.filter_cons,if_pos (by simp[e])]
theorem xG{kvs:List (κ×V)}{k:κ}{p:κ×V}(h:p∈dM kvs k):p∈kvs:=(List.mem_filter.mp h).1
theorem uL:∀{kvs:List (κ×V)} {k:κ},(kvs.map (·.1)).Nodup->((dM kvs k).map (·.1)).Nodup
 | [],_,_=>List.nodup_nil
 | p::r,k,h=>by
   have h:(p.1::r.map (·.1)).Nodup:=h;obtain⟨h1,h2⟩:=List.nodup_cons.mp h
   by_cases e:p.1=k
   ·rw[xE e];exact uL h2
   ·rw[xF e];show(p.1::(dM r k).map (·.1)).Nodup;refine List.nodup_cons.mpr ⟨fun m=>h1 ?_,uL h2⟩
    obtain⟨q,hq,eq⟩:=List.mem_map.mp m;exact List.mem_map.mpr ⟨q,xG hq,eq⟩
end
end L2
namespace Ring
open PySem L2
end Ring
namespace L2
open PySem PySem.Spec PyProof.Rows
end L2
namespace RM
variable {N:Net}
end RM
namespace Ring
open PySem L2
end Ring
namespace L2
open PySem PySem.Spec PyProof.Rows
end L2
namespace Ring
open PySem L2
end Ring
namespace L2
open PySem PySem.Spec PyProof.Rows
end L2
namespace Ring
open PySem L2
end Ring
namespace L2
open PySem PySem.Spec PyProof.Rows
theorem FY{K:bK}{a:Addr}{xs:List V}{g:TG}{tb:TS}{D:Ends}{σ:St}{H:Hp}(Pv:Nat->St->Hp->Prop)(h0:Pv 0 σ H)(hl:∀ i σ H,i<=xs.length->Pv i σ H->aP K H a xs)
 (hs:∀ i x T σ H,xs[i]?=some x->Pv i σ H->H T=none->g (.ref T) σ (upd H T (.tup [.int (i:Int),x])) fun σ2 H2=>tb { D with nx:=Pv (i+1),ct:=Pv (i+1),bk:=D.nx} σ2 H2) (hd:∀ σ H,Pv xs.length σ H->D.nx σ H) :
 ∃ W:Nat->Nat->St->Hp->Prop,(∃ m,W 0 m σ H)/\∀ i m σ H,W i m σ H->
   ((FN K a).stop i H/\D.nx σ H)\/((FN K a).go i H/\∃ N:St->Hp->Prop,(∀ σ' H',N σ' H'->∃ m',m'<m/\W (i+1) m' σ' H')/\∀ x H',(FN K a).HJ i H x H'->g x σ H' fun σ2 H2=>tb { D with nx:=N,ct:=N,bk:=D.nx} σ2 H2):=by
 refine⟨fun i m σ H=>m=xs.length-i/\i<=xs.length/\Pv i σ H,⟨xs.length,by simp,Nat.zero_le _,h0⟩,?_⟩
 rintro i m σ H ⟨rfl,hi,p⟩;have q:=hl i σ H hi p
 by_cases hlt:i<xs.length
 ·refine .inr ⟨⟨xs,xs[i],q,by simp[hlt]⟩,Pv (i+1),fun σ' H' p'=>⟨xs.length-(i+1),by lia,rfl,hlt,p'⟩,fun v H' y=>?_⟩
  obtain⟨T,x,rfl,hT,rfl,y1⟩:=y;exact hs i x T σ _ (y1 xs q) p hT
 ·have e:i=xs.length:=by lia
  subst e;exact .inl ⟨⟨xs,q,rfl⟩,hd σ H p⟩
end L2
namespace Ring
open PySem L2
def oV:Option Int->V
 | none=>.eM
 | some i=>.int i
abbrev Pr:=Option Int×Option Int
def sel(q:Pr)(u:Bool):Option Int:=if u=true then q.2 else q.1
def uM:Option Int->Option Int->Int->Bool
 | none,none,_=>true
 | none,some _,_=>false
 | some _,none,_=>false
 | some x,some y,l=>decide ((if x-y<0 then -(x-y) else x-y)<=l)
def iO(R:List Pr)(i:Nat):Pr:=R.getD i (none,none)
def OL(R:List Pr)(t:dJ)(u:Bool):Bool:=uM (iO R t.1.toNat).1 (sel (iO R t.2.1.toNat) u) t.2.2&&uM (iO R t.1.toNat).2 (sel (iO R t.2.1.toNat) (!u)) t.2.2
def RD(ts:List dJ)(m i:Nat)(R:List Pr):Prop:=(iO R i).1=some 0/\∀ k,k<ts.length->OL R (bL ts k) (m.testBit k)=true
def CC(p:Nat)(ts:List dJ)(m:Nat)(W:List (List Pr)):Prop:=∀ i,i<p->RD ts m i (W.getD i [])
def gV(H:Hp)(x:V)(q:Pr):Prop:=∃ b,x = .ref b/\H b=some (.tup [oV q.1,oV q.2])
def RowW(H:Hp)(x:V)(R:List Pr):Prop:=∃ b ys,x = .ref b/\H b=some (.tup ys)/\Paired (gV H) ys R
def fE(H:Hp)(b:Addr)(W:List (List Pr)):Prop:=∃ ys,H b=some (.tup ys)/\Paired (RowW H) ys W
def FZ(p:Nat)(W:List (List Pr)):Prop:=W.length=p/\∀ R∈W,R.length=p
theorem gV.same{H H' : Hp}(s:av H H'){x:V}{q:Pr}(h:gV H x q):gV H' x q:=let⟨b,e,z⟩:=h;⟨b,e,s _ _ z⟩
theorem RowW.same{H H' : Hp}(s:av H H'){x:V}{R:List Pr}(h:RowW H x R):RowW H' x R:=let⟨b,ys,e,z,pr⟩:=h;⟨b,ys,e,s _ _ z,Paired.imp' (fun _ _ z=>z.same s) pr⟩
theorem fE.same{H H' : Hp}(s:av H H'){b:Addr}{W:List (List Pr)}(h:fE H b W):fE H' b W:=let⟨ys,z,pr⟩:=h;⟨ys,s _ _ z,Paired.imp' (fun _ _ z=>z.same s) pr⟩
theorem gV.tups{H H' : Hp}(s:c6 H H'){x:V}{q:Pr}(h:gV H x q):gV H' x q:=let⟨b,e,z⟩:=h;⟨b,e,s _ _ z⟩
theorem RowW.tups{H H' : Hp}(s:c6 H H'){x:V}{R:List Pr}(h:RowW H x R):RowW H' x R:=let⟨b,ys,e,z,pr⟩:=h;⟨b,ys,e,s _ _ z,Paired.imp' (fun _ _ z=>z.tups s) pr⟩
theorem gW{α β:Type}{F:α->β->Prop}{l:List α}{r:List β}(pr:Paired F l r){i:Nat}(h:i<r.length)(d:β):∃ x,l[i]?=some x/\F x (r.getD i d):=by
 have hl:i<l.length:=by rw[pr.length];exact h
 obtain⟨y,hy,hf⟩:=Paired.kc pr (i:=i) (x:=l[i]) (by simp[hl])
 refine⟨l[i],by simp[hl],?_⟩
 rw[List.getD_eq_getElem?_getD,hy];exact hf
theorem RowW.at{H:Hp}{ys:List V}{R:List Pr}(pr:Paired (gV H) ys R){i:Nat}(h:i<R.length):∃ b,ys[i]?=some (.ref b)/\H b=some (.tup [oV (iO R i).1,oV (iO R i).2]):=by
 obtain⟨x,hx,b,rfl,hb⟩:=gW pr h (none,none);exact⟨b,hx,hb⟩
theorem FZ.row{p:Nat}{W:List (List Pr)}(h:FZ p W){i:Nat}(hi:i<p):(W.getD i []).length=p:=by
 have hl:i<W.length:=by rw[h.1];exact hi
 rw[List.getD_eq_getElem?_getD];simp only[hl,List.getElem?_eq_getElem,Option.getD_some];exact h.2 _ (List.getElem_mem hl)
end Ring
namespace L2
open PySem PySem.Spec PyProof.Rows
end L2
namespace RM
variable {N:Net}{m t0:Nat}
def Net.Tz(N:Net)(t v:Nat):Nat:=if N.a t=v then N.b t else N.a t
def Net.qB(N:Net)(left v:Nat):List Nat:=(List.range N.n).filter fun t=>left.testBit t&&(decide (N.a t=v) || decide (N.b t=v))
theorem jn{left v t:Nat}:t∈N.qB left v↔t<N.n/\left.testBit t=true/\(N.a t=v\/N.b t=v):=by
 unfold Net.qB;rw[List.mem_filter,List.mem_range,Bool.and_eq_true,Bool.or_eq_true,decide_eq_true_eq,decide_eq_true_eq]
inductive Wk(N:Net)(m t0:Nat):List (Nat×Int)->Nat->Nat->Prop
 | start:Wk N m t0 [(t0,1)] (N.b t0) (m^^^2^t0)
 | next {acc:List (Nat×Int)} {v left t:Nat} (h:Wk N m t0 acc v left) (h0:left≠0) (ht:(N.qB left v)[0]?=some t):Wk N m t0 (acc++[(t,if N.a t=v then 1 else -1)]) (N.Tz t v) (left^^^2^t)
theorem Ax{t v:Nat}(h:N.a t=v\/N.b t=v):(N.a t=v/\N.b t=N.Tz t v)\/(N.b t=v/\N.a t=N.Tz t v):=by
 unfold Net.Tz
 by_cases e:N.a t=v
 ·rw[if_pos e];exact .inl ⟨e,rfl⟩
 ·rw[if_neg e];rcases h with h|h
  ·exact absurd h e
  ·exact .inr ⟨h,rfl⟩
theorem Jd{pre ks:List Nat}{v left:Nat}(h:Way N m pre v ks left)(hz:∀ k,m.testBit k=true->k∈ks):left=0:=by
 apply Nat.eq_of_testBit_eq;intro k;rw[h.pJ,Nat.zero_testBit];cases hb:m.testBit k with
 | false=>rfl
 | true=>rw[decide_eq_true (hz k hb)];rfl
theorem xH{pre ks:List Nat}{v left:Nat}(r:N.Ring m)(h:Way N m pre v ks left)(h0:left≠0):v∉pre:=fun hv=>by
 obtain⟨i,hi⟩:=List.getElem?_of_mem hv;obtain⟨q0,qe,_,qs⟩:=h.closes hi;rcases r.2.2 _ qs qe with z|z
 ·exact q0 z
 ·refine h0 (Jd h fun k hk=>?_)
  rw[<-z,Ring.iN]at hk;exact List.mem_of_mem_drop (of_decide_eq_true hk)
theorem OM(hm:m<2^N.n)(r:N.Ring m)(hb:m.testBit t0=true){acc:List (Nat×Int)}{v left:Nat}(h:Wk N m t0 acc v left):∃ pre,Way N m pre v (acc.map (·.1)) left/\pre[0]?=some (N.a t0):=by
 induction h with
 | start =>
   refine⟨[N.a t0],?_,rfl⟩;exact(Way.start hm r.2.1 hb).go (by simp) hb (.inl ⟨rfl,rfl⟩)
 | next h h0 ht ih =>
   obtain⟨pre,w,p0⟩:=ih;have hm2:=jn.mp (List.mem_of_getElem? ht);refine⟨_,by rw[List.map_append];exact w.go (xH r w h0) hm2.2.1 (Ax hm2.2.2),?_⟩
   rw[List.getElem?_append_left (by have:=(List.getElem?_eq_some_iff.mp p0).1;exact this)]
   exact p0
theorem RE(hm:m<2^N.n)(r:N.Ring m)(hb:m.testBit t0=true){acc:List (Nat×Int)}{v left:Nat}(h:Wk N m t0 acc v left)(h0:left≠0):∃ t,(N.qB left v)[0]?=some t:=by
 obtain⟨pre,w,_⟩:=OM hm r hb h;obtain⟨t,h1,h2⟩:=w.on (xH r w h0);have ht:t<N.n:=cD w.L7 h1;have hmem:t∈N.qB left v:=jn.mpr ⟨ht,h1,h2⟩;cases e:N.qB left v with
 | nil=>rw[e]at hmem;cases hmem
 | cons x l=>exact⟨x,rfl⟩
theorem Ay{left t n:Nat}(ht:t<n)(hb:left.testBit t=true):cnt (fun j=>left.testBit j) n=cnt (fun j=>(left^^^2^t).testBit j) n+1 :=
 ux (h:=t) hb ht fun x _=>by
  rw[Nat.testBit_xor,Nat.testBit_two_pow]
  by_cases e:x=t
  ·subst e;simp[hb]
  ·rw[decide_eq_false e,decide_eq_false (fun z=>e z.symm)]
   simp
theorem yC(hm:m<2^N.n)(hb:m.testBit t0=true){acc:List (Nat×Int)}{v left:Nat}(h:Wk N m t0 acc v left):acc.length+cnt (fun j=>left.testBit j) N.n=cnt (fun j=>m.testBit j) N.n:=by
 induction h with
 | start =>
   have:=Ay (cD hm hb) hb;show 1+_=_
   lia
 | next h h0 ht ih =>
   have hm2:=jn.mp (List.mem_of_getElem? ht);have:=Ay hm2.1 hm2.2.1;rw[List.length_append,List.length_singleton]
   lia
variable {N:Net}{m t0:Nat}
def Net.D2(N:Net)(m:Nat):Prop:=∀ x,x<N.p->N.dg m x=0\/N.dg m x=2
theorem D2.gU(h:N.D2 m):N.fk m:=fun x hx=>by
 rw[IQ];refine decide_eq_false ?_;rcases h x hx with e|e<;>lia
theorem Je(C:Nat->Bool):∀ n,sm (fun x=>if C x=true then 2 else 0) n=2*cnt C n:=fun n=>by
 rw[iG];have:sm (fun k=>if C k=true then 2 else 0) n=sm (fun k=>(if C k=true then 1 else 0)+(if C k=true then 1 else 0)) n:=fD fun k _=>by
  by_cases h:C k=true
  ·rw[if_pos h,if_pos h]
  ·rw[if_neg h,if_neg h]
 rw[this,qy]
 lia
theorem Mf(hm:m<2^N.n)(r:N.Ring m):N.D2 m:=by
 obtain⟨k0,hk0,hb0,hall⟩:=n5 hm r;generalize hs:N.aM (fun k=>m.testBit k) N.n (N.a k0)=s at hall
 have hC:∀ x,x<N.p->(fun x=>decide (N.aM (fun k=>m.testBit k) N.n x=s)) x=decide (N.aM (fun k=>m.testBit k) N.n x=s):=fun x _=>rfl
 obtain⟨h2,hl,FH⟩:=Al (s:=s) hm r _ hC (fun k hk hb=>decide_eq_true (hall k hk hb))
 generalize hCC:(fun x=>decide (N.aM (fun k=>m.testBit k) N.n x=s))=C at hC h2 hl FH
 have none:∀ x,x<N.p->C x=false->N.dg m x=0:=fun x hx hc=>by
  cases hz:N.dg m x with
  | zero=>rfl
  | succ d =>
    exfalso
    obtain⟨k,hk,hb,Lf⟩:=pH (N:=N) (m:=m) (x:=x) (by lia)
    rw[hC x hx]at hc;refine of_decide_eq_false hc ?_;rcases Lf with e|e
    ·rw[<-e];exact hall k hk hb
    ·rw[<-e,<-iz (S:=fun k=>m.testBit k) hk hb]
     exact hall k hk hb
 have pos:∀ x,x<N.p->C x=true->0<N.dg m x:=fun x hx hc=>by
  cases hz:N.dg m x with
  | succ d=>lia
  | zero =>
    exfalso
    obtain⟨y,hy,Nf,hne⟩:∃ y,y<N.p/\C y=true/\y≠x:=by
     obtain⟨c,d,h1,h3,h4,h5⟩:=m5 h2
     by_cases e:c=x
     ·exact⟨d,h3,h5,by lia⟩
     ·exact⟨c,by lia,h4,e⟩
    rw[hC x hx]at hc;rw[hC y hy]at Nf;exact hne (alone hz (bQ _ _ _ ((of_decide_eq_true hc).trans (of_decide_eq_true Nf).symm)))
 have hle:∀ x,x<N.p->(if C x=true then 2 else 0)<=N.dg m x:=fun x hx=>by
  by_cases hc:C x=true
  ·rw[if_pos hc];have h1:=pos x hx hc;have h3:=tG r.2.1 hx
   lia
  ·rw[if_neg hc];exact Nat.zero_le _
 have he:sm (fun x=>if C x=true then 2 else 0) N.p=sm (fun x=>N.dg m x) N.p:=by
  rw[Je,yx,hl]
 intro x hx;have:=IP hle he x hx
 by_cases hc:C x=true
 ·rw[if_pos hc]at this;exact .inr this.symm
 ·rw[if_neg hc]at this;exact .inl this.symm
theorem Mg(hb:m.testBit t0=true){acc:List (Nat×Int)}{v left:Nat}(h:Wk N m t0 acc v left):∀ k,left.testBit k=(m.testBit k && !decide (k∈acc.map (·.1))):=by
 induction h with
 | start =>
   intro k;rw[Nat.testBit_xor,Nat.testBit_two_pow]
   by_cases e:t0=k
   ·subst e;simp[hb]
   ·have e' : ¬ k=t0:=fun z=>e z.symm
    simp[e,e']
 | @next acc v left t h h0 ht ih =>
   intro k;have hm2:=jn.mp (List.mem_of_getElem? ht);have hin:=hm2.2.1;rw[ih t]at hin;rw[Nat.testBit_xor,Nat.testBit_two_pow,ih k,List.map_append]
   by_cases e:t=k
   ·subst e;rw[hin];simp
   ·have e' : ¬ k=t:=fun z=>e z.symm
    have e3:(k∈acc.map (·.1)++[(t,if N.a t=v then(1:Int) else -1)].map (·.1))↔k∈acc.map (·.1):=by simp[e']
    rw[show decide (k∈acc.map (·.1)++[(t,if N.a t=v then(1:Int) else -1)].map (·.1))=decide (k∈acc.map (·.1)) from decide_eq_decide.mpr e3]
    simp[e]
theorem CD(hm:m<2^N.n)(hb:m.testBit t0=true){acc:List (Nat×Int)}{v left:Nat}(h:Wk N m t0 acc v left):left<2^N.n:=cM fun k hk=>by
 rw[Mg hb h k,Bool.and_eq_true]at hk;exact cD hm hk.1
theorem Jf{left n:Nat}(hl:left<2^n):cnt (fun j=>left.testBit j) n=0↔left=0:=by
 constructor
 ·intro h;apply Classical.byContradiction;intro h0;obtain⟨j,hj⟩:=Nat.exists_testBit_of_ne_zero h0;have:=m4 (f:=fun j=>left.testBit j) hj (cD hl hj)
  lia
 ·rintro rfl;rw[iG];refine(fD fun k _=>?_).trans (tE n)
  rw[if_neg (by rw[Nat.zero_testBit];simp)]
theorem Mh(hm:m<2^N.n)(hb:m.testBit t0=true){acc:List (Nat×Int)}{v left:Nat}(h:Wk N m t0 acc v left):acc.length=cnt (fun j=>m.testBit j) N.n↔left=0:=by
 have:=yC hm hb h;rw[<-Jf (CD hm hb h)]
 lia
end RM
namespace Ring
open PySem L2
theorem qC{H:Hp}{xs:List V}{p:Nat}{ts:List dJ}{g:aE p ts}{k:Nat}(h3:Paired (TupAt H) xs ts)(hk:k<ts.length):∃ c,xs[k]?=some (.ref c)/\H c=some (.tup [.int ((g.N.a k:Nat):Int),.int ((g.N.b k:Nat):Int),.int (bL ts k).2.2]):=by
 have hkx:k<xs.length:=by rw[h3.length];exact hk
 obtain⟨t,ht,c,hc,hct⟩:=Paired.kc h3 (i:=k) (x:=xs[k]) (by simp[hkx])
 have RG:t=bL ts k:=by
  have z:=qw hk;rw[ht]at z;exact Option.some.inj z
 refine⟨c,by rw[<-hc];simp[hkx],?_⟩
 rw[hct,<-Er hk,<-Es hk,RG];rfl
end Ring
namespace RM
variable {N:Net}{row:Nat->Int}
end RM
namespace Ring
open PySem L2
end Ring
namespace RM
variable {N:Net}{row:Nat->Int}
variable {N:Net}{row ZP:Nat->Int}
theorem F0{m t0:Nat}(hm:m<2^N.n)(r:N.Ring m)(hb:m.testBit t0=true):∃ acc v,Wk N m t0 acc v 0:=by
 have key:∀(k:Nat) (acc:List (Nat×Int)) (v left:Nat),Wk N m t0 acc v left->cnt (fun j=>left.testBit j) N.n=k->∃ acc v,Wk N m t0 acc v 0:=by
  intro k
  induction k with
  | zero =>
    intro acc v left h e;have hl:=yC hm hb h;rw[e]at hl;have h0:=(Mh hm hb h).mp hl;subst h0;exact⟨acc,v,h⟩
  | succ k ih =>
    intro acc v left h e
    by_cases h0:left=0
    ·subst h0;exact⟨acc,v,h⟩
    ·obtain⟨t,ht⟩:=RE hm r hb h h0;have h':=Wk.next h h0 ht;have l1:=yC hm hb h;have l2:=yC hm hb h';rw[List.length_append]at l2;refine ih _ _ _ h' ?_;have e1:[((t:Nat),(if N.a t=v then(1:Int) else -1))].length=1:=rfl
     lia
 exact key _ _ _ _ .start rfl
variable {N' : Net}
end RM
namespace L2
open PySem PySem.Spec PyProof.Rows PySem.W
def vY(n:Nat){α:Type}(R:α->Prop):KasT α->Prop
 | .ret a=>R a
 | .ask i j k=>i<n/\j<n/\∀ b,vY n R (k b)
theorem vY.bind{n:Nat}{α β:Type}{R:α->Prop}{R' : β->Prop}{f:α->KasT β}:∀{t:KasT α},vY n R t->(∀ a,R a->vY n R' (f a))->vY n R' (t.bind f)
 | .ret a,h,g=>by
   rw[KasT.bind.eq_1];exact g a h
 | .ask i j k,h,g=>by
   rw[KasT.bind.eq_2];exact⟨h.1,h.2.1,fun b=>vY.bind (h.2.2 b) g⟩
def dh(n:Nat)(p:Array Nat):Prop:=p.toList.Perm (List.range n)
theorem dh.at{n:Nat}{p:Array Nat}(h:dh n p)(hn:0<n)(x:Nat):p.getD x 0<n:=by
 unfold Array.getD
 split
 ·rename_i hx
  have:p[x]∈p.toList:=by simp
  exact List.mem_range.mp (h.mem_iff.mp this)
 ·exact hn
theorem F1{n:Nat}{p:Array Nat}(h:dh n p)(i j:Nat):dh n (p.swapIfInBounds i j):=by
 unfold Array.swapIfInBounds
 split
 ·split
  ·exact(Array.perm_iff_toList_perm.mp (Array.swap_perm _ _)).trans h
  ·exact h
 ·exact h
theorem qD{n:Nat}(f g:Nat->Nat):∀(l:List Nat) {p:Array Nat},dh n p->dh n (l.foldl (fun a k=>a.swapIfInBounds (f k) (g k)) p)
 | [],_,h=>h
 | k::l,_,h=>qD f g l (F1 h (f k) (g k))
theorem mq{n:Nat}{p:Array Nat}(h:dh n p)(i j:Nat):dh n (kas_rev p i j):=qD _ _ _ h
theorem Jg{n:Nat}{p:Array Nat}(h:dh n p)(i j:Nat):dh n (bubble p i j):=qD _ _ _ h
theorem CF{n:Nat}{p:Array Nat}(h:dh n p)(hn:0<n):∀ f x,vY n (fun _=>True) (kas_asc p f x)
 | 0,x=>by
   rw[kas_asc.eq_1];trivial
 | f+1,x=>by
   rw[kas_asc.eq_2];refine⟨h.at hn _,h.at hn _,fun b=>?_⟩
   cases b with
   | true=>trivial
   | false=>exact CF h hn f (x+1)
theorem tJ{n:Nat}(hn:0<n):∀ f {p:Array Nat} (x q:Nat),dh n p->vY n (fun r:Array Nat×Nat×Nat=>dh n r.1) (kas_desc f p x q)
 | 0,p,x,q,h=>by
   rw[kas_desc.eq_1];exact h
 | f+1,p,x,q,h=>by
   rw[kas_desc.eq_2];refine⟨h.at hn _,h.at hn _,fun b=>?_⟩
   cases b with
   | true =>
     show vY n _ (if q > 0 then _ else _)
     by_cases hq:q > 0
     ·rw[if_pos hq];exact tJ hn f _ _ (mq h _ _)
     ·rw[if_neg hq];exact tJ hn f _ _ h
   | false =>
     refine⟨h.at hn _,h.at hn _,fun b=>?_⟩
     cases b with
     | true=>exact h
     | false=>exact tJ hn f _ _ h
theorem EH{n:Nat}(hn:0<n){p:Array Nat}(h:dh n p)(x r:Nat):vY n (fun r:Nat×Array Nat=>dh n r.2) (kas_tail3 x r p) :=
 vY.bind (CF (mq h _ _) hn _ _) fun _ _=>mq h _ _
theorem EI{n:Nat}(hn:0<n){p:Array Nat}(h:dh n p)(x r:Nat):vY n (fun r:Nat×Array Nat=>dh n r.2) (kas_descPart x r p):=by
 refine vY.bind (tJ hn _ _ _ h) fun y hy=>?_
 by_cases hq:y.2.2 > 0
 ·rw[if_pos hq];exact EH hn (mq hy _ _) _ _
 ·rw[if_neg hq];exact EH hn hy _ _
theorem Jh{n:Nat}(hn:0<n){p:Array Nat}(h:dh n p)(r:Nat):vY n (fun r:Nat×Array Nat=>dh n r.2) (kas_count r p):=by
 refine vY.bind (CF h hn _ _) fun y _=>?_
 by_cases h1:(y==r)=true
 ·rw[if_pos h1];exact h
 ·rw[if_neg h1]
  by_cases h2:y > 1
  ·rw[if_pos h2];refine⟨h.at hn _,h.at hn _,fun b=>?_⟩
   cases b with
   | true=>exact h
   | false=>exact EI hn (mq h _ _) _ _
  ·rw[if_neg h2];exact EI hn h _ _
theorem uN{n:Nat}(hn:0<n){p:Array Nat}(h:dh n p)(k:Nat):∀ f x y,vY n (fun _=>True) (kas_place p k f x y)
 | 0,x,y=>by
   rw[kas_place.eq_1];trivial
 | f+1,x,y=>by
   rw[kas_place.eq_2]
   by_cases hx:x ≥ y
   ·rw[if_pos hx];trivial
   ·rw[if_neg hx];refine⟨h.at hn _,h.at hn _,fun b=>?_⟩
    cases b with
    | true=>exact uN hn h k f _ _
    | false=>exact uN hn h k f _ _
theorem Ji{n:Nat}(hn:0<n):∀ f {p:Array Nat} (x:Nat),dh n p->vY n (dh n) (kas_bin f p x)
 | 0,p,x,h=>by
   rw[kas_bin.eq_1];exact h
 | f+1,p,x,h=>by
   rw[kas_bin.eq_2];exact vY.bind (uN hn h _ _ _ _) fun l _=>Ji hn f _ (Jg h _ _)
theorem EJ{n:Nat}(hn:0<n):vY n (dh n) (kas_sort n):=by
 unfold kas_sort;have h0:dh n (List.range n).toArray:=by unfold dh;simp
 refine vY.bind (Jh hn h0 n) fun r hr=>?_
 by_cases hx:r.1<n
 ·rw[if_pos hx];exact Ji hn _ _ hr
 ·rw[if_neg hx];exact hr
def Ni(h:Heap)(v:Value):Prop:=∃(a:Addr) (o:Obj) (x y:Int) (t u:Tok) (k:Nat),v = .ref a/\h.get? a=some o/\o.cls = .type "tuple"/\o.data = .seq #[.int x t,.int y u] k
theorem xJ{prog:Program}{w:World}{A:Around}{E:dw}{s:Shared}{vs:List Value}{Q:SortKind->Shared->Prop}(hn:0<vs.length)(hv:∀ v∈vs,Ni s.heap v)(q:Q (tuples' true) s):wpAny (model prog w) A (keyKind' vs.toArray) Q E s:=by
 obtain⟨fs,hl,hf,hk⟩:∃ fs:List Value,fs.length=vs.length/\(∀ v∈fs,∃ x t,v=Value.int x t)/\KatTups s.heap vs fs:=by
  clear q hn
  induction vs with
  | nil=>exact⟨[],rfl,fun v hv=>(by cases hv),by rw[KatTups.eq_1];trivial⟩
  | cons v vs ih =>
    obtain⟨fs,h1,h2,h3⟩:=ih fun v Jj=>hv v (List.mem_cons_of_mem _ Jj)
    obtain⟨a,o,x,y,t,u,k,e,ho,hc,hd⟩:=hv v List.mem_cons_self;refine⟨.int x t::fs,by simp[h1],fun v' Jj=>?_,?_⟩
    ·rcases List.mem_cons.mp Jj with rfl|Jj
     ·exact⟨x,t,rfl⟩
     ·exact h2 v' Jj
    ·rw[KatTups.eq_2];exact⟨⟨a,o,_,k,e,ho,hc,hd,rfl⟩,h3⟩
 refine kat_kind (T:=.type "int") hk (by lia) (fun v hv=>?_) (by decide) q
 obtain⟨x,t,rfl⟩:=hf v hv;intro A Q E s _ q;exact wpAny_pure q
section
variable {X:Cx}{pins:aV}{σ:St}{H:Hp}{s:Shared}{h' : Heap}
theorem Inv.RH{a:Addr}{o:HO}{t' : Nat}(I:Inv X pins σ H s)(k:∀ b u,b≠X.env.locals->s.heap.get? b=some u->h'.get? b=some u)(ns:∀ m,s.heap.Ns X.env.locals m->h'.Ns X.env.locals m)(hp:s.heap.objs.size<=a)(new:br X.prog X.w (upd H a o) h' a o):
 Inv X pins σ (upd H a o) { s with heap:=h',toks:=t'}:=by
 have hn:H a=none:=I.hok.fresh hp;have nl:∀ b u,H b=some u->b≠X.env.locals:=fun b u e z=>by
  rw[z,I.free]at e;cases e
 refine I.step (g':=s.gens) (d':=s.drawn) (ch:=[]) (fun b hb=>absurd hb List.not_mem_nil) (fun b o hb _ _ e _=>k b o hb e) (fun b o hb _ _ e _=>⟨o.slots,k b o hb e⟩) (fun b u _ e n=>?_) (fun b o _ e=>?_) (fun b xs e=>?_) (fun b u xs e=>?_) (fun b ps e=>?_) ns (fun b u e=>?_) I.bare
 ·rw[aq (Nat.ne_of_lt (Nat.lt_of_lt_of_le (Heap.lt_size e) hp))];exact n
 ·by_cases hb:b=X.env.locals
  ·subst hb;obtain⟨m,hm,_⟩:=I.loc;obtain⟨o',es,ep,e',_⟩:=ns m hm;exact⟨o',e'⟩
  ·exact⟨o,k b o hb e⟩
 ·rw[aq (bg e hn)];exact e
 ·rw[aq (bg e hn)];exact e
 ·exact⟨#[],by rw[aq (bg e hn),e];simp⟩
 ·by_cases hb:b=a
  ·subst hb;rw[ae]at e;cases e;exact new
  ·rw[aq hb]at e;refine(I.hok b u e).stay (fun c v hc q=>k c v ?_ q) (fun c q=>by rw[aq (bg q hn)];exact q) fun c xs q=>by rw[aq (bg q hn)];exact q
   rcases hc with rfl|hc
   ·exact nl _ _ e
   ·exact nl _ _ hc
theorem ON{h:Heap}{L:Addr}{m m' : lT}(a:h.Ns L m)(b:h.Ns L m'):m=m':=by
 obtain⟨o,es,ep,e,d,_,f⟩:=a;obtain⟨o',es',DV,e',d',_,f'⟩:=b;rw[e]at e';cases e';rw[d]at d';cases d'
 funext x
 rw[<-f x,f' x]
end
theorem Jk{prog:Program}{w:World}{A:Around}{E:dw}{s:Shared}{a:Addr}{its:List Value}{n0:Nat}{P:PySem.Fin->Shared->Prop}(ho:s.heap.get? a=some (seqObj "list" its.toArray n0))(hn:its.length<2)
 (q:P (PySem.Fin.done (PySem.Flow.ret PySem.Value.none)) { s with heap:=sortedHeap s.heap a its its.toArray}):wpAny (model prog w) A (PySem.Builtin.«list.sort» { pos:=[PySem.Value.ref a]}) P E s:=by
 have hs1:its.length<=1000:=by lia
 have ht:its.toArray.size<=sizeLine:=by
  rw[List.size_toArray];exact dl (Nat.ble_eq.mpr hs1)
 rw[list_sort_plain];refine wpAny_bind (listItems_at ho rfl ?_);refine wpAny_bind (listUpdate_at ho rfl ?_ ht (Nat.zero_le _));obtain⟨n1,Ld⟩:∃ n1,(s.heap.update a (Obj.mapSeq fun _=>#[])).get? a=some (seqObj "list" #[] n1):=by
  exact⟨_,get?_update_seq ho fun _=>#[]⟩
 refine wpAny_bind (seqEpoch_at Ld rfl ?_);refine wpAny_bind (wpAny_newTuple ?_ (by simpa using ht))
 refine wpAny_bind (wpAny_newList ?_ (Nat.zero_le _));refine wpAny_holding ?_;have hsz:its.toArray.size<2:=by simpa using hn
 simp only[hsz,↓reduceIte];refine wpAny_bind (wpAny_pure ?_);refine wpAny_bind (m:=pure ((),SortSt.mk' general' (its.toArray.zip its.toArray) #[] 7 none)) (wpAny_pure ?_);have WY:(((s.heap.update a (Obj.mapSeq fun x=>#[])).push { cls:=Value.type "tuple",data:=Data.seq its.toArray}).push { cls:=Value.type "list",data:=Data.seq #[]}).get? a=some (seqObj "list" #[] n1):=by
  have h1:=Heap.lt_size Ld;rw[Heap.get?_push_ne _ _ _ (Nat.ne_of_lt (by rw[size_push'];exact Nat.lt_succ_of_lt h1)),Heap.get?_push_ne _ _ _ (Nat.ne_of_lt h1)]
  exact Ld
 refine wpAny_bind (seqEpoch_at WY rfl ?_);refine wpAny_bind (listUpdate_at WY rfl ?_ (Nat.zero_le _) ?_)
 ·show wpAny _ _ (if(n1 != n1)=true then _ else ret Value.none) _ _ _
  rw[if_neg (by simp)]
  refine wpAny_pure ?_;have e:Array.map (fun x:Keyed=>x.snd) (its.toArray.zip its.toArray)=its.toArray:=by
   simp;exact List.map_snd_zip (Nat.le_refl _)
  have e2:Array.map (fun x:Keyed=>x.snd) (arrOf (SortSt.mk' general' (its.toArray.zip its.toArray) #[] 7 none))=its.toArray:=e
  rw[e2];exact q
 ·have e:Array.map (fun x:Keyed=>x.snd) (its.toArray.zip its.toArray)=its.toArray:=by
   simp;exact List.map_snd_zip (Nat.le_refl _)
  have e2:Array.map (fun x:Keyed=>x.snd) (arrOf (SortSt.mk' general' (its.toArray.zip its.toArray) #[] 7 none))=its.toArray:=e
  show(Array.map (fun x:Keyed=>x.snd) (arrOf (SortSt.mk' general' (its.toArray.zip its.toArray) #[] 7 none))).size<=_
  rw[e2];exact Nat.le_succ_of_le ht
end L2
namespace RM
variable {N:Net}{row:Nat->Int}
variable {N:Net}{row:Nat->Int}
variable {N:Net}{m t0:Nat}
variable {N N' : Net}
end RM
namespace Ring
open PySem L2
end Ring
namespace RM
variable {N:Net}
variable {N:Net}
variable {N:Net}
theorem OO{m x0:Nat}(hm:m<2^N.n)(d2:N.D2 m)(Lg:x0<N.p)(hd0:N.dg m x0=2):
 N.Ring m↔∀ x,x<N.p->(N.aM (fun k=>m.testBit k) N.n x=N.aM (fun k=>m.testBit k) N.n x0↔N.dg m x=2):=by
 constructor
 ·intro r x hx;obtain⟨k0,hk0,hb0,hall⟩:=n5 hm r;have on:∀ y,y<N.p->N.dg m y=2->N.aM (fun k=>m.testBit k) N.n y=N.aM (fun k=>m.testBit k) N.n (N.a k0):=fun y hy hd=>by
   obtain⟨k,hk,hb,Lf⟩:=pH (N:=N) (m:=m) (x:=y) (by lia)
   rw[<-hall k hk hb];rcases Lf with e|e
   ·rw[e]
   ·rw[<-e];exact(iz (S:=fun k=>m.testBit k) hk hb).symm
  constructor
  ·intro e;rcases d2 x hx with z|z
   ·exfalso
    have:=alone z (bQ _ _ _ e);rw[this]at hd0
    lia
   ·exact z
  ·intro hd;rw[on x hx hd,on x0 Lg hd0]
 ·intro h;have hpos:∀ k,k<N.n->m.testBit k=true->N.aM (fun k=>m.testBit k) N.n (N.a k)=N.aM (fun k=>m.testBit k) N.n x0:=fun k hk hb=>by
   refine(h _ (N.al k hk)).mpr ?_;have h1:=uH hk hb (.inl rfl);rcases d2 _ (N.al k hk) with z|z
   ·lia
   ·exact z
  have hs:sm (fun x=>N.dg m x) N.p=2*cnt (fun x=>decide (N.aM (fun k=>m.testBit k) N.n x=N.aM (fun k=>m.testBit k) N.n x0)) N.p:=by
   rw[<-Je];refine fD fun x hx=>?_
   by_cases e:N.aM (fun k=>m.testBit k) N.n x=N.aM (fun k=>m.testBit k) N.n x0
   ·rw[if_pos (decide_eq_true e)];exact(h x hx).mp e
   ·rw[if_neg (by rw[decide_eq_false e];decide)]
    rcases d2 x hx with z|z
    ·exact z
    ·exact absurd ((h x hx).mpr z) e
  have hl:cnt (fun x=>decide (N.aM (fun k=>m.testBit k) N.n x=N.aM (fun k=>m.testBit k) N.n x0)) N.p=cnt (fun k=>m.testBit k) N.n:=by
   rw[yx]at hs
   lia
  refine EB hm (D2.gU d2) (fun x=>decide (N.aM (fun k=>m.testBit k) N.n x=N.aM (fun k=>m.testBit k) N.n x0)) (fun x _=>rfl) ?_ (fun k hk hb=>decide_eq_true (hpos k hk hb)) hl
  rw[hl];have:N.dg m x0<=cnt (fun k=>m.testBit k) N.n:=Ct fun k _ hk=>(Bool.and_eq_true_iff.mp hk).1
  lia
inductive Sp(B:List Nat):Nat->Prop
 | zero:Sp B 0
 | add {x b:Nat} (h:Sp B x) (hb:b∈B):Sp B (x^^^b)
section
variable {B C:List Nat}{x y b:Nat}
theorem Sp.mem(h:b∈B):Sp B b:=by
 have:=Sp.add .zero h;rw[Nat.zero_xor]at this;exact this
theorem Sp.xor(h:Sp B x)(h' : Sp B y):Sp B (x^^^y):=by
 induction h' with
 | zero=>rw[Nat.xor_zero];exact h
 | add _ hb ih=>rw[<-Nat.xor_assoc];exact .add ih hb
theorem Sp.mono(h:Sp B x)(hc:∀ b∈B,Sp C b):Sp C x:=by
 induction h with
 | zero=>exact .zero
 | add _ hb ih=>exact ih.xor (hc _ hb)
theorem gX(x b:Nat):x^^^b^^^b=x:=by rw[Nat.xor_assoc,Nat.xor_self,Nat.xor_zero]
theorem Sp.mw:Sp (b::B) x↔Sp B x\/Sp B (x^^^b):=by
 constructor
 ·intro h
  induction h with
  | zero=>exact .inl .zero
  | add h hc ih =>
    rename_i x c
    rcases List.mem_cons.mp hc with e|e
    ·subst e;rcases ih with ih|ih
     ·exact .inr (by rw[gX];exact ih)
     ·exact .inl ih
    ·rcases ih with ih|ih
     ·exact .inl (.add ih e)
     ·exact .inr (by rw[Nat.xor_assoc,Nat.xor_comm c,<-Nat.xor_assoc];exact .add ih e)
 ·rintro(h|h)
  ·exact h.mono fun c hc=>.mem (List.mem_cons_of_mem _ hc)
  ·have h2:Sp (b::B) (x^^^b):=h.mono fun c hc=>.mem (List.mem_cons_of_mem _ hc)
   have:=h2.add (b:=b) List.mem_cons_self;rw[gX]at this;exact this
theorem Sp.off{t:Nat}(h:Sp B x)(hz:∀ b∈B,b.testBit t=false):x.testBit t=false:=by
 induction h with
 | zero=>exact Nat.zero_testBit t
 | add _ hb ih=>rw[Nat.testBit_xor,ih,hz _ hb];rfl
theorem Sp.lt{n:Nat}(h:Sp B x)(hz:∀ b∈B,b<2^n):x<2^n:=by
 induction h with
 | zero=>exact Nat.two_pow_pos n
 | add _ hb ih=>exact Nat.xor_lt_two_pow ih (hz _ hb)
end
inductive Jl:List (Nat×Nat)->Prop
 | nil:Jl []
 | cons {t r:Nat} {rest:List (Nat×Nat)} (h:Jl rest) (hr:r.testBit t=true) (hz:∀ q∈rest,q.2.testBit t=false):Jl ((t,r)::rest)
def iH(rows:List (Nat×Nat))(x:Nat):Nat:=rows.foldl (fun x q=>if x.testBit q.1=true then x^^^q.2 else x) x
section
variable {rows:List (Nat×Nat)}{x t:Nat}
theorem yD(rows:List (Nat×Nat)):∀ x,Sp (rows.map (·.2)) (x^^^iH rows x):=by
 induction rows with
 | nil=>intro x;show Sp [] (x^^^x);rw[Nat.xor_self];exact .zero
 | cons q rest ih =>
   intro x;show Sp (q.2::rest.map (·.2)) (x^^^iH rest (if x.testBit q.1=true then x^^^q.2 else x))
   have h:=ih (if x.testBit q.1=true then x^^^q.2 else x)
   by_cases e:x.testBit q.1=true
   ·rw[if_pos e]at h ⊢;refine Sp.mw.mpr (.inr ?_);rw[Nat.xor_assoc,Nat.xor_comm _ q.2,<-Nat.xor_assoc];exact h
   ·rw[if_neg e]at h ⊢;exact Sp.mw.mpr (.inl h)
theorem F3(hz:∀ q∈rows,q.2.testBit t=false):∀{x},x.testBit t=false->(iH rows x).testBit t=false:=by
 induction rows with
 | nil=>intro x h;exact h
 | cons q rest ih =>
   intro x h;have h2:(if x.testBit q.1=true then x^^^q.2 else x).testBit t=false:=by
    by_cases e:x.testBit q.1=true
    ·rw[if_pos e,Nat.testBit_xor,h,hz q List.mem_cons_self];rfl
    ·rw[if_neg e];exact h
   exact ih (fun q' hq=>hz q' (List.mem_cons_of_mem _ hq)) h2
theorem qF(h:Jl rows):∀ x,∀ q∈rows,(iH rows x).testBit q.1=false:=by
 induction h with
 | nil=>intro x q hq;cases hq
 | cons h hr hz ih =>
   rename_i t r rest
   intro x q hq;show(iH rest (if x.testBit t=true then x^^^r else x)).testBit q.1=false
   rcases List.mem_cons.mp hq with e|e
   ·subst e;refine F3 hz ?_
    by_cases e:x.testBit t=true
    ·rw[if_pos e,Nat.testBit_xor,e,hr];rfl
    ·rw[if_neg e];exact Bool.eq_false_iff.mpr e
   ·exact ih _ q e
theorem Jm(h:Jl rows):∀{x},Sp (rows.map (·.2)) x->(∀ q∈rows,x.testBit q.1=false)->x=0:=by
 induction h with
 | nil=>intro x hs _;cases hs with
   | zero=>rfl
   | add _ hb=>cases hb
 | cons h hr hz ih =>
   rename_i t r rest
   intro x hs hx;have off:∀ y,Sp (rest.map (·.2)) y->y.testBit t=false:=fun y hy=>hy.off fun b hb=>by
    obtain⟨q,hq,rfl⟩:=List.mem_map.mp hb;exact hz q hq
   rcases Sp.mw.mp hs with hs|hs
   ·exact ih hs fun q hq=>hx q (List.mem_cons_of_mem _ hq)
   ·exfalso
    have h1:=off _ hs;have h2:=hx (t,r) List.mem_cons_self;rw[Nat.testBit_xor]at h1;have h2:x.testBit t=false:=h2;rw[h2,hr]at h1;cases h1
theorem xK(h:Jl rows)(x:Nat):iH rows x=0↔Sp (rows.map (·.2)) x:=by
 have hs:=yD rows x
 constructor
 ·intro e;rw[e,Nat.xor_zero]at hs;exact hs
 ·intro hx;refine Jm h ?_ (qF h x);have:=hx.xor hs;rw[<-Nat.xor_assoc,Nat.xor_self,Nat.zero_xor]at this;exact this
end
open Classical in
open Classical in
theorem yE{x:Nat}(h:x≠0):x.testBit x.log2=true:=Nat.testBit_log2 h
theorem Mi{x b:Nat}(hb:b≠0):min x (x^^^b)=if x.testBit b.log2=true then x^^^b else x:=by
 have ht:=yE hb;have hlt:b<2^(b.log2+1):=Nat.lt_log2_self;rw[Nat.pow_succ]at hlt;have e:=Ring.yu x b
 by_cases h:x.testBit b.log2=true
 ·rw[if_pos h];have h1:2^b.log2<=x&&&b:=Nat.ge_two_pow_of_testBit (by rw[Nat.testBit_and,h,ht];rfl)
  lia
 ·rw[if_neg h];have h':=Bool.eq_false_iff.mpr h;have e2:=Ring.yu b (2^b.log2);have e3:b&&&2^b.log2=2^b.log2:=Nat.eq_of_testBit_eq fun j=>by
   rw[Nat.testBit_and,Nat.testBit_two_pow]
   by_cases z:b.log2=j
   ·rw[<-z,ht];simp
   ·simp[z]
  have e4:x&&&b=x&&&(b^^^2^b.log2):=Nat.eq_of_testBit_eq fun j=>by
   rw[Nat.testBit_and,Nat.testBit_and,Nat.testBit_xor,Nat.testBit_two_pow]
   by_cases z:b.log2=j
   ·rw[<-z,h'];simp
   ·simp[z]
  have h1:x&&&(b^^^2^b.log2)<=b^^^2^b.log2:=Nat.and_le_right;have h2:x&&&b<2^b.log2:=cM fun j hj=>by
   rw[Nat.testBit_and]at hj;obtain⟨j1,j2⟩:=Bool.and_eq_true_iff.mp hj;have h3:j≠b.log2:=fun z=>by rw[z,h']at j1;cases j1
   have h4:=cD (m:=b) (n:=b.log2+1) (by rw[Nat.pow_succ];exact hlt) j2
   lia
  lia
open Ring (xorL xorL_cons maskOf)
variable {N:Net}
theorem F4:N.aU.Nodup:=List.Pairwise.filter _ List.nodup_range
theorem xM{c:Nat}(hc:c<N.n)(hf:N.l9 c=false):N.Ring (N.ring c):=by
 refine⟨fun z=>?_,m3 hc,fun q hq ev=>?_⟩
 ·have h:=uw hf;rw[z]at h;simp at h
 ·have hqn:q<2^N.n:=cM fun k hk=>cD (tD hc) (hq k hk)
  cases qc:q.testBit c with
  | true =>
    refine .inr (II hqn (tD hc) ev (m3 hc) fun d hd hfd=>?_)
    rw[nZ hf hfd]
    by_cases e:c=d
    ·subst e;simp[qc]
    ·rw[decide_eq_false e];cases qd:q.testBit d with
     | false=>rfl
     | true =>
       have:=hq d qd;rw[nZ hf hfd,decide_eq_false e]at this;cases this
  | false =>
    refine .inl (gv (fun k hk=>?_) ev)
    rcases mh (hq k hk) with e|e
    ·subst e;rw[qc]at hk;cases hk
    ·exact e
end RM
namespace L2
open PySem PySem.Spec PyProof.Rows
section
variable {X:Cx}
theorem EK:∀{bs:List Bool} {its:List Value},Vals (bs.map V.bl) its->its=bs.map Value.bool
 | [],_,.nil=>rfl
 | b::bs,_,.cons r rr=>by
   cases r;rw[EK rr];rfl
theorem CG:∀ bs:List Bool,((List.range bs.length).all fun i=>(bs[i]?).getD true)=bs.all id:=fun bs=>by
 rw[Bool.eq_iff_iff,List.all_eq_true,List.all_eq_true]
 constructor
 ·intro h b hb;obtain⟨i,hi,e⟩:=List.getElem_of_mem hb;have:=h i (List.mem_range.mpr hi);rw[List.getElem?_eq_getElem hi,e]at this;exact this
 ·intro h i hi;have hi:=List.mem_range.mp hi;rw[List.getElem?_eq_getElem hi];exact h _ (List.getElem_mem hi)
theorem Vj(K:bK)(hc:X.calm=true)(hK:X.K=K:=by rfl):fC X (.builtin "all") (fun xs H Q=>∃(p:Addr) (bs:List Bool),xs=[.ref p]/\aO K H p (bs.map V.bl)/\Q (.bl (bs.all id)) H):=by
 subst hK;intro pins s σ H xs us Q I r h;obtain⟨p,bs,rfl,hq,q⟩:=h;obtain⟨u,rfl,rx⟩:=vals1 r;cases rx;obtain⟨its,rv,pl,hz⟩:=I.list hq;obtain rfl:=EK rv;have lt:p<s.heap.objs.size:=by obtain⟨_,e,_⟩:=pl.isList;exact Heap.lt_size e
 refine call_all_walk (wpAny_pyIter_list pl.isList ⟨_,[_,p],[_],_,_,_,fun i=>(bs[i]?).getD true,rfl,Walks.list (A:=X.A.in1) (I.ok.hd hc) _ p (Nat.ne_of_lt lt) _,
  ⟨⟨_,Heap.get?_push_size _ rfl,rfl,rfl⟩,pl.isList.push _⟩,fun i v s' Q' E' hP hQ=>?_,fun h' tk hk=>?_⟩)
 ·have hP:(bs.map Value.bool)[i]?=some v:=by simpa using hP
  rw[List.getElem?_map]at hP;obtain⟨b,e,rfl⟩:=Option.map_eq_some_iff.mp hP;simp only[e,Option.getD_some]at hQ;exact wpAny_truthy_bool hQ
 ·have z:(bs.map Value.bool).toArray.size=bs.length:=by simp
  rw[z,CG];refine⟨.bl _,H,I.kept fun b o e=>hk b o (fun hm=>?_) (Heap.get?_push_of_some _ e),rfl,q⟩
  rw[List.mem_singleton.mp hm]at e;exact Nat.lt_irrefl _ (Heap.lt_size e)
end
end L2
namespace RM
def lsum(L:Nat->Int)(f:Nat->Bool):Nat->Int
 | 0=>0
 | n+1=>lsum L f n+(if f n=true then L n else 0)
section
variable {L:Nat->Int}
theorem n6{f g:Nat->Bool}:∀{n:Nat},(∀ k,k<n->f k=g k)->lsum L f n=lsum L g n
 | 0,_=>rfl
 | n+1,h=>by
   unfold lsum;rw[n6 fun k hk=>h k (by lia),h n (by lia)]
theorem qG{f:Nat->Bool}:∀{n:Nat},(∀ k,k<n->f k=false)->lsum L f n=0
 | 0,_=>rfl
 | n+1,h=>by
   unfold lsum;rw[qG fun k hk=>h k (by lia),h n (by lia)]
   simp
theorem Az{f:Nat->Bool}{a:Nat}:∀{n:Nat},a<n->(∀ k,k<n->f k=decide (k=a))->lsum L f n=L a
 | 0,h,_=>by lia
 | n+1,ha,h=>by
   unfold lsum
   by_cases e:a=n
   ·subst e;rw[qG fun k hk=>by rw[h k (by lia)];exact decide_eq_false (by lia),h a (by lia),decide_eq_true rfl]
    simp
   ·rw[Az (show a<n by lia) fun k hk=>h k (by lia),h n (by lia),decide_eq_false (by lia)]
    simp
theorem m7{f g:Nat->Bool}:∀{n:Nat},(∀ k,k<n->0<=L k)->(∀ k,k<n->f k=true->g k=true)->lsum L f n<=lsum L g n
 | 0,_,_=>Int.le_refl _
 | n+1,hL,h=>by
   unfold lsum;have ih:=m7 (n:=n) (fun k hk=>hL k (by lia)) fun k hk=>h k (by lia)
   have h0:=hL n (by lia)
   have hn:=h n (by lia)
   cases hf:f n with
   | false=>cases g n<;>simp<;>lia
   | true=>rw[hn hf];simp;lia
theorem AA{f g:Nat->Bool}:∀{n:Nat},(∀ k,k<n->0<=L k)->lsum L (fun k=>f k^^g k) n<=lsum L f n+lsum L g n
 | 0,_=>Int.le_refl _
 | n+1,hL=>by
   unfold lsum;have ih:=AA (f:=f) (g:=g) (n:=n) fun k hk=>hL k (by lia)
   have h0:=hL n (by lia)
   cases f n<;>cases g n<;>simp<;>lia
theorem uO{f g:Nat->Bool}:∀{n:Nat},(∀ k,k<n->f k=true->g k=false)->lsum L (fun k=>f k^^g k) n=lsum L f n+lsum L g n
 | 0,_=>rfl
 | n+1,h=>by
   unfold lsum;rw[uO (f:=f) (g:=g) (n:=n) fun k hk=>h k (by lia)]
   have hn:=h n (by lia)
   cases hf:f n with
   | false=>cases g n<;>simp<;>lia
   | true=>rw[hn hf];simp;lia
theorem uP{k n:Nat}(h:k<n):lsum L (fun j=>(2^k).testBit j) n=L k:=Az h fun j _=>by
 rw[Nat.testBit_two_pow];exact decide_eq_decide.mpr eq_comm
end
theorem my{m n k:Nat}(h:m<2^n)(hb:m.testBit k=true):k<n:=by
 apply Classical.byContradiction;intro hk;rw[Nat.testBit_lt_two_pow (Nat.lt_of_lt_of_le h (Nat.pow_le_pow_right (by decide) (by lia)))]at hb
 cases hb
def cd(x:Nat)(s:Bool):Nat:=2*x+s.toNat
def Jn(N:Net)(k v w:Nat):Prop:=(N.a k=v/\N.b k=w)\/(N.b k=v/\N.a k=w)
theorem Jn.lt{N:Net}{k v w:Nat}(hk:k<N.n)(h:Jn N k v w):w<N.p:=by
 rcases h with⟨_,rfl⟩|⟨_,rfl⟩
 ·exact N.bl k hk
 ·exact N.al k hk
inductive Wl(N:Net)(L:Nat->Int)(m u:Nat):List Nat->Nat->Bool->Int->Nat->Prop
 | nil:Wl N L m u [] u false 0 0
 | go {pre:List Nat} {v w k e:Nat} {s:Bool} {z:Int} (h:Wl N L m u pre v s z e) (hk:k<N.n) (hj:Jn N k v w):Wl N L m u (pre++[cd v s]) w (s^^m.testBit k) (z+L k) (e^^^2^k)
def Wy(N:Net)(L:Nat->Int)(m u x:Nat)(s:Bool)(z:Int):Prop:=∃ pre e,Wl N L m u pre x s z e
section
variable {N:Net}{L:Nat->Int}{m u:Nat}
theorem Wy.nil:Wy N L m u u false 0:=⟨_,_,.nil⟩
theorem Wy.go{v w k:Nat}{s:Bool}{z:Int}(h:Wy N L m u v s z)(hk:k<N.n)(hj:Jn N k v w):Wy N L m u w (s^^m.testBit k) (z+L k):=let⟨_,_,h⟩:=h;⟨_,_,h.go hk hj⟩
theorem ko(hL:∀ k,k<N.n->0<=L k)(hu:u<N.p){pre:List Nat}{v e:Nat}{s:Bool}{z:Int}(h:Wl N L m u pre v s z e):
 v<N.p/\e<2^N.n/\(∀ x,N.bd e x=(decide (u=x)^^decide (v=x)))/\N.par e m=s/\lsum L (fun k=>e.testBit k) N.n<=z/\0<=z:=by
 induction h with
 | nil =>
   refine⟨hu,Nat.two_pow_pos _,fun x=>?_,kj m,?_,Int.le_refl _⟩
   ·rw[mZ];cases decide (u=x)<;>rfl
   ·rw[qG fun k _=>Nat.zero_testBit k]
    exact Int.le_refl _
 | @go pre v w k e s z h hk hj ih =>
   obtain⟨i1,i2,i3,i4,i5,i6⟩:=ih;have h0:=hL k hk;refine⟨hj.lt hk,Nat.xor_lt_two_pow i2 (Nat.pow_lt_pow_right (by decide) hk),fun x=>?_,?_,?_,by lia⟩
   ·rw[gR,i3,l8 hk];unfold Net.inc;rcases hj with⟨rfl,rfl⟩|⟨rfl,rfl⟩
    ·cases decide (u=x)<;>cases decide (N.a k=x)<;>cases decide (N.b k=x)<;>rfl
    ·cases decide (u=x)<;>cases decide (N.a k=x)<;>cases decide (N.b k=x)<;>rfl
   ·rw[m6,i4,EC hk]
   ·have:=AA (L:=L) (f:=fun j=>e.testBit j) (g:=fun j=>(2^k).testBit j) hL
    rw[uP hk]at this;rw[n6 (g:=fun j=>e.testBit j^^(2^k).testBit j) fun j _=>Nat.testBit_xor ..]
    lia
def sM(N:Net)(L:Nat->Int)(m u x:Nat)(s:Bool):Option Int->Prop
 | none=>∀ z,¬ Wy N L m u x s z
 | some d=>Wy N L m u x s d/\∀ z,Wy N L m u x s z->d<=z
theorem sM.uniq{x:Nat}{s:Bool}{o o' : Option Int}(h:sM N L m u x s o)(h' : sM N L m u x s o'):o=o':=by
 cases o with
 | none=>cases o' with
   | none=>rfl
   | some d=>exact absurd h'.1 (h d)
 | some d=>cases o' with
   | none=>exact absurd h.1 (h' d)
   | some d' =>
     have h1:=h.2 _ h'.1;have h2:=h'.2 _ h.1;rw[show d=d' by lia]
theorem Wy.nonneg(hL:∀ k,k<N.n->0<=L k)(hu:u<N.p){x:Nat}{s:Bool}{z:Int}(h:Wy N L m u x s z):0<=z:=let⟨_,_,h⟩:=h;(ko hL hu h).2.2.2.2.2
theorem Jo(hL:∀ k,k<N.n->0<=L k)(hu:u<N.p){o:Option Int}(h:sM N L m u u false o):o=some 0:=h.uniq ⟨.nil,fun _ hz=>hz.nonneg hL hu⟩
theorem F5(_hL:∀ k,k<N.n->0<=L k){k:Nat}{s:Bool}{o o' : Option Int}(hk:k<N.n)(h:sM N L m u (N.a k) s o)(h' : sM N L m u (N.b k) (s^^m.testBit k) o'):Ring.uM o o' (L k)=true:=by
 have RI:∀{z},Wy N L m u (N.a k) s z->Wy N L m u (N.b k) (s^^m.testBit k) (z+L k):=fun hz=>hz.go hk (.inl ⟨rfl,rfl⟩)
 have back:∀{z},Wy N L m u (N.b k) (s^^m.testBit k) z->Wy N L m u (N.a k) s (z+L k):=fun hz=>by
  have:=hz.go hk (.inr ⟨rfl,rfl⟩)
  rwa [Bool.xor_assoc,Bool.xor_self,Bool.xor_false]at this
 cases o with
 | none=>cases o' with
   | none=>rfl
   | some d=>exact absurd (back h'.1) (h _)
 | some d=>cases o' with
   | none=>exact absurd (RI h.1) (h' _)
   | some d' =>
     have h1:=h'.2 _ (RI h.1);have h2:=h.2 _ (back h'.1);unfold Ring.uM;rw[decide_eq_true_eq]
     split<;>lia
theorem pM(hL:∀ k,k<N.n->0<=L k)(m:Nat){r:Nat}(hr:N.Ring r)(hm:r<2^N.n):∃ x,x<N.p/\Wy N L m x x (N.par r m) (lsum L (fun k=>r.testBit k) N.n):=by
 obtain⟨t0,hb⟩:∃ t0,r.testBit t0=true:=by
  apply Classical.byContradiction;intro h;exact hr.1 (Nat.eq_of_testBit_eq fun i=>by
   rw[Nat.zero_testBit];cases e:r.testBit i with
   | false=>rfl
   | true=>exact absurd ⟨i,e⟩ h)
 have TF:t0<N.n:=my hm hb;obtain⟨acc,v,w⟩:=F0 hm hr hb;have key:∀{acc v left},Wk N r t0 acc v left->(∀ k,left.testBit k=true->r.testBit k=true)/\∃ pre s,Wl N L m (N.a t0) pre v s (lsum L (fun k=>(r^^^left).testBit k) N.n) (r^^^left):=by
  intro acc v left w
  induction w with
  | start =>
    have e:r^^^(r^^^2^t0)=2^t0:=by rw[<-Nat.xor_assoc,Nat.xor_self,Nat.zero_xor]
    refine⟨fun k hk=>?_,[]++[cd (N.a t0) false],false^^m.testBit t0,?_⟩
    ·rw[Nat.testBit_xor,Nat.testBit_two_pow]at hk
     by_cases e:t0=k
     ·rw[<-e];exact hb
     ·rw[decide_eq_false e,Bool.xor_false]at hk;exact hk
    ·rw[e,uP TF];have:=Wl.go (m:=m) (L:=L) (.nil (u:=N.a t0)) TF (.inl ⟨rfl,rfl⟩)
     rwa [Int.zero_add,Nat.zero_xor]at this
  | @next acc v left t w h0 ht ih =>
    obtain⟨sub,pre,s,wl⟩:=ih;have hm2:=jn.mp (List.mem_of_getElem? ht);have htr:=sub t hm2.2.1;have Qf:=my hm htr;refine⟨fun k hk=>?_,pre++[cd v s],s^^m.testBit t,?_⟩
    ·rw[Nat.testBit_xor,Nat.testBit_two_pow]at hk
     by_cases e:t=k
     ·rw[<-e];exact htr
     ·rw[decide_eq_false e,Bool.xor_false]at hk;exact sub k hk
    ·have e:r^^^(left^^^2^t)=r^^^left^^^2^t:=by rw[Nat.xor_assoc]
     have hs:lsum L (fun k=>(r^^^left^^^2^t).testBit k) N.n=lsum L (fun k=>(r^^^left).testBit k) N.n+L t:=by
      rw[n6 (g:=fun j=>(r^^^left).testBit j^^(2^t).testBit j) fun j _=>Nat.testBit_xor ..,uO,uP Qf]
      intro k _ hk;rw[Nat.testBit_two_pow];refine decide_eq_false fun e=>?_
      subst e;rw[Nat.testBit_xor,htr,hm2.2.1]at hk;cases hk
     rw[e,hs];exact wl.go Qf (Ax hm2.2.2)
 obtain⟨_,pre,s,wl⟩:=key w;rw[Nat.xor_zero]at wl;have f:=ko hL (N.al t0 TF) wl;have hv:N.a t0=v:=by
  have:=f.2.2.1 v;rw[hr.2.1 v f.1,decide_eq_true (rfl:v=v)]at this;cases h:decide (N.a t0=v) with
  | true=>exact of_decide_eq_true h
  | false=>rw[h]at this;cases this
 refine⟨N.a t0,N.al t0 TF,pre,r,?_⟩;have hs:=f.2.2.2.1;rw[hs];rw[<-hv]at wl;exact wl
theorem uQ{m:Nat}:∀(c e:Nat),cnt (fun k=>e.testBit k) N.n=c->e<2^N.n->N.fk e->N.par e m=true->∃ r,N.Ring r/\(∀ k,r.testBit k=true->e.testBit k=true)/\N.par r m=true:=by
 intro c
 induction c using Nat.strongRecOn with
 | _ c ih =>
   intro e hc he ev hp
   by_cases hr:N.Ring e
   ·exact⟨e,hr,fun _ h=>h,hp⟩
   have h0:e≠0:=fun z=>by rw[z,kj]at hp;cases hp
   obtain⟨q,hq,Qg,q0,qe⟩:∃ q,(∀ k,q.testBit k=true->e.testBit k=true)/\N.fk q/\q≠0/\q≠e:=by
    apply Classical.byContradiction;intro h;refine hr ⟨h0,ev,fun q hq Qg=>?_⟩
    apply Classical.byContradiction;intro h2;exact h ⟨q,hq,Qg,fun z=>h2 (.inl z),fun z=>h2 (.inr z)⟩
   have small:∀ q,(∀ k,q.testBit k=true->e.testBit k=true)->q≠e->cnt (fun k=>q.testBit k) N.n<c:=by
    intro q hq qe;have h1:=Ct (f:=fun k=>q.testBit k) (g:=fun k=>e.testBit k) (n:=N.n) fun k _ h=>hq k h
    have h2:cnt (fun k=>q.testBit k) N.n≠cnt (fun k=>e.testBit k) N.n:=fun h=>qe (Nat.eq_of_testBit_eq fun k=>by
     by_cases hk:k<N.n
     ·have:=Ak (f:=fun k=>q.testBit k) (g:=fun k=>e.testBit k) (fun k _ h=>hq k h) h k hk
      cases h3:e.testBit k with
      | true=>exact this h3
      | false=>cases h4:q.testBit k with
        | false=>rfl
        | true=>rw[hq k h4]at h3;cases h3
     ·cases h3:e.testBit k with
      | true=>exact absurd (my he h3) hk
      | false=>cases h4:q.testBit k with
        | false=>rfl
        | true=>rw[hq k h4]at h3;cases h3)
    lia
   have lt:∀ q,(∀ k,q.testBit k=true->e.testBit k=true)->q<2^N.n:=fun q hq=>cM fun k hk=>my he (hq k hk)
   have hq2:∀ k,(e^^^q).testBit k=true->e.testBit k=true:=fun k hk=>by
    rw[Nat.testBit_xor]at hk;cases h3:e.testBit k with
    | true=>rfl
    | false =>
      cases h4:q.testBit k with
      | false=>rw[h3,h4]at hk;cases hk
      | true=>rw[hq k h4]at h3;cases h3
   have fin:∀ q,(∀ k,q.testBit k=true->e.testBit k=true)->q≠e->N.fk q->N.par q m=true->∃ r,N.Ring r/\(∀ k,r.testBit k=true->e.testBit k=true)/\N.par r m=true:=by
    intro q hq qe Qg hpq;obtain⟨r,h1,h2,h3⟩:=ih _ (small q hq qe) q rfl (lt q hq) Qg hpq;exact⟨r,h1,fun k hk=>hq k (h2 k hk),h3⟩
   cases hpq:N.par q m with
   | true=>exact fin q hq qe Qg hpq
   | false =>
     refine fin (e^^^q) hq2 (fun z=>q0 ?_) (fk.xor ev Qg) (by rw[m6,hp,hpq];rfl)
     have:e^^^(e^^^q)=e^^^e:=by rw[z]
     rwa [<-Nat.xor_assoc,Nat.xor_self,Nat.zero_xor]at this
theorem Jp(hL:∀ k,k<N.n->0<=L k)(hu:u<N.p){z:Int}(h:Wy N L m u u true z):∃ r,N.Ring r/\r<2^N.n/\N.par r m=true/\lsum L (fun k=>r.testBit k) N.n<=z:=by
 obtain⟨pre,e,h⟩:=h;obtain⟨_,h2,h3,h4,h5,_⟩:=ko hL hu h;obtain⟨r,r1,r2,r3⟩:=uQ _ e rfl h2 (fun x _=>by rw[h3,Bool.xor_self]) h4
 refine⟨r,r1,cM fun k hk=>my h2 (r2 k hk),r3,?_⟩
 have:=m7 (L:=L) (f:=fun k=>r.testBit k) (g:=fun k=>e.testBit k) hL fun k _ hk=>r2 k hk
 lia
end
end RM
namespace Ring
open PySem L2
def aY(ts:List dJ)(k:Nat):Int:=(bL ts k).2.2
theorem xN(ts:List dJ)(f:Nat->Bool):∀ n,FE ts f n=RM.lsum (aY ts) f n
 | 0=>rfl
 | n+1=>by
   show FE ts f n+_=RM.lsum (aY ts) f n+_;rw[xN ts f n];rfl
theorem CH{ts:List dJ}{m:Nat}(hm:m<2^ts.length):lenOf ts m=RM.lsum (aY ts) (fun k=>m.testBit k) ts.length:=by
 rw[FF hm,xN]
theorem i8{p:Nat}{ts:List dJ}(g:aE p ts):∀ k,k<g.N.n->0<=aY ts k:=fun k hk=>by
 have:=(g.vW _ (eU hk)).l0;unfold aY
 lia
structure CI(H0:Hp)(D:Addr)(es:List Addr)(F:Nat->Bool->Option Int)(H:Hp):Prop where
 same:av H0 H
 nd:es.Nodup
 ne:D∉es
 fr:∀ b∈es,H0 b=none
 Dn:H0 D=none
 lst:H D=some (.lst (es.map V.ref))
 at_:∀ i b,es[i]?=some b->H b=some (.lst [oV (F i false),oV (F i true)])
theorem CI.go{H0 H H' : Hp}{D:Addr}{es:List Addr}{F:Nat->Bool->Option Int}(h:CI H0 D es F H)(s:av H H'):CI H0 D es F H' :=
 ⟨h.same.trans s,h.nd,h.ne,h.fr,h.Dn,s _ _ h.lst,fun i b e=>s _ _ (h.at_ i b e)⟩
theorem CI.off{H0 H:Hp}{D L:Addr}{es:List Addr}{F:Nat->Bool->Option Int}(h:CI H0 D es F H)(hL:H L=none):L∉es:=fun z=>by
 obtain⟨j,hj⟩:=List.getElem?_of_mem z;have:=h.at_ j L hj;rw[hL]at this;cases this
def AB(H0:Hp)(D:Addr)(i:Nat)(acc:List V)(H:Hp):Prop:=∃ es,acc=es.map V.ref/\es.length=i/\CI H0 D es (fun _ _=>none) H
theorem AB.start{H0:Hp}{D:Addr}(hD:H0 D=none):AB H0 D 0 [] (upd H0 D (.lst [])) :=
 ⟨[],rfl,rfl,av.new hD,List.nodup_nil,List.not_mem_nil,fun _ h=>(List.not_mem_nil h).elim,hD,ae,fun i b e=>by cases e⟩
theorem AB.len{H0 H:Hp}{D:Addr}{i:Nat}{acc:List V}(h:AB H0 D i acc H):H D=some (.lst acc)/\acc.length<=i:=by
 obtain⟨es,rfl,e,r⟩:=h;exact⟨r.lst,by rw[List.length_map];lia⟩
theorem AB.next{H0 H:Hp}{D b:Addr}{i:Nat}{acc:List V}(h:AB H0 D i acc H)(hb:H b=none):upd H b (.lst [.eM,.eM]) D=some (.lst acc)/\AB H0 D (i+1) (acc++[.ref b]) (upd (upd H b (.lst [.eM,.eM])) D (.lst (acc++[.ref b]))):=by
 obtain⟨es,rfl,e,r⟩:=h;have OP:D≠b:=fun z=>by
  have:=r.lst;rw[z,hb]at this;cases this
 have hbn:b∉es:=r.off hb;have hb0:H0 b=none:=r.same.free hb;refine⟨by rw[aq OP];exact r.lst,es++[b],by simp,by simp[e],(r.same.put hb0).put r.Dn,?_,?_,fun c hc=>?_,r.Dn,by rw[ae];simp,fun j c hc=>?_⟩
 ·exact List.nodup_append.mpr ⟨r.nd,by simp,fun x hx y hy=>by rw[List.mem_singleton.mp hy];exact fun z=>hbn (z▸hx)⟩
 ·intro hm;rcases List.mem_append.mp hm with z|z
  ·exact r.ne z
  ·exact OP (List.mem_singleton.mp z)
 ·rcases List.mem_append.mp hc with z|z
  ·exact r.fr c z
  ·rw[List.mem_singleton.mp z];exact hb0
 ·have Vk:c≠D:=fun z=>by
   subst z;rcases List.mem_append.mp (List.mem_of_getElem? hc) with z|z
   ·exact r.ne z
   ·exact OP (List.mem_singleton.mp z)
  rw[aq Vk]
  by_cases ec:c=b
  ·rw[ec,ae];rfl
  ·rw[aq ec]
   by_cases hj:j<es.length
   ·rw[List.getElem?_append_left hj]at hc;exact r.at_ j c hc
   ·rw[List.getElem?_append_right (by lia)]at hc
    have:=List.mem_of_getElem? hc;exact absurd (List.mem_singleton.mp this) ec
def kq(F:Nat->Bool->Option Int)(p:Nat):List Pr:=(List.range p).map fun i=>(F i false,F i true)
theorem Jq{F:Nat->Bool->Option Int}{p x:Nat}(h:x<p)(s:Bool):sel (iO (kq F p) x) s=F x s:=by
 unfold iO kq;rw[List.getD_eq_getElem?_getD,List.getElem?_map,List.getElem?_range h];cases s<;>rfl
theorem Jr(F:Nat->Bool->Option Int)(i:Nat):kq F (i+1)=kq F i++[(F i false,F i true)]:=by
 unfold kq;rw[List.range_succ,List.map_append];rfl
theorem yF(F:Nat->Bool->Option Int)(i:Nat):(kq F i).length=i:=by
 unfold kq;rw[List.length_map,List.length_range]
end Ring
namespace RM
variable {N:Net}{L:Nat->Int}{m u:Nat}
end RM
namespace Ring
open PySem L2
theorem AD(R:List Pr)(t:dJ)(u:Bool):OL R t u=true↔∀ sb:Bool,uM (sel (iO R t.1.toNat) sb) (sel (iO R t.2.1.toNat) (sb^^u)) t.2.2=true:=by
 unfold OL;rw[Bool.and_eq_true]
 constructor
 ·rintro⟨h1,h2⟩ sb;cases sb with
  | false=>rw[Bool.false_xor];exact h1
  | true=>rw[Bool.true_xor];exact h2
 ·intro h;have h1:=h false;have h2:=h true;rw[Bool.false_xor]at h1;rw[Bool.true_xor]at h2;exact⟨h1,h2⟩
variable {p:Nat}{ts:List dJ}{g:aE p ts}{m:Nat}{W:List (List Pr)}
def lH(p:Nat)(ts:List dJ)(g:aE p ts)(m:Nat)(W:List (List Pr)):Prop:=∀ i,i<p->∀ x s,x<p->RM.sM g.N (aY ts) m i x s (sel (iO (W.getD i []) x) s)
theorem lH.stands(h:lH p ts g m W):CC p ts m W:=fun i hi=>by
 refine⟨RM.Jo (i8 g) (show i<g.N.p from hi) (h i hi i false hi),fun k hk=>?_⟩
 rw[AD];exact fun s=>RM.F5 (i8 g) (show k<g.N.n from hk) (h i hi _ s (g.N.al k hk)) (h i hi _ _ (g.N.bl k hk))
theorem F6(h:lH p ts g m W){l:Int}(hl:∀ r,r<2^ts.length->g.N.Ring r->g.N.par r m=true->l<=RM.lsum (aY ts) (fun k=>r.testBit k) ts.length):∀ i,i<p->∀ d,(iO (W.getD i []) i).2=some d->l<=d:=by
 intro i hi d hd;have b:=h i hi i true hi;have e:sel (iO (W.getD i []) i) true=some d:=hd;rw[e]at b;obtain⟨r,r1,r2,r3,r4⟩:=RM.Jp (i8 g) (show i<g.N.p from hi) b.1
 exact Int.le_trans (hl r r2 r1 r3) r4
end Ring
namespace RM
open Ring (maskOf mask_bit mask_lt)
theorem iB{a b:Nat}(h:a^^^b=0):a=b:=by
 have:=congrArg (fun y=>y^^^b) h
 simp only[Nat.zero_xor]at this
 rwa [Nat.xor_assoc,Nat.xor_self,Nat.xor_zero]at this
def comb:List Nat->Nat->Nat
 | [],_=>0
 | b::B,z=>(if z.testBit 0=true then b else 0)^^^comb B (z/2)
theorem Js(a b c d:Nat):(a^^^b)^^^(c^^^d)=(a^^^c)^^^(b^^^d):=Nat.eq_of_testBit_eq fun i=>by
 simp only[Nat.testBit_xor];cases a.testBit i<;>cases b.testBit i<;>cases c.testBit i<;>cases d.testBit i<;>rfl
theorem Jt(z y:Nat):(z^^^y)/2=z/2^^^y/2:=Nat.eq_of_testBit_eq fun i=>by
 rw[Nat.testBit_xor,<-Nat.testBit_succ,<-Nat.testBit_succ,<-Nat.testBit_succ,Nat.testBit_xor]
theorem jo:∀(B:List Nat) (z y:Nat),comb B (z^^^y)=comb B z^^^comb B y
 | [],_,_=>by simp[comb]
 | b::B,z,y=>by
   unfold comb;rw[Jt,jo B,Nat.testBit_xor,Js]
   congr 1
   cases z.testBit 0<;>cases y.testBit 0<;>simp
theorem kr:∀(B:List Nat),comb B 0=0
 | []=>rfl
 | b::B=>by
   unfold comb;rw[Nat.zero_testBit,show 0/2=0 from rfl,kr B]
   simp
theorem Ju(i:Nat):2^(i+1)/2=2^i:=by
 rw[Nat.pow_succ,Nat.mul_div_cancel _ (by decide)]
theorem uR:∀{B:List Nat} {i b:Nat},B[i]?=some b->comb B (2^i)=b
 | [],i,b,h=>by simp at h
 | b'::B,0,b,h=>by
   have:b' = b:=by simpa using h
   subst this;unfold comb;rw[show(2^0:Nat).testBit 0=true from rfl,if_pos rfl,show(2^0:Nat)/2=0 from rfl,kr,Nat.xor_zero]
 | b'::B,i+1,b,h=>by
   unfold comb;have h0:(2^(i+1)).testBit 0=false:=by rw[Nat.testBit_two_pow];simp
   rw[h0,if_neg (by decide),Nat.zero_xor,Ju]
   exact uR (B:=B) h
theorem i9:∀(B:List Nat) (b z:Nat),comb (B++[b]) z=comb B z^^^(if z.testBit B.length=true then b else 0)
 | [],b,z=>by
   show(if z.testBit 0=true then b else 0)^^^0=0^^^_
   rw[Nat.xor_zero,Nat.zero_xor];rfl
 | b'::B,b,z=>by
   show(if z.testBit 0=true then b' else 0)^^^comb (B++[b]) (z/2)=((if z.testBit 0=true then b' else 0)^^^comb B (z/2))^^^_
   rw[i9 B b (z/2),Nat.xor_assoc,<-Nat.testBit_succ];rfl
theorem qH:∀(B:List Nat) {z:Nat},(∀ i,i<B.length->z.testBit i=false)->comb B z=0
 | [],_,_=>rfl
 | b::B,z,h=>by
   unfold comb;rw[h 0 (by simp),if_neg (by decide),Nat.zero_xor]
   exact qH B fun i hi=>by rw[<-Nat.testBit_succ];exact h (i+1) (by simp;lia)
theorem pN(B:List Nat):∀ z,Sp B (comb B z):=by
 induction B with
 | nil=>intro z;exact .zero
 | cons b B ih =>
   intro z;have h:Sp (b::B) (comb B (z/2)):=(ih (z/2)).mono fun c hc=>.mem (List.mem_cons_of_mem _ hc)
   unfold comb;rw[Nat.xor_comm]
   by_cases e:z.testBit 0=true
   ·rw[if_pos e];exact h.add List.mem_cons_self
   ·rw[if_neg e,Nat.xor_zero];exact h
theorem yG{B:List Nat}{x:Nat}(h:Sp B x):∃ z,z<2^B.length/\comb B z=x:=by
 induction h with
 | zero=>exact⟨0,Nat.two_pow_pos _,kr B⟩
 | add h hb ih =>
   obtain⟨z,hz,e⟩:=ih;obtain⟨i,hi⟩:=List.getElem?_of_mem hb;have OG:=(List.getElem?_eq_some_iff.mp hi).1;exact⟨z^^^2^i,Nat.xor_lt_two_pow hz (Nat.pow_lt_pow_right (by decide) OG),by rw[jo,e,uR hi]⟩
def BR(B:List Nat):Prop:=∀ z,z<2^B.length->comb B z=0->z=0
def Jv(B:List Nat):Prop:=∀ i b,B[i]?=some b->¬ Sp (B.take i) b
theorem pO{B:List Nat}{b:Nat}:BR (B++[b])↔BR B/\¬ Sp B b:=by
 have hl:(B++[b]).length=B.length+1:=by simp
 constructor
 ·intro h;refine⟨fun z hz e=>h z ?_ ?_,fun hs=>?_⟩
  ·rw[hl,Nat.pow_succ];lia
  ·rw[i9,e,Nat.testBit_lt_two_pow hz];simp
  ·obtain⟨y,hy,e⟩:=yG hs;have hlt:2^B.length<2^(B.length+1):=Nat.pow_lt_pow_right (by decide) (by lia)
   have:=h (y^^^2^B.length) (by rw[hl];exact Nat.xor_lt_two_pow (by lia) hlt) (by
    have h1:(y^^^2^B.length).testBit B.length=true:=by
     rw[Nat.testBit_xor,Nat.testBit_lt_two_pow hy,Nat.testBit_two_pow_self];rfl
    have h2:comb B (2^B.length)=0:=qH B fun i hi=>by
     rw[Nat.testBit_two_pow];exact decide_eq_false (by lia)
    rw[i9,h1,if_pos rfl,jo,h2,e,Nat.xor_zero,Nat.xor_self])
   have h3:(y^^^2^B.length).testBit B.length=false:=by rw[this,Nat.zero_testBit]
   rw[Nat.testBit_xor,Nat.testBit_lt_two_pow hy,Nat.testBit_two_pow_self]at h3;cases h3
 ·rintro⟨h,hs⟩ z hz e;rw[i9]at e
  by_cases hb:z.testBit B.length=true
  ·rw[if_pos hb]at e;have e2:comb B z=b:=by
    have:=congrArg (fun y=>y^^^b) e
    simp only[gX,Nat.zero_xor]at this;exact this
   exact absurd (e2▸pN B z) hs
  ·rw[if_neg hb,Nat.xor_zero]at e;refine h z ?_ e;refine cM fun k hk=>?_
   have:=cD hz hk;rw[hl]at this;have:k≠B.length:=fun e=>hb (e▸hk)
   lia
theorem xO{B:List Nat}{b:Nat}:Jv (B++[b])↔Jv B/\¬ Sp B b:=by
 constructor
 ·intro h;refine⟨fun i c hc=>?_,?_⟩
  ·have hi:=(List.getElem?_eq_some_iff.mp hc).1;have:=h i c (by rw[List.getElem?_append_left hi];exact hc)
   rwa [List.take_append_of_le_length (Nat.le_of_lt hi)]at this
  ·have:=h B.length b (by simp)
   rwa [List.take_left' rfl]at this
 ·rintro⟨h,hs⟩ i c hc
  by_cases hi:i<B.length
  ·rw[List.getElem?_append_left hi]at hc;rw[List.take_append_of_le_length (Nat.le_of_lt hi)];exact h i c hc
  ·have hl:=(List.getElem?_eq_some_iff.mp hc).1;have e:i=B.length:=by simp at hl;lia
   subst e;rw[List.getElem?_append_right (Nat.le_refl _),Nat.sub_self]at hc;have:b=c:=by simpa using hc
   subst this;rw[List.take_left' rfl];exact hs
theorem take_snoc{B:List Nat}{i b:Nat}(h:B[i]?=some b):B.take (i+1)=B.take i++[b]:=by
 rw[List.take_add_one,h];rfl
theorem Mj(B:List Nat):BR B↔Jv B:=by
 have key:∀ n,n<=B.length->(BR (B.take n)↔Jv (B.take n)):=by
  intro n
  induction n with
  | zero=>exact fun _=>⟨fun _ i b h=>by simp at h,fun _ z hz _=>by simp at hz;exact hz⟩
  | succ n ih =>
    intro hn;have hb:B[n]?=some B[n]:=List.getElem?_eq_getElem hn;rw[take_snoc hb,pO,xO,ih (by lia)]
 have:=key B.length (Nat.le_refl _)
 rwa [List.take_length]at this
theorem AE(B:List Nat)(h:BR B){z y:Nat}(hz:z<2^B.length)(hy:y<2^B.length)(e:comb B z=comb B y):z=y:=by
 have:=h (z^^^y) (Nat.xor_lt_two_pow hz hy) (by rw[jo,e,Nat.xor_self])
 exact iB this
section
variable {N:Net}
theorem xP{B:List Nat}(h:∀ b∈B,N.fk b/\b<2^N.n)(z:Nat):N.fk (comb B z)/\comb B z<2^N.n:=by
 have hs:=pN B z;refine⟨?_,hs.lt fun b hb=>(h b hb).2⟩
 generalize comb B z=x at hs
 induction hs with
 | zero=>exact fk.zero
 | add _ hb ih=>exact fk.xor ih (h _ hb).1
theorem Mk{f:Nat->Nat}{a b:Nat}(hf:∀ z,z<2^a->f z<2^b)(inj:∀ z y,z<2^a->y<2^a->f z=f y->z=y):a<=b:=by
 have nd:((List.range (2^a)).map f).Nodup:=by
  refine List.pairwise_map.mpr ?_;refine List.Pairwise.imp_of_mem (fun {z y} hz hy hne e=>?_) List.nodup_range
  exact hne (inj z y (List.mem_range.mp hz) (List.mem_range.mp hy) e)
 have:=IL nd fun x hx=>by
  obtain⟨z,hz,rfl⟩:=List.mem_map.mp hx;exact hf z (List.mem_range.mp hz)
 rw[List.length_map,List.length_range]at this;exact(Nat.pow_le_pow_iff_right (by decide)).mp this
def meets(ks:List Nat)(m:Nat):Nat:=maskOf (fun i=>m.testBit (ks.getD i 0)) ks.length
theorem Jw(ks:List Nat)(m:Nat):meets ks m<2^ks.length:=mask_lt _ _
theorem F8{ks:List Nat}{m i k:Nat}(h:ks[i]?=some k):(meets ks m).testBit i=m.testBit k:=by
 unfold meets;rw[mask_bit,List.getD_eq_getElem?_getD,h,decide_eq_true (List.getElem?_eq_some_iff.mp h).1];rfl
theorem OQ{B:List Nat}(hi:BR B)(h:∀ b∈B,N.fk b/\b<2^N.n):B.length<=N.aU.length:=by
 refine Mk (f:=fun z=>meets N.aU (comb B z)) (fun z _=>Jw _ _) fun z y hz hy e=>AE B hi hz hy ?_
 have h1:=xP h z;have h2:=xP h y;refine iB (gv (N:=N) (fun k hk=>?_) (fk.xor h1.1 h2.1))
 have hkn:=cD (Nat.xor_lt_two_pow h1.2 h2.2) hk;refine⟨hkn,?_⟩;cases hf:N.l9 k with
 | true=>rfl
 | false =>
   obtain⟨j,hj⟩:=List.getElem?_of_mem (dF.mpr ⟨hkn,hf⟩);have e:meets N.aU (comb B z)=meets N.aU (comb B y):=e;have:=congrArg (fun x=>x.testBit j) e
   simp only[F8 hj]at this;rw[Nat.testBit_xor,this,Bool.xor_self]at hk;cases hk
structure Base(N:Net)(rs:List Nat):Prop where
 len:rs.length=N.aU.length
 ring:∀ r∈rs,N.Ring r/\r<2^N.n
 ind:BR rs
open Classical in
end
abbrev Row3:=Nat×Nat×Nat
def two(q:Row3):Nat×Nat:=(q.1,q.2.1)
def cO(rows:List Row3)(x u:Nat):Nat×Nat:=rows.foldl (fun s q=>if s.1.testBit q.1=true then(s.1^^^q.2.1,s.2^^^q.2.2) else s) (x,u)
theorem qI(q:Row3)(rows:List Row3)(x u:Nat):cO (q::rows) x u=if x.testBit q.1=true then cO rows (x^^^q.2.1) (u^^^q.2.2) else cO rows x u:=by
 unfold cO;rw[List.foldl_cons]
 by_cases h:x.testBit q.1=true
 ·rw[if_pos h,if_pos h]
 ·rw[if_neg h,if_neg h]
theorem mz:∀(rows:List Row3) (x u:Nat),(cO rows x u).1=iH (rows.map two) x
 | [],_,_=>rfl
 | q::rows,x,u=>by
   rw[qI];show _=iH (rows.map two) (if x.testBit q.1=true then x^^^q.2.1 else x)
   by_cases h:x.testBit q.1=true
   ·rw[if_pos h,if_pos h];exact mz rows _ _
   ·rw[if_neg h,if_neg h];exact mz rows _ _
def vZ(rows:List Row3)(a:Row3):List Row3:=a::rows.map fun q=>if q.2.1.testBit a.1=true then(q.1,q.2.1^^^a.2.1,q.2.2^^^a.2.2) else q
structure Rw(B:List Nat)(rows:List Row3):Prop where
 own:∀ q∈rows,q.2.1.testBit q.1=true
 F9:rows.Pairwise fun q q'=>q'.2.1.testBit q.1=false/\q.2.1.testBit q'.1=false
 Nj:∀ q∈rows,q.2.2<2^B.length/\comb B q.2.2=q.2.1
 span:∀ b∈B,Sp (rows.map fun q=>q.2.1) b
 le:rows.length<=B.length
 len:rows.length=B.length↔BR B
section
variable {B:List Nat}{rows:List Row3}
theorem Rw.start:Rw [] []:=⟨(fun q hq=>nomatch hq),.nil,(fun q hq=>nomatch hq),(fun b hb=>nomatch hb),Nat.le_refl _,⟨fun _ z hz _=>by simp at hz;exact hz,fun _=>rfl⟩⟩
theorem OR(own:∀ q∈rows,q.2.1.testBit q.1=true)(F9:rows.Pairwise fun q q'=>q'.2.1.testBit q.1=false/\q.2.1.testBit q'.1=false):Jl (rows.map two):=by
 induction rows with
 | nil=>exact .nil
 | cons q rows ih =>
   obtain⟨h1,h2⟩:=List.pairwise_cons.mp F9;refine .cons (ih (fun q' hq=>own q' (List.mem_cons_of_mem _ hq)) h2) (own q List.mem_cons_self) fun x hx=>?_
   obtain⟨q',OS,rfl⟩:=List.mem_map.mp hx;exact(h1 q' OS).1
theorem Rw.Lh(h:Rw B rows):Jl (rows.map two):=OR h.own h.F9
theorem map_two(rows:List Row3):(rows.map two).map (fun q=>q.2)=rows.map fun q=>q.2.1:=by
 rw[List.map_map];rfl
theorem Rw.qJ(h:Rw B rows)(x u:Nat):(cO rows x u).1=0↔Sp B x:=by
 rw[mz,xK h.Lh,map_two]
 constructor
 ·intro hs;refine hs.mono fun b hb=>?_
  obtain⟨q,hq,rfl⟩:=List.mem_map.mp hb;rw[<-(h.Nj q hq).2];exact pN B _
 ·exact fun hs=>hs.mono h.span
theorem Rw.Jx(h:Rw B rows)(x u:Nat):∀ q∈rows,(cO rows x u).1.testBit q.1=false:=fun q hq=>by
 rw[mz];exact qF h.Lh x (two q) (List.mem_map.mpr ⟨q,hq,rfl⟩)
theorem xQ(hc:∀ q∈rows,q.2.2<2^B.length/\comb B q.2.2=q.2.1):∀(x u:Nat),u<2^B.length->(cO rows x u).2<2^B.length/\comb B (cO rows x u).2=comb B u^^^(x^^^(cO rows x u).1):=by
 induction rows with
 | nil=>intro x u hu;exact⟨hu,by show _=_^^^(x^^^x);rw[Nat.xor_self,Nat.xor_zero];rfl⟩
 | cons q rows ih =>
   intro x u hu;have hq:=hc q List.mem_cons_self;have ih:=ih fun q' OS=>hc q' (List.mem_cons_of_mem _ OS)
   rw[qI]
   by_cases h:x.testBit q.1=true
   ·rw[if_pos h];obtain⟨i1,i2⟩:=ih (x^^^q.2.1) (u^^^q.2.2) (Nat.xor_lt_two_pow hu hq.1);refine⟨i1,?_⟩;rw[i2,jo,hq.2];refine Nat.eq_of_testBit_eq fun i=>?_
    simp only[Nat.testBit_xor];generalize (cO rows (x^^^q.2.1) (u^^^q.2.2)).1.testBit i=y;cases(comb B u).testBit i<;>cases q.2.1.testBit i<;>cases x.testBit i<;>cases y<;>rfl
   ·rw[if_neg h];exact ih x u hu
theorem OT(h:Rw B rows){x:Nat}(hx:∀ b∈B,b<2^x):∀ q∈rows,q.2.1<2^x:=fun q hq=>by
 rw[<-(h.Nj q hq).2];exact(pN B _).lt hx
theorem uS{z:Nat}(b:Nat)(hz:z<2^B.length):comb (B++[b]) z=comb B z:=by
 rw[i9,Nat.testBit_lt_two_pow hz];simp
theorem Rw.skip{b:Nat}(h:Rw B rows)(hs:Sp B b):Rw (B++[b]) rows:=by
 have hl:(B++[b]).length=B.length+1:=by simp
 refine⟨h.own,h.F9,fun q hq=>⟨?_,?_⟩,fun c hc=>?_,?_,?_⟩
 ·have:=(h.Nj q hq).1;rw[hl,Nat.pow_succ]
  lia
 ·rw[uS b (h.Nj q hq).1];exact(h.Nj q hq).2
 ·rcases List.mem_append.mp hc with hc|hc
  ·exact h.span c hc
  ·have e:c=b:=by simpa using hc
   rw[e];exact hs.mono h.span
 ·have:=h.le
  lia
 ·rw[pO];have:=h.le;exact⟨fun e=>by lia,fun z=>absurd hs z.2⟩
theorem Rw.put{b:Nat}(h:Rw B rows)(h0:(cO rows b 0).1≠0):Rw (B++[b]) (vZ rows ((cO rows b 0).1.log2,(cO rows b 0).1,(cO rows b 0).2^^^2^B.length)):=by
 have hl:(B++[b]).length=B.length+1:=by simp
 have hns : ¬ Sp B b:=fun z=>h0 ((h.qJ b 0).mpr z)
 have off:=h.Jx b 0;obtain⟨c1,c2⟩:=xQ h.Nj b 0 (Nat.two_pow_pos _);rw[kr,Nat.zero_xor]at c2;have sI:Sp (rows.map fun q=>q.2.1) (b^^^(cO rows b 0).1):=by
  rw[mz];have:=yD (rows.map two) b
  rwa [map_two]at this
 generalize cO rows b 0=lu at *;obtain⟨l,u⟩:=lu;have h0:l≠0:=h0;have top:=yE h0;have c1:u<2^B.length:=c1;have c2:comb B u=b^^^l:=c2;have off:∀ q∈rows,l.testBit q.1=false:=off;have sI:Sp (rows.map fun q=>q.2.1) (b^^^l):=sI
 show Rw (B++[b]) (vZ rows (l.log2,l,u^^^2^B.length));generalize l.log2=t at top;have p2:2^B.length<2^(B++[b]).length:=by rw[hl];exact Nat.pow_lt_pow_right (by decide) (by lia)
 have hc:comb (B++[b]) (u^^^2^B.length)=l:=by
  have h1:(u^^^2^B.length).testBit B.length=true:=by
   rw[Nat.testBit_xor,Nat.testBit_lt_two_pow c1,Nat.testBit_two_pow_self];rfl
  have h2:comb B (2^B.length)=0:=qH B fun i hi=>by
   rw[Nat.testBit_two_pow];exact decide_eq_false (by lia)
  rw[i9,h1,if_pos rfl,jo,h2,c2,Nat.xor_zero];refine Nat.eq_of_testBit_eq fun i=>?_
  simp only[Nat.testBit_xor];cases b.testBit i<;>cases l.testBit i<;>rfl
 unfold vZ;refine⟨fun q hq=>?_,List.pairwise_cons.mpr ⟨fun q hq=>?_,?_⟩,fun q hq=>?_,fun c hc=>?_,?_,?_⟩
 ·rcases List.mem_cons.mp hq with e|hq
  ·rw[e];exact top
  ·obtain⟨q0,Cu,rfl⟩:=List.mem_map.mp hq
   by_cases e:q0.2.1.testBit t=true
   ·rw[if_pos e];show(q0.2.1^^^l).testBit q0.1=true;rw[Nat.testBit_xor,h.own q0 Cu,off q0 Cu];rfl
   ·rw[if_neg e];exact h.own q0 Cu
 ·obtain⟨q0,Cu,rfl⟩:=List.mem_map.mp hq
  by_cases e:q0.2.1.testBit t=true
  ·rw[if_pos e];refine⟨?_,off q0 Cu⟩;show(q0.2.1^^^l).testBit t=false;rw[Nat.testBit_xor,e,top];rfl
  ·rw[if_neg e];exact⟨Bool.eq_false_iff.mpr e,off q0 Cu⟩
 ·refine List.pairwise_map.mpr (List.Pairwise.imp_of_mem (fun {q q'} hq OS hz=>?_) h.F9)
  obtain⟨z1,z2⟩:=hz;have o1:=off q hq;have o2:=off q' OS;have fst:∀ q:Row3,(if q.2.1.testBit t=true then(q.1,q.2.1^^^l,q.2.2^^^(u^^^2^B.length)) else q).1=q.1:=fun q=>by
   split<;>rfl
  have snd:∀(q:Row3) (k:Nat),l.testBit k=false->(if q.2.1.testBit t=true then(q.1,q.2.1^^^l,q.2.2^^^(u^^^2^B.length)) else q).2.1.testBit k=q.2.1.testBit k:=fun q k hk=>by
   split
   ·show(q.2.1^^^l).testBit k=_;rw[Nat.testBit_xor,hk,Bool.xor_false]
   ·rfl
  refine⟨?_,?_⟩
  ·rw[snd q' _ (by rw[fst];exact o1),fst]
   exact z1
  ·rw[snd q _ (by rw[fst];exact o2),fst]
   exact z2
 ·rcases List.mem_cons.mp hq with e|hq
  ·rw[e];exact⟨Nat.xor_lt_two_pow (by lia) p2,hc⟩
  ·obtain⟨q0,Cu,rfl⟩:=List.mem_map.mp hq;obtain⟨d1,d2⟩:=h.Nj q0 Cu
   by_cases e:q0.2.1.testBit t=true
   ·rw[if_pos e];refine⟨Nat.xor_lt_two_pow (by lia) (Nat.xor_lt_two_pow (by lia) p2),?_⟩
    show comb (B++[b]) (q0.2.2^^^(u^^^2^B.length))=q0.2.1^^^l;rw[jo,hc,uS b d1,d2]
   ·rw[if_neg e];exact⟨by lia,by rw[uS b d1,d2]⟩
 ·have WZ:l∈(((t,l,u^^^2^B.length):Row3)::rows.map fun q=>if q.2.1.testBit t=true then(q.1,q.2.1^^^l,q.2.2^^^(u^^^2^B.length)) else q).map fun q=>q.2.1:=by
   rw[List.map_cons];exact List.mem_cons_self
  have old:∀ x∈rows.map (fun q=>q.2.1),Sp ((((t,l,u^^^2^B.length):Row3)::rows.map fun q=>if q.2.1.testBit t=true then(q.1,q.2.1^^^l,q.2.2^^^(u^^^2^B.length)) else q).map fun q=>q.2.1) x:=fun x hx=>by
   obtain⟨q0,Cu,rfl⟩:=List.mem_map.mp hx;have hm:(if q0.2.1.testBit t=true then(q0.1,q0.2.1^^^l,q0.2.2^^^(u^^^2^B.length)) else q0).2.1∈(((t,l,u^^^2^B.length):Row3)::rows.map fun q=>if q.2.1.testBit t=true then(q.1,q.2.1^^^l,q.2.2^^^(u^^^2^B.length)) else q).map fun q=>q.2.1 :=
    List.mem_map.mpr ⟨_,List.mem_cons_of_mem _ (List.mem_map.mpr ⟨q0,Cu,rfl⟩),rfl⟩
   by_cases e:q0.2.1.testBit t=true
   ·rw[if_pos e]at hm;have:=(Sp.mem hm).xor (Sp.mem WZ)
    rwa [gX]at this
   ·rw[if_neg e]at hm;exact .mem hm
  rcases List.mem_append.mp hc with hc|hc
  ·exact(h.span c hc).mono old
  ·have e:c=b:=by simpa using hc
   rw[e];have:=(sI.mono old).xor (Sp.mem WZ)
   rwa [gX]at this
 ·rw[List.length_cons,List.length_map,hl];have:=h.le
  lia
 ·rw[List.length_cons,List.length_map,hl,pO];have:=h.len
  constructor
  ·exact fun e=>⟨this.mp (by lia),hns⟩
  ·exact fun e=>by have:=this.mpr e.1;lia
def rx(f:Row3->Bool):List Row3->Bool
 | []=>false
 | q::rows=>f q^^rx f rows
theorem AF{f g:Row3->Bool}:∀{rows:List Row3},(∀ q∈rows,f q=g q)->rx f rows=rx g rows
 | [],_=>rfl
 | q::rows,h=>by
   unfold rx;rw[h q List.mem_cons_self,AF fun q' hq=>h q' (List.mem_cons_of_mem _ hq)]
theorem xR(i:Nat):∀{rows:List Row3},(rows.Pairwise fun q q'=>q'.2.1.testBit q.1=false/\q.2.1.testBit q'.1=false)->∀(x u:Nat),(cO rows x u).2.testBit i=(u.testBit i^^rx (fun q=>x.testBit q.1&&q.2.2.testBit i) rows)
 | [],_,x,u=>by show u.testBit i=(u.testBit i^^false);rw[Bool.xor_false]
 | q::rows,F9,x,u=>by
   obtain⟨h1,h2⟩:=List.pairwise_cons.mp F9;have ih:=xR i h2;rw[qI];unfold rx
   by_cases h:x.testBit q.1=true
   ·rw[if_pos h,ih,h,Bool.true_and,Nat.testBit_xor,Bool.xor_assoc]
    congr 2
    exact AF fun q' hq=>by rw[Nat.testBit_xor,(h1 q' hq).2,Bool.xor_false]
   ·rw[if_neg h,ih,Bool.eq_false_iff.mpr h,Bool.false_and,Bool.false_xor]
def cF(rows:List Row3)(i:Nat):List Nat:=(rows.filter fun q=>q.2.2.testBit i).map fun q=>q.1
theorem AG(own:∀ q∈rows,q.2.1.testBit q.1=true)(F9:rows.Pairwise fun q q'=>q'.2.1.testBit q.1=false/\q.2.1.testBit q'.1=false)(i:Nat):(cF rows i).Nodup:=by
 unfold cF;refine List.pairwise_map.mpr ((List.Pairwise.imp_of_mem (fun {q q'} hq OS hz e=>?_) F9).filter _)
 have:=own q' OS;rw[<-e,hz.1]at this;cases this
theorem xS(f:Nat->Bool)(n:Nat):∀{l:List Nat},l.Nodup->(∀ k∈l,k<n)->bz (fun k=>f k&&decide (k∈l)) n=l.foldr (fun k acc=>f k^^acc) false
 | [],_,_=>gQ fun k _=>by simp
 | a::l,nd,h=>by
   obtain⟨n1,n2⟩:=List.nodup_cons.mp nd;have ih:=xS f n n2 fun k hk=>h k (List.mem_cons_of_mem _ hk)
   have:bz (fun k=>f k&&decide (k∈a::l)) n=bz (fun k=>(f k&&decide (a=k))^^(f k&&decide (k∈l))) n:=bN fun k _=>by
    by_cases e:a=k
    ·subst e;rw[decide_eq_true List.mem_cons_self,decide_eq_true rfl,decide_eq_false n1,Bool.and_false,Bool.xor_false]
    ·have:(k∈a::l)↔k∈l:=⟨fun z=>(List.mem_cons.mp z).resolve_left fun z=>e z.symm,List.mem_cons_of_mem _⟩
     rw[decide_eq_false e,Bool.and_false,Bool.false_xor,decide_eq_decide.mpr this]
   rw[this,jk,jl f (h a List.mem_cons_self),ih];rfl
theorem AH(f:Nat->Bool)(i:Nat):∀ rows:List Row3,(cF rows i).foldr (fun k acc=>f k^^acc) false=rx (fun q=>f q.1&&q.2.2.testBit i) rows
 | []=>rfl
 | q::rows=>by
   have ih:=AH f i rows;unfold cF at ih ⊢;unfold rx;cases h:q.2.2.testBit i with
   | true =>
     rw[List.filter_cons,if_pos h,List.map_cons,List.foldr_cons,ih,Bool.and_true]
   | false =>
     rw[List.filter_cons,if_neg (by rw[h];decide),ih,Bool.and_false,Bool.false_xor]
theorem Rw.marks{N:Net}(h:Rw B rows)(hi:BR B)(hb:∀ b∈B,b<2^N.n){i j b:Nat}(hj:B[j]?=some b):N.par b (Ring.orM (cF rows i))=decide (i=j)/\∀ k∈cF rows i,k<N.n:=by
 have lt:∀ k∈cF rows i,k<N.n:=fun k hk=>by
  obtain⟨q,hq,rfl⟩:=List.mem_map.mp hk;have hq:=(List.mem_filter.mp hq).1;exact cD (OT h hb q hq) (h.own q hq)
 refine⟨?_,lt⟩;have e1:N.par b (Ring.orM (cF rows i))=rx (fun q=>b.testBit q.1&&q.2.2.testBit i) rows:=by
  rw[<-AH (fun k=>b.testBit k),<-xS (fun k=>b.testBit k) N.n (AG h.own h.F9 i) lt]
  exact bN fun k _=>by rw[Ring.iN]
 have hz:(cO rows b 0).1=0:=(h.qJ b 0).mpr (.mem (List.mem_of_getElem? hj));obtain⟨c1,c2⟩:=xQ h.Nj b 0 (Nat.two_pow_pos _);rw[kr,Nat.zero_xor,hz,Nat.xor_zero]at c2
 replace c2:=c2.trans (uR hj).symm
 have Nk:=(List.getElem?_eq_some_iff.mp hj).1;have e2:=AE B hi c1 (Nat.pow_lt_pow_right (by decide) Nk) c2
 have e3:=xR i h.F9 b 0;rw[e2,Nat.zero_testBit,Bool.false_xor,Nat.testBit_two_pow]at e3;rw[e1,<-e3];exact decide_eq_decide.mpr eq_comm
end
end RM
namespace Ring
open PySem L2
def sA(q:RM.Row3):List V:=[.int (q.1:Int),.int (q.2.1:Int),.int (q.2.2:Int)]
def uT(H:Hp)(x:V)(q:RM.Row3):Prop:=∃ b,x = .ref b/\H b=some (.tup (sA q))
theorem uT.tups{H H' : Hp}(s:c6 H H'){x:V}{q:RM.Row3}(h:uT H x q):uT H' x q:=let⟨b,e,z⟩:=h;⟨b,e,s _ _ z⟩
def iP(H:Hp)(l:Addr)(rows:List RM.Row3):Prop:=∃ xs,H l=some (.lst xs)/\Paired (uT H) xs rows
theorem iP.same{H H' : Hp}(s:av H H'){l:Addr}{rows:List RM.Row3}(h:iP H l rows):iP H' l rows:=let⟨xs,e,z⟩:=h;⟨xs,s _ _ e,Paired.imp' (fun _ _ z=>z.tups s.tups) z⟩
theorem Ga(rows:List RM.Row3)(q:RM.Row3)(x u:Nat):RM.cO (rows++[q]) x u=if(RM.cO rows x u).1.testBit q.1=true then((RM.cO rows x u).1^^^q.2.1,(RM.cO rows x u).2^^^q.2.2) else RM.cO rows x u:=by
 unfold RM.cO;rw[List.foldl_append];rfl
theorem take3{α:Type}{l:List α}{i:Nat}{q:α}(h:l[i]?=some q):l.take (i+1)=l.take i++[q]:=by
 rw[List.take_add_one,h];rfl
theorem Jy{m:Nat}(h:m≠0):((Builtin.Int.intBits (m:Int):Nat):Int)-1=((m.log2:Nat):Int):=by
 rw[um,if_neg h]
 lia
end Ring
namespace L2
open PySem PySem.Spec PyProof.Rows
theorem CJ{K:bK}{a:Addr}{xs:List V}{g:TG}{tt:TT}{te:TE}{n:Nat}{fr:St}{D:Addr}{Q:Hp->Prop}{H1:Hp}(Pv:Nat->List V->Hp->Prop)(h0:Pv 0 [] H1)(hl:∀ i acc H,i<=xs.length->Pv i acc H->aO K H a xs/\H D=some (.lst acc)/\acc.length<=i)(hz:xs.length<=sizeLine)
 (hs:∀ i x T acc H,xs[i]?=some x->Pv i acc H->H T=none->g (.ref T) (List.replicate n none++fr) (upd H T (.tup [.int (i:Int),x])) fun σ2 H2=>σ2.drop n=fr/\tt σ2 H2 fun b H3 =>
  if b=true then te σ2 H3 fun v H4=>H4 D=some (.lst acc)/\Pv (i+1) (acc++[v]) (upd H4 D (.lst (acc++[v]))) else Pv (i+1) acc H3)
 (hd:∀ acc H,Pv xs.length acc H->Q H):iw (Qc K a) g tt te n fr D Q H1:=by
 refine⟨fun i m acc H=>m=xs.length-i/\i<=xs.length/\Pv i acc H,⟨xs.length,by simp,Nat.zero_le _,h0⟩,?_⟩
 rintro i m acc H ⟨rfl,hi,p⟩;obtain⟨q,hD,ha⟩:=hl i acc H hi p;refine⟨hD,?_⟩
 by_cases hlt:i<xs.length
 ·refine .inr ⟨⟨xs,xs[i],q,by simp[hlt]⟩,by lia,Pv (i+1),fun acc' H' p'=>⟨xs.length-(i+1),by lia,rfl,hlt,p'⟩,fun v H' y=>?_⟩
  obtain⟨T,x,rfl,hT,rfl,y⟩:=y;exact hs i x T acc _ (y xs q) p hT
 ·have e:i=xs.length:=by lia
  subst e;exact .inl ⟨⟨xs,q,Nat.le_refl _⟩,hd acc H p⟩
end L2
namespace RM
variable {N:Net}{S:Nat->Bool}
def uU(N:Net)(S:Nat->Bool)(L:Nat->Nat)(k:Nat):Prop:=∀ x y,x<N.p->y<N.p->(L x=L y↔N.aM S k x=N.aM S k y)
theorem uU.start:uU N S (fun x=>x) 0:=fun _ _ _ _=>Iff.rfl
theorem uU.skip{L:Nat->Nat}{k:Nat}(h:uU N S L k)(hs:S k=false):uU N S L (k+1):=by
 intro x y hx hy;rw[fY,if_neg (by rw[hs];decide)]
 exact h x y hx hy
theorem uU.put{L:Nat->Nat}{k:Nat}(h:uU N S L k)(hk:k<N.n)(hs:S k=true):uU N S (Ox L (N.a k) (N.b k)) (k+1):=by
 intro x y hx hy;have ha:=N.al k hk;have hb:=N.bl k hk;rw[fY,if_pos hs,L4,IM,h x y hx hy,h x _ hx ha,h y _ hy hb,h x _ hx hb,h y _ hy ha]
open Classical in
theorem EL(val:Nat->Int):∀ n,(PyProof.Rows.firstMet val n).length=cnt (fun i=>!decide (∃ j,j<i/\val j=val i)) n/\∀ z,z∈PyProof.Rows.firstMet val n↔∃ j,j<n/\val j=z
 | 0=>by
   rw[PyProof.Rows.firstMet_zero];exact⟨rfl,fun z=>⟨fun h=>(nomatch h),fun⟨j,hj,_⟩=>absurd hj (Nat.not_lt_zero _)⟩⟩
 | n+1=>by
   obtain⟨h1,h2⟩:=EL val n;rw[PyProof.Rows.firstMet_succ];unfold PyProof.Rows.step_dedup;have hm:=h2 (val n);have ha:((PyProof.Rows.firstMet val n).any fun x=>x==val n)=true↔val n∈PyProof.Rows.firstMet val n:=by simp
   have mem:∀ z,(∃ j,j<n+1/\val j=z)↔(∃ j,j<n/\val j=z)\/val n=z:=fun z=>by
    constructor
    ·rintro⟨j,hj,e⟩
     by_cases ej:j=n
     ·subst ej;exact .inr e
     ·exact .inl ⟨j,by lia,e⟩
    ·rintro(⟨j,hj,e⟩|e)
     ·exact⟨j,by lia,e⟩
     ·exact⟨n,by lia,e⟩
   by_cases hin:val n∈PyProof.Rows.firstMet val n
   ·rw[if_pos (ha.mpr hin)];refine⟨?_,fun z=>?_⟩
    ·show _=cnt _ n+(if(!decide (∃ j,j<n/\val j=val n))=true then 1 else 0)
     rw[h1,decide_eq_true (hm.mp hin)];rfl
    ·rw[mem,h2];exact⟨.inl,fun h=>h.elim id fun e=>e▸hm.mp hin⟩
   ·rw[if_neg (fun z=>hin (ha.mp z))]
    refine⟨?_,fun z=>?_⟩
    ·show _=cnt _ n+(if(!decide (∃ j,j<n/\val j=val n))=true then 1 else 0)
     rw[List.length_append,h1,decide_eq_false (fun z=>hin (hm.mpr z))]
     rfl
    ·rw[mem,List.mem_append,h2];exact⟨fun h=>h.elim .inl fun e=>.inr (List.mem_singleton.mp e).symm,fun h=>h.elim .inl fun e=>.inr (by simp[e])⟩
theorem Ml{L:Nat->Nat}(h:uU N S L N.n):(PyProof.Rows.firstMet (fun i=>((L i:Nat):Int)) N.p).length=cnt (N.root S N.n) N.p:=by
 rw[(EL _ N.p).1];refine fX fun x hx=>?_
 unfold Net.root;rw[Bool.eq_iff_iff,Bool.not_eq_true',decide_eq_false_iff_not,decide_eq_true_iff]
 constructor
 ·intro hn;apply Classical.byContradiction;intro hne;have hle:=pD (N:=N) (S:=S) N.n x;have hlt:N.aM S N.n x<x:=by lia
  exact hn ⟨N.aM S N.n x,hlt,by
   have:=(h (N.aM S N.n x) x (by lia) hx).mpr (b9 N.n x)
   rw[this]⟩
 ·rintro hr ⟨j,hj,e⟩;have e:L j=L x:=by lia
  have e2:=(h j x (by lia) hx).mp e
  have:=pD (N:=N) (S:=S) N.n j
  lia
theorem Jz{m:Nat}(hm:m<2^N.n)(h0:m≠0)(d2:N.D2 m):N.Ring m↔cnt (N.root (fun k=>m.testBit k) N.n) N.p+cnt (fun x=>decide (N.dg m x=2)) N.p=N.p+1:=by
 have hR:∀ x,x<N.p->N.dg m x=0->N.root (fun k=>m.testBit k) N.n x=true:=fun x hx hd=>by
  unfold Net.root;rw[decide_eq_true_iff];exact alone hd (bQ _ _ _ (b9 N.n x).symm)
 have split:cnt (N.root (fun k=>m.testBit k) N.n) N.p=cnt (fun x=>!decide (N.dg m x=2)) N.p+cnt (fun x=>decide (N.dg m x=2)&&N.root (fun k=>m.testBit k) N.n x) N.p:=by
  rw[<-uG (fun x hx=>by cases decide (N.dg m x=2)<;>simp)]
  refine fX fun x hx=>?_
  rcases d2 x hx with h|h
  ·rw[hR x hx h,decide_eq_false (by lia)]
   rfl
  ·rw[decide_eq_true h];simp
 have cn:=kL (fun x=>decide (N.dg m x=2)) N.p
 obtain⟨k0,hk0⟩:∃ k,m.testBit k=true:=by
  apply Classical.byContradiction;intro h;exact h0 (Nat.eq_of_testBit_eq fun i=>by
   rw[Nat.zero_testBit];cases e:m.testBit i with
   | false=>rfl
   | true=>exact absurd ⟨i,e⟩ h)
 have hkn:=cD hm hk0;have Lg:=N.al k0 hkn;have hd0:N.dg m (N.a k0)=2:=by
  have:=uH hkn hk0 (.inl rfl:N.a k0=N.a k0\/N.b k0=N.a k0);rcases d2 _ Lg with h|h<;>lia
 rw[OO hm d2 Lg hd0];generalize hx:N.a k0=x0 at Lg hd0;have up:∀ x,x<N.p->N.dg m x=2->N.dg m (N.aM (fun k=>m.testBit k) N.n x)=2:=fun x hx hd=>by
  have hl:=jB (N:=N) (S:=fun k=>m.testBit k) (k:=N.n) hx
  rcases d2 _ hl with h|h
  ·have e:x=N.aM (fun k=>m.testBit k) N.n x:=alone h (bQ _ _ _ (b9 N.n x))
   rw[<-e]at h
   lia
  ·exact h
 have r0:N.aM (fun k=>m.testBit k) N.n x0<N.p:=jB Lg
 constructor
 ·intro h;have one:cnt (fun x=>decide (N.dg m x=2)&&N.root (fun k=>m.testBit k) N.n x) N.p=1:=by
   have:cnt (fun x=>decide (N.dg m x=2)&&N.root (fun k=>m.testBit k) N.n x) N.p=cnt (fun x=>decide (N.aM (fun k=>m.testBit k) N.n x0=x)) N.p:=fX fun x hx=>by
    rw[Bool.eq_iff_iff,Bool.and_eq_true,decide_eq_true_iff,decide_eq_true_iff];unfold Net.root;rw[decide_eq_true_iff]
    constructor
    ·rintro⟨h1,h2⟩;rw[<-(h x hx).mpr h1];exact h2
    ·rintro rfl;exact⟨up x0 Lg hd0,b9 N.n x0⟩
   rw[this,uF,if_pos r0]
  lia
 ·intro h x hx;have one:cnt (fun x=>decide (N.dg m x=2)&&N.root (fun k=>m.testBit k) N.n x) N.p=1:=by lia
  have ZQ:(decide (N.dg m (N.aM (fun k=>m.testBit k) N.n x0)=2)&&N.root (fun k=>m.testBit k) N.n (N.aM (fun k=>m.testBit k) N.n x0))=true:=by
   rw[Bool.and_eq_true,decide_eq_true_iff];unfold Net.root;rw[decide_eq_true_iff];exact⟨up x0 Lg hd0,b9 N.n x0⟩
  constructor
  ·intro e;rcases d2 x hx with h|h
   ·have e2:x0=x:=alone h (bQ _ _ _ e);rw[<-e2]at h
    lia
   ·exact h
  ·intro hd;have ZR:(decide (N.dg m (N.aM (fun k=>m.testBit k) N.n x)=2)&&N.root (fun k=>m.testBit k) N.n (N.aM (fun k=>m.testBit k) N.n x))=true:=by
    rw[Bool.and_eq_true,decide_eq_true_iff];unfold Net.root;rw[decide_eq_true_iff];exact⟨up x hx hd,b9 N.n x⟩
   apply Classical.byContradiction;intro hne;have:=tF (f:=fun x=>decide (N.dg m x=2)&&N.root (fun k=>m.testBit k) N.n x) ZR ZQ hne (jB hx) r0
   lia
variable {N:Net}{s u:Nat}
end RM
namespace Ring
open PySem L2
end Ring
namespace L2
open PySem PySem.Spec PySem.Calls PyProof.Rows PySem.W
end L2
namespace RM
theorem JA(n:Nat):∀ e,bz (fun j=>n.testBit j) (e+1)=(decide (n%2=1)^^bz (fun j=>(n/2).testBit j) e)
 | 0=>by
   show(false^^n.testBit 0)=(decide (n%2=1)^^false);rw[Nat.testBit_zero,Bool.false_xor,Bool.xor_false]
 | e+1=>by
   have ih:=JA n e;show(bz (fun j=>n.testBit j) (e+1)^^n.testBit (e+1))=(decide (n%2=1)^^(bz (fun j=>(n/2).testBit j) e^^(n/2).testBit e))
   rw[ih,Nat.testBit_succ,Bool.xor_assoc]
theorem JB(a b:Nat):(a&&&b)/2=a/2&&&b/2:=Nat.eq_of_testBit_eq fun i=>by
 rw[Nat.testBit_and,<-Nat.testBit_succ,<-Nat.testBit_succ,<-Nat.testBit_succ,Nat.testBit_and]
theorem Mm:∀(e n:Nat),n≠0->n<2^e->bz (fun j=>(n&&&(n-1)).testBit j) e = !bz (fun j=>n.testBit j) e:=by
 intro e
 induction e with
 | zero=>intro n h0 hn;simp at hn;exact absurd hn h0
 | succ e ih =>
   intro n h0 hn;have hb:(n&&&(n-1))%2=1↔False:=by
    have:=Nat.testBit_zero (n&&&(n-1));rw[Nat.testBit_and,Nat.testBit_zero,Nat.testBit_zero]at this
    constructor
    ·intro z;rw[decide_eq_true z,Bool.and_eq_true,decide_eq_true_iff,decide_eq_true_iff]at this
     lia
    ·exact False.elim
   rw[JA,JA,JB,decide_eq_false (fun z=>hb.mp z),Bool.false_xor]
   by_cases h2:n%2=1
   ·rw[decide_eq_true h2,show(n-1)/2=n/2 by lia,Nat.and_self]
    cases bz (fun j=>(n/2).testBit j) e<;>rfl
   ·rw[decide_eq_false h2,Bool.false_xor,show(n-1)/2=n/2-1 by lia]
    exact ih (n/2) (by lia) (by rw[Nat.pow_succ]at hn;lia)
theorem ku{b:Nat}{B:List Nat}:BR (b::B)↔BR B/\¬ Sp B b:=by
 have dbl:∀ z,(2*z).testBit 0=false:=fun z=>by rw[Nat.testBit_zero];exact decide_eq_false (by lia)
 have Vl:∀ z,(2*z+1).testBit 0=true:=fun z=>by rw[Nat.testBit_zero];exact decide_eq_true (by lia)
 constructor
 ·intro h;refine⟨fun z hz e=>?_,fun hs=>?_⟩
  ·have:=h (2*z) (by rw[List.length_cons,Nat.pow_succ];lia) (by
    unfold comb;rw[dbl,if_neg (by decide),Nat.zero_xor,show 2*z/2=z by lia]
    exact e)
   lia
  ·obtain⟨y,hy,e⟩:=yG hs;have:=h (2*y+1) (by rw[List.length_cons,Nat.pow_succ];lia) (by
    unfold comb;rw[Vl,if_pos rfl,show(2*y+1)/2=y by lia,e,Nat.xor_self])
   lia
 ·rintro⟨h,hs⟩ z hz e;unfold comb at e;rw[List.length_cons,Nat.pow_succ]at hz
  by_cases hb:z.testBit 0=true
  ·rw[if_pos hb]at e;have e2:=iB e;exact absurd (e2▸pN B (z/2)) hs
  ·rw[if_neg hb,Nat.zero_xor]at e;have h0:=h (z/2) (by lia) e
   rw[Nat.testBit_zero,decide_eq_true_iff]at hb
   lia
theorem Mn{B C:List Nat}(h:B.Perm C)(x:Nat):Sp B x↔Sp C x :=
 ⟨fun z=>z.mono fun b hb=>.mem (h.mem_iff.mp hb),fun z=>z.mono fun b hb=>.mem (h.mem_iff.mpr hb)⟩
theorem JC{B C:List Nat}(h:B.Perm C):BR B↔BR C:=by
 induction h with
 | nil=>exact Iff.rfl
 | cons x h ih=>rw[ku,ku,ih,Mn h]
 | swap x y l =>
   rw[ku,ku,ku,ku,Sp.mw,Sp.mw,Nat.xor_comm y x]
   constructor
   ·rintro⟨⟨h1,h2⟩,h3⟩;exact⟨⟨h1,fun z=>h3 (.inl z)⟩,fun z=>z.elim h2 fun z=>h3 (.inr z)⟩
   ·rintro⟨⟨h1,h2⟩,h3⟩;exact⟨⟨h1,fun z=>h3 (.inl z)⟩,fun z=>z.elim h2 fun z=>h3 (.inr z)⟩
 | trans _ _ i1 i2=>exact i1.trans i2
theorem Base.perm{N:Net}{rs rs' : List Nat}(b:Base N rs)(h:rs'.Perm rs):Base N rs' :=
 ⟨by rw[h.length_eq];exact b.len,fun r hr=>b.ring r (h.mem_iff.mp hr),(JC h).mpr b.ind⟩
end RM
namespace L2
open PySem PySem.Spec PyProof.Rows
def eF(q:Str)(pos:Pos):Array Value:=#[.str q 0,rawInt pos.line,rawInt pos.col]
def nG(pos:Pos)(c:Addr):Array Value:=#[rawInt pos.line,rawInt pos.col,.ref c]
def fR(H:Hp)(P c:Addr)(oc:Obj)(q:Str)(pos:Pos):Hp:=upd (upd H c (.kF oc (.own P))) P (.jz (eF q pos++nG pos c))
def given(H:Hp)(P c:Addr)(q:Str)(pos:Pos):Hp:=upd (upd H c (.own P)) P (.jz (eF q pos))
def CodeObj(oc:Obj)(q:Str):Prop:=∃ vs t,oc.data = .fields vs/\vs[1]?=some (.str q t)
theorem CodeObj.rec{h:Heap}{c:Addr}{oc:Obj}{q:Str}(x:CodeObj oc q)(e:h.get? c=some oc):h.CodeRec (.ref c) q :=
 let⟨vs,t,e1,e2⟩:=x
 ⟨c,oc,vs,t,rfl,e,e1,e2⟩
theorem OU{P:Program}{w:World}{H:Hp}{h:Heap}{a:Addr}{q:Str}{pos:Pos}(x:br P w H h a (.jz (eF q pos))):
 h.get? a=some (PySem.W.tabObj #[])\/∃ c oc,h.get? a=some (PySem.W.tabObj (nG pos c))/\H c=some (.own a)/\h.get? c=some oc/\CodeObj oc q:=by
 obtain⟨ps,e,f⟩:=x;rcases f with⟨_,f|⟨c,e1,e2,c',oc,vs,tq,hc,ho,hd,hv⟩⟩|⟨q',l,k,f,z⟩
 ·subst f;exact .inl e
 ·cases hc;subst e1;exact .inr ⟨c,oc,e,e2,ho,vs,tq,hd,hv⟩
 ·have:=congrArg Array.size f;rw[Array.size_append,z]at this;exact absurd this (by simp[eF])
theorem JD{P:Program}{w:World}{H:Hp}{h:Heap}{a c:Addr}{q:Str}{pos:Pos}(x:br P w H h a (.jz (eF q pos++nG pos c))):h.get? a=some (PySem.W.tabObj (nG pos c)):=by
 obtain⟨ps,e,f⟩:=x;rcases f with⟨f,_⟩|⟨q',l,k,f,z⟩
 ·rw[Array.size_append]at f;exact absurd f (by simp[eF,nG])
 ·have e2:=congrArg (fun a=>a.toList.drop 3) f
  simp only[Array.toList_append,eF,nG,List.cons_append,List.nil_append,List.drop_succ_cons,List.drop_zero]at e2;have e3:ps=nG pos c:=by
   apply Array.toList_inj.mp;exact e2.symm
  rw[<-e3];exact e
abbrev AI(X:Cx)(params:Arguments)(body:Expr)(scope:Scope)(c:Addr)(ctv:Value):FuncData :=
 PySem.W.kla_fn "<lambda>" (X.env.qual ++ "<lambda>") params body scope (c9 X.env.cells scope.names []) ((X.mg "__name__").getD .none) (.ref c) ctv
abbrev dU(X:Cx)(params:Arguments)(body:Expr)(scope:Scope)(c:Addr)(ctv:Value):Obj :=
 { cls:=.type "function",data:=.func (AI X params body scope c ctv)}
section
variable {X:Cx}{pins:aV}{σ:St}{H H2:Hp}{s:Shared}{params:Arguments}{body:Expr}{scope:Scope}{pos:Pos}{own frees:List Str}{js:List Nat}{c P:Addr}
theorem AJ{Q:dw}{E:dw}
 (I:Inv X pins σ H s) (T:dI X scope own frees js) (hcode:X.env.code = .ref c) (hK:PySem.W.codeHdIn X.K c P=true) (hP:H P=some (.jz (eF (X.env.qual ++ "<lambda>") pos)))
 (hdef:defaultsOf params X.env=([],[]))
 (h:∀ f c' oc ctv s',(H c' = none\/H c' = some (.own P))->c'≠P->CodeObj oc (X.env.qual ++ "<lambda>")->Inv X ((f,dU X params body scope c' ctv)::pins) σ (fR H P c' oc (X.env.qual ++ "<lambda>") pos) s'->Q (.ref f) s') :
 wpAny (model X.prog X.w) X.A (eval (.Lambda params body scope pos) X.env) Q E s:=by
 have Lg:=OU (show br X.prog X.w H s.heap P (.jz (eF (X.env.qual ++ "<lambda>") pos)) from I.hok P _ hP)
 have C:PySem.W.CodeHd s.heap c P:=PySem.W.codeHd_of_K I.zN hK;have hg:=I.mod.glob.keeps I.bk;have W0:∀ b o,X.base.get? b=some o->b≠P:=fun b o q z=>by
  have:=(I.bs b o q).2;rw[z,hP]at this;cases this
 have hgP:mainGlobals≠P:=by
  obtain⟨o,es,ep,q,_⟩:=I.mod.glob;exact W0 _ o q
 have hb:s.heap.BuiltinsAt X.mg P:=by
  obtain⟨bm,ob,b1,b2,b3,b4,b5,b6⟩:=I.mod.bmain;refine⟨bm,ob,b1,b2,fun z=>?_,W0 _ _ b3,I.bk _ _ b3,b4,b5,b6⟩
  obtain⟨o,es,ep,q,hd,_⟩:=I.mod.glob;rw[z,q]at b3;cases b3;rw[hd]at b6;cases b6
 have hcl:=nW (gO I T);have fin:∀(f c' : Addr) (oc:Obj) (ctv:Value) (h2:Heap) (tk:Nat),(H c' = none\/H c' = some (.own P))->c'≠P->(H c' = none->s.heap.objs.size<=c')->CodeObj oc (X.env.qual ++ "<lambda>")->(∀ b o,b≠P->s.heap.get? b=some o->h2.get? b=some o)->
  h2.get? P=some (PySem.W.tabObj (nG pos c'))->h2.get? c' = some oc->s.heap.objs.size<=f->f≠c'->h2.get? f=some (dU X params body scope c' ctv)->
  Inv X ((f,dU X params body scope c' ctv)::pins) σ (fR H P c' oc (X.env.qual ++ "<lambda>") pos) { s with heap:=h2,toks:=tk}:=by
  intro f c' oc ctv h2 tk hc AK hnew hoc hx TH hct hf hfc ZS;have nP:∀ b,H b=none->b≠P:=fun b n z=>by rw[z,hP]at n;cases n
  have Mp:∀ b u,H b=some u->(∀ y,u≠.own y)->(∀ qs,u≠.jz qs)->fR H P c' oc (X.env.qual ++ "<lambda>") pos b=some u:=fun b u e n1 n2=>by
   unfold fR;rw[aq (fun z=>by rw[z,hP]at e;exact n2 _ (Option.some.inj e).symm),aq (fun z=>by
    rw[z]at e;rcases hc with q|q
    ·rw[q]at e;cases e
    ·rw[q]at e;exact n1 _ (Option.some.inj e).symm)]
   exact e
  have OV:∀ b,H b=none->(b<s.heap.objs.size\/b≠c')->fR H P c' oc (X.env.qual ++ "<lambda>") pos b=none:=fun b n hb=>by
   unfold fR;rw[aq (nP b n),aq (fun z=>by
    rcases hb with q|q
    ·rw[z]at q n;exact absurd (hnew n) (Nat.not_le.mpr q)
    ·exact q z)]
   exact n
  have un:Un X.fs [] H (fR H P c' oc (X.env.qual ++ "<lambda>") pos) s.heap h2:=by
   refine⟨fun b o q n _ _=>hx b o (nP b n) q,fun b o q n _ _=>⟨o.slots,hx b o (nP b n) q⟩,fun b o q n _=>OV b n (.inl (Heap.lt_size q)),fun b o q _=>?_,fun b xs q=>Mp b _ q (by intro y z;cases z) (by intro y z;cases z),fun b o u q=>Mp b _ q (by intro y z;cases z) (by intro y z;cases z),fun b ps q=>?_⟩
   ·by_cases hb:b=P
    ·exact⟨_,by rw[hb];exact TH⟩
    ·exact⟨o,hx b o hb q⟩
   ·by_cases hb:b=P
    ·subst hb;rw[hP]at q;cases q;exact⟨nG pos c',ae⟩
    ·refine⟨#[],?_⟩;unfold fR;rw[aq hb,aq (fun z=>by
      rw[z]at q;rcases hc with r|r<;>(rw[r]at q;cases q)),q]
     simp
  have hok:lU X.prog X.w (fR H P c' oc (X.env.qual ++ "<lambda>") pos) h2:=fun b u q=>by
   by_cases zO:b=P
   ·subst zO;unfold fR at q;rw[ae]at q;cases q;exact⟨_,TH,.inr ⟨_,_,_,rfl,rfl⟩⟩
   ·by_cases hbc:b=c'
    ·subst hbc;unfold fR at q;rw[aq zO,ae]at q;cases q;exact⟨hct,oc,hct⟩
    ·have q' : H b=some u:=by
      unfold fR at q;rw[aq zO,aq hbc]at q;exact q
     have ow:∀ d,H d=some (.own b)->d≠P/\d≠c':=fun d qd=>⟨aW qd hP (by intro z;cases z),fun z=>by
      rw[z]at qd;rcases hc with r|r
      ·rw[r]at qd;cases qd
      ·rw[r]at qd;cases qd;exact zO rfl⟩
     refine(I.hok b u q').stay (fun d v hd qd=>hx d v ?_ qd) (fun d qd=>?_) fun d xs qd=>Mp d _ qd (by intro y z;cases z) (by intro y z;cases z)
     ·rcases hd with rfl|hd
      ·exact zO
      ·exact(ow d hd).1
     ·unfold fR;rw[aq (ow d qd).1,aq (ow d qd).2];exact qd
  have J:=I.un (t':=tk) un hok;have ZT:H f=none:=I.hok.fresh hf;refine J.gn fun p hp=>?_
  rcases List.mem_cons.mp hp with rfl|hp
  ·exact⟨ZS,OV _ ZT (.inr hfc),Nat.ne_of_gt (Nat.lt_of_lt_of_le I.lt hf),I.QC hf,fun v z=>by cases z⟩
  ·exact J.pin p (List.mem_append_right _ hp)
 refine PySem.W.kla_eval hdef ?_;rcases Lg with e|⟨c',oc,e,ho,hct,hoc⟩
 ·refine PySem.W.kla_makeFunction (mg:=X.mg) hcl I.ok.glob hg hcode C e trivial rfl hgP hb fun c' ctv h' tk hx hge hlt hrec htb=>?_
  obtain⟨c2,oc,vs,t,e2,hct,hd,hv⟩:=hrec;cases e2;have hf:s.heap.objs.size<=h'.objs.size:=Nat.le_trans hge (Nat.le_of_lt hlt);have AK:c'≠P:=Nat.ne_of_gt (Nat.lt_of_lt_of_le (Heap.lt_size e) hge);exact h _ c' oc ctv _ (.inl (I.hok.fresh hge)) AK ⟨vs,t,hd,hv⟩ (fin _ c' oc ctv _ tk (.inl (I.hok.fresh hge)) AK (fun _=>hge) ⟨vs,t,hd,hv⟩ (fun b o hb q=>Heap.get?_push_of_some _ (hx b o hb q)) (Heap.get?_push_of_some _ htb) (Heap.get?_push_of_some _ hct) hf (Nat.ne_of_gt hlt) (Heap.get?_push_size _ rfl))
 ·have hf:codeAmong pos (nG pos c').toList=some (.ref c'):=codeAmong_snoc [] trivial rfl;have tr:TriplesOk (nG pos c').toList:=TriplesOk_snoc pos.line pos.col (.ref c') [] trivial;refine PySem.W.kla_makeFunctionHit (mg:=X.mg) hcl I.ok.glob hg hcode C e tr hf hb fun ctv h' tk hk hsz=>?_
  have AK:c'≠P:=aW ho hP (by intro z;cases z)
  have hk' : ∀ b o,s.heap.get? b=some o->(h'.push (dU X params body scope c' ctv)).get? b=some o:=fun b o q=>Heap.get?_push_of_some _ (hk b o q)
  exact h _ c' oc ctv _ (.inr ho) AK hoc (fin _ c' oc ctv _ tk (.inr ho) AK (fun z=>by rw[ho]at z;cases z) hoc (fun b o _ q=>hk' b o q) (hk' _ _ e) (hk' _ _ hct) hsz (Nat.ne_of_gt (Nat.lt_of_lt_of_le (Heap.lt_size hct) hsz)) (Heap.get?_push_size _ rfl))
theorem AL{uV:aV}{σ0:St}{s0:Shared}{q:Str}{oc:Obj}(I0:Inv X uV σ0 H s0)(hP:H P=some (.jz (eF q pos)))(hc:H c=none\/H c=some (.own P))(AK:c≠P)(hoc:CodeObj oc q)
 (I:Inv X pins σ H2 s) (e1:H2 P=some (.jz (eF q pos++nG pos c))) (e2:H2 c=some (.kF oc (.own P))):Inv X pins σ (given H2 P c q pos) s:=by
 have TH:=JD (show br X.prog X.w H2 s.heap P (.jz (eF q pos++nG pos c)) from I.hok P _ e1)
 obtain⟨hct,_⟩:=(show br X.prog X.w H2 s.heap c (.kF oc (.own P)) from I.hok c _ e2)
 have OV:∀ b,H2 b=none->given H2 P c q pos b=none:=fun b n=>by
  unfold given;rw[aq (fun z=>by rw[z,e1]at n;cases n),aq (fun z=>by rw[z,e2]at n;cases n)]
  exact n
 have Mp:∀ b u,b≠P->b≠c->H2 b=some u->given H2 P c q pos b=some u:=fun b u n1 n2 e=>by
  unfold given;rw[aq n1,aq n2];exact e
 refine⟨I.ok,I.os,I.bare,⟨I.base.keep,I.base.slot,fun b o z n hx=>OV b (I.base.free b o z n hx),I.base.there,fun b xs z=>?_,fun b o u z=>?_,fun b ps z=>?_⟩,I.loc,I.cell,OV _ I.free,fun x c' z=>OV _ (I.fB x c' z),fun p hp=>?_,fun b u z=>?_,I.len⟩
 ·have r:=I.base.tups b xs z;exact Mp b _ (aW r e1 (by intro z;cases z)) (aW r e2 (by intro z;cases z)) r
 ·have r:=I.base.kG b o u z;refine Mp b _ (aW r e1 (by intro z;cases z)) (fun y=>?_) r
  have r0:=I0.base.kG b o u z;rw[y]at r0;rcases hc with hc|hc<;>(rw[hc]at r0;cases r0)
 ·by_cases hb:b=P
  ·subst hb;obtain⟨more,r0⟩:=I0.base.lV b ps z;rw[hP]at r0;exact⟨more,by unfold given;rw[ae];exact r0⟩
  ·obtain⟨more,r⟩:=I.base.lV b ps z;exact⟨more,Mp b _ hb (aW r e2 (by intro z;cases z)) r⟩
 ·obtain⟨a1,a2,a3⟩:=I.pin p hp;exact⟨a1,OV _ a2,a3⟩
 ·by_cases zO:b=P
  ·subst zO;unfold given at z;rw[ae]at z;cases z;refine⟨_,TH,.inl ⟨rfl,.inr ⟨c,rfl,?_,hoc.rec hct⟩⟩⟩;unfold given;rw[aq AK,ae]
  ·by_cases hbc:b=c
   ·subst hbc;unfold given at z;rw[aq zO,ae]at z;cases z;exact⟨oc,hct⟩
   ·have z' : H2 b=some u:=by
     unfold given at z;rw[aq zO,aq hbc]at z;exact z
    refine(I.hok b u z').stay (fun _ _ _ r=>r) (fun d r=>Mp d _ (aW r e1 (by intro z;cases z)) (aW r e2 (by intro z;cases z)) r) fun d xs r=>Mp d _ (aW r e1 (by intro z;cases z)) (aW r e2 (by intro z;cases z)) r
theorem AM{q:Str}{oc:Obj}(hP:H P=some (.jz (eF q pos)))(hc:H c=none\/H c=some (.own P))(AK:c≠P)(S:av (fR H P c oc q pos) H2):av H (given H2 P c q pos):=fun b u e=>by
 unfold given
 by_cases zO:b=P
 ·subst zO;rw[ae,<-hP];exact e
 ·rw[aq zO]
  by_cases hbc:b=c
  ·subst hbc;rw[ae];rcases hc with hc|hc
   ·rw[hc]at e;cases e
   ·rw[<-hc];exact e
  ·rw[aq hbc];refine S b u ?_;unfold fR;rw[aq zO,aq hbc];exact e
theorem tK{q:Str}{oc:Obj}{b:Addr}{u:HO}(hP:H P=some (.jz (eF q pos)))(hc:H c=none\/H c=some (.own P))(e:H b=some u)(n1:∀ y,u≠.own y)(n2:∀ qs,u≠.jz qs):fR H P c oc q pos b=some u:=by
 unfold fR;rw[aq (fun z=>by rw[z,hP]at e;exact n2 _ (Option.some.inj e).symm),aq (fun z=>by
  rw[z]at e;rcases hc with q|q
  ·rw[q]at e;cases e
  ·rw[q]at e;exact n1 _ (Option.some.inj e).symm)]
 exact e
def uW(X:Cx)(N:List Str)(scope:Scope)(f c:Addr)(A:Around)(s:Shared)(H:Hp):Cx where
 prog:=X.prog
 w:=X.w
 K:=X.K
 mg:=X.mg
 base:=X.base
 A:=A.deeper (PySem.W.envX (X.env.qual ++ "<lambda>") scope s.heap.objs.size f (.ref c) (c9 X.env.cells scope.names []))
 N:=N
 s₀:=s
 H₀:=H
 env:=PySem.W.envX (X.env.qual ++ "<lambda>") scope s.heap.objs.size f (.ref c) (c9 X.env.cells scope.names [])
 outer:=X.stack
 stack:=PySem.W.envX (X.env.qual ++ "<lambda>") scope s.heap.objs.size f (.ref c) (c9 X.env.cells scope.names [])::X.stack
 ex:=[]
 fn:=fun _=>false
 calm:=X.calm
 pn:=[]
 xe:=fun _ _=>False
theorem Mq{f:Addr}{A:Around}{x:Str}{v:V}{u:Value}{h1:Heap}{t1:Nat}(I:Inv X pins σ H s)(T:dI X scope [x] frees js)(hx:scope.names.lookup x=some .local)
 (hfr:A.frames=some X.stack) (hh:A.handled=X.A.handled) (r:RelV v u) (old:∀ b o,s.heap.get? b=some o->h1.get? b=some o) (hn:h1.Ns s.heap.objs.size (fun y=>[(x,u)].reverse.lookup y)) :
 Inv (uW X ([x]++frees) scope f c A s H) [] (some v::fj σ js) H { s with heap:=h1,toks:=t1}:=by
 have cells:∀ x c,(c9 X.env.cells scope.names []).lookup x=some c->X.env.cells.lookup x=some c:=fun x c h=>by
  rcases jA h with q|⟨q1,q2⟩
  ·cases q
  ·obtain⟨c',hc'⟩:=gO I T x .free q1 rfl;rw[hc']at q2;rw[hc'];exact congrArg some q2
 refine⟨⟨I.ok.mod,T.kind,rfl,rfl,Nat.le_refl _,fun x y c a b=>I.ok.inj x y c (cells x c a) (cells y c b),fun y hy=>?_,fun x c z _=>(nomatch z),fun hc=>hh.trans (I.ok.hd hc),Around.frames_deeper hfr,.inr ⟨rfl,rfl⟩,fun b hb=>absurd (show b∈([]:List Addr) from hb) (by simp),
  fun b o e=>I.bs b o e,Nat.le_trans I.ok.Lq I.sz,fun b o _ hb=>absurd (show b∈([]:List Addr) from hb) (by simp),fun b hb=>absurd (show b∈([]:List Addr) from hb) (by simp),I.stack,I.yh⟩,
  rfl,I.bare,Un.kept old,⟨_,hn,fun i y v' e1 e2 e3=>?_⟩,fun y c e=>?_,I.hok.fresh (Nat.le_refl _),fun y c e=>I.fB y c (cells y c e),fun p hp=>absurd (show p∈([]:aV) from hp) (by simp),I.hok.kept old,?_⟩
 ·have hy:scope.names.lookup y=some .cell\/scope.names.lookup y=some .free:=hy;rcases hy with hy|hy
  ·exact absurd rfl (T.yq _ (PySem.mem_of_lookup hy))
  ·exact ji (.inl (PySem.mem_of_lookup hy))
 ·replace e1:([x]++frees)[i]?=some y:=e1
  cases i with
  | zero =>
    have e1:x=y:=by simpa using e1
    have e2:v=v':=by simpa using e2
    subst e1 e2;exact⟨u,r,.inl ⟨hx,by simp⟩⟩
  | succ i =>
    have e1:frees[i]?=some y:=by simpa using e1
    have e2:(fj σ js)[i]?=some (some v'):=by simpa using e2
    obtain⟨j,hj,hσ⟩:=uc e2;have hN:X.N[j]?=some y:=by
     have q:=congrArg (fun l=>l[i]?) T.at_
     simp only[List.getElem?_map,hj,e1,Option.map_some]at q;exact Option.some.inj q
    have hfx:=T.fr y (List.mem_of_getElem? e1);have hm:=PySem.mem_of_lookup hfx;have hk:=T.free (y,.free) hm rfl;obtain⟨m0,hn0,Ei⟩:=I.loc;obtain⟨u',r',l⟩:=Ei j y v' hN hσ (by rcases hk with k|k;exact .inr (.inl k);exact .inr (.inr k))
    refine⟨u',r',.inr ⟨.inr hfx,?_⟩⟩;rcases l with⟨lP,_⟩|⟨_,c1,hc,hcell⟩
    ·have lP:X.env.scope.names.lookup y=some .local:=lP;rcases hk with k|k<;>(rw[lP]at k;cases k)
    ·obtain⟨c',hc'⟩:=ji (cells:=X.env.cells) (names:=scope.names) (cs:=[]) (x:=y) (.inl hm);have q:=cells y c' hc';rw[hc]at q;cases q;exact⟨c1,hc',hcell.keeps old⟩
 ·obtain⟨v',q⟩:=I.cell y c (cells y c e);exact⟨v',q.keeps old⟩
 ·show _=([x]++frees).length;have q:=congrArg List.length T.at_;rw[List.length_map,List.length_map]at q;simp only[List.length_cons,List.length_append,List.length_nil];unfold fj;rw[List.length_map]
  lia
theorem AN{f:Addr}{ctv:Value}{A:Around}{te:TE}{x:Str}{v:V}{u:Value}{Q:VK}{E:dw}(I:Inv X pins σ H s)(T:dI X scope [x] frees js)(hx:scope.names.lookup x=some .local)
 (hfr:A.frames=some X.stack) (hh:A.handled=X.A.handled) (hroom:A.depth<recursionLimit) (hp:(f,dU X params body scope c ctv)∈pins) (hcd:s.heap.CodeRec (.ref c) (X.env.qual ++ "<lambda>"))
 (hb:bindArgs (AI X params body scope c ctv) ⟨[u],[]⟩=pure [(x,u)]) (hco:scope.isCoroutine=false) (hgen:scope.isGenerator=false)
 (he:PE (uW X ([x]++frees) scope f c A s H) body te) (r:RelV v u) (h:te (some v::fj σ js) H Q) :
 wpAny (model X.prog X.w) A (call (.ref f) [u]) (fun u' s'=>∃ v' H',Inv X pins σ H' s'/\RelV v' u'/\Q v' H') E s:=by
 have hf:=I.pin _ (List.mem_append_right _ hp);refine wpAny_call (PySem.W.kla_callFunE hroom hf.1 rfl hco hgen rfl hcd ?_);rw[hb];refine wpAny_pure (wpAny_newFunctionEnv (fun y hy=>T.yq y hy) (by intro y hy;have:=List.mem_singleton.mp hy;subst this;exact hx) (fun h₁ hns RJ=>⟨I.nolimit.fresh _ RJ,?_⟩) T.kind)
 show codeAny _ _ (.expr body (PySem.W.envX (X.env.qual ++ "<lambda>") scope s.heap.objs.size f (.ref c) (c9 X.env.cells scope.names []))) _ _;have old:∀ b o,s.heap.get? b=some o->h₁.get? b=some o:=fun b o e=>RJ.extBut b o (Nat.ne_of_lt (Heap.lt_size e)) (Heap.get?_push_of_some _ e)
 have J:=Mq (f:=f) (c:=c) (A:=A) (t1:=s.toks+[(x,u)].length) I T hx hfr hh r old hns;refine PySem.W.kla_codeExpr (wpAny_mono (he [] _ _ H Q J h) (fun u' s' hq=>?_) fun _ _ z=>z.elim)
 obtain⟨v',H',J',r',q'⟩:=hq;exact⟨v',H',I.HE (ch:=[]) J'.os J'.base J'.hok J'.bare (fun b z=>absurd z (by simp)),r',q'⟩
end
end L2
namespace HT
theorem gw:∀ a:List Int,lexLt a a=false
 | []=>rfl
 | x::xs=>by rw[gM,if_pos rfl];exact gw xs
theorem sC:∀{a b c:List Int},lexLt a b=true->lexLt b c=true->lexLt a c=true
 | [],[],_,h,_=>by rw[nL]at h;cases h
 | [],_::_,[],_,h=>by rw[gq]at h;cases h
 | [],_::_,_::_,_,_=>rfl
 | _::_,[],_,h,_=>by rw[gq]at h;cases h
 | _::_,_::_,[],_,h=>by rw[gq]at h;cases h
 | x::xs,y::ys,z::zs,h1,h2=>by
   rw[gM]at h1 h2 ⊢
   by_cases e1:x=y
   ·rw[if_pos e1]at h1
    by_cases e2:y=z
    ·rw[if_pos e2]at h2;rw[if_pos (e1.trans e2)];exact sC h1 h2
    ·rw[if_neg e2]at h2;rw[if_neg (fun q=>e2 (e1.symm.trans q)),e1]
     exact h2
   ·rw[if_neg e1]at h1;have h1:=of_decide_eq_true h1
    by_cases e2:y=z
    ·subst e2;rw[if_neg e1];exact decide_eq_true h1
    ·rw[if_neg e2]at h2;have h2:=of_decide_eq_true h2;rw[if_neg (by lia)]
     exact decide_eq_true (by lia)
theorem uX{a b c:List Int}(h1:lexLt c b=false)(h2:lexLt a b=true):lexLt c a=false:=by
 cases q:lexLt c a with
 | false=>rfl
 | true=>rw[sC q h2]at h1;cases h1
end HT
namespace L2
open PySem PySem.Spec PyProof.Rows
def TJ(h:Heap)(a:Addr)(es:Array DictEntry)(ep:Nat):Prop:=∃ o,h.get? a=some o/\o.ExactDict/\o.data = .dict es ep
def TL(o:Obj)(a:Addr)(i n ep:Nat):Prop:=o.cls = .type "dict_keyiterator"/\o.data = .fields #[.ref a,.int i 0,.int n 0,.int ep 0]
section
variable {P:Program}{w:World}{A:Around}{E:dw}{s:Shared}{a it:Addr}{es:Array DictEntry}{ep i:Nat}{oi:Obj}
theorem JE{Q:dw}(hs:(a==sysModules)=false)(g:TJ s.heap a es ep)
 (q:Q (.ref s.heap.objs.size) { s with heap:=s.heap.push { cls:=.type "dict_keyiterator",data:=.fields #[.ref a,.int 0 0,.int es.size 0,.int ep 0]}}):wpAny (model P w) A (pyIter (.ref a)) Q E s:=by
 obtain⟨o,ho,hc,hd⟩:=g;have hT:s.TypeIs (.ref a) "dict":=⟨o,ho,hc.1⟩;refine wpAny_pyIter_slot hT PySem.F.slot_dict_iter (wpAny_call_entry PySem.F.slot_dict_iter hT PySem.F.entry_dict_iter ?_ (PySem.F.args_dict_iter_1 _));unfold Builtin.«dict.__iter__» Builtin.Dict.dictSlotNone;refine wpAny_bind (wpAny_bind (wpAny_notOrdered_dict hT ?_));show wpAny _ _ (pure (Value.ref a)) _ _ s;refine wpAny_pure ?_;show wpAny _ _ (Builtin.Dict.showsAll a >>= _) _ _ s;unfold Builtin.Dict.showsAll;rw[hs];refine wpAny_bind (wpAny_pure (wpAny_bind (wpAny_dictEntries ho hd (wpAny_bind (wpAny_dictEpoch ho hd ?_)))));exact wpAny_bind (wpAny_newObj_type (wpAny_pure ⟨_,rfl,"dict_keyiterator",_,⟨_,Heap.get?_push_size _ rfl,rfl⟩,PySem.F.slot_dict_keyiterator_next.lookup,q⟩))
theorem uY{Q:Option Value->Shared->Prop}(hi:s.heap.get? it=some oi)(g:TL oi a i es.size ep)(gd:TJ s.heap a es ep)
 (q:match (es[i]?:Option DictEntry) with
  | some e=>∀ h' oi',h'.get? it=some oi'->TL oi' a (i+1) es.size ep->Heap.SameBut it s.heap h'->Q (some e.key) { s with heap:=h'}
  | none=>A.handled=none/\∀ h',Heap.ExtBut it s.heap h'->Q none { s with heap:=h'}):wpAny (model P w) A (pyNext (.ref it)) Q E s:=by
 obtain⟨hc,hd⟩:=g;obtain⟨o,ho,hx,W3⟩:=gd;have hT:s.TypeIs (.ref it) "dict_keyiterator":=⟨oi,hi,hc⟩;unfold pyNext;refine wpAny_bind (wpAny_attempt (wpAny_callSpecial?_slot (name:=Str.ofString "__next__") hT PySem.F.slot_dict_keyiterator_next (wpAny_call_entry PySem.F.slot_dict_keyiterator_next hT PySem.F.entry_dict_keyiterator_next ?_ (PySem.F.args_dict_keyiterator_next_1 _))));refine wpAny_bind (wpAny_pure (wpAny_bind (wpAny_bind ?_)))
 first | refine wpAny_bind (wpAny_typeNameOfWhole_keyiter hT (wpAny_pure ?_)) | refine wpAny_bind (wpAny_typeNameOf_keyiter hT (wpAny_pure ?_))
 refine wpAny_bind (wpAny_fieldsOf hi hd ?_);have hown:Builtin.Dict_items.ownsTuple "dict_keyiterator"=false:=by decide
 simp only[hown,Bool.false_eq_true,if_false];show wpAny _ _ (if(Value.ref a==Value.none)=true then _ else _) _ _ s
 rw[if_neg (show ¬((Value.ref a==Value.none)=true) from Bool.false_ne_true)]
 refine wpAny_bind (wpAny_pure (wpAny_bind (wpAny_dictEntries ho W3 ?_)));rw[if_neg (by simp)]
 refine wpAny_bind (wpAny_pure (wpAny_bind (wpAny_dictEpoch ho W3 ?_)));rw[if_neg (by simp)]
 refine wpAny_pure ?_;simp only[show ¬((i:Int)<0) from by lia,if_false,Int.toNat_natCast]
 cases hei:(es[i]?:Option DictEntry) with
 | some e =>
   rw[hei]at q;refine wpAny_bind ?_
   first | refine wpAny_bind (wpAny_typeNameOfWhole_keyiter hT (wpAny_pure ?_)) | refine wpAny_bind (wpAny_typeNameOf_keyiter hT (wpAny_pure ?_))
   refine wpAny_bind (wpAny_isOneOf_keyiter hT ?_);show wpAny _ _ (setField (.ref it) 1 (rawInt ((i:Int)+1)) >>= _) _ _ s;refine wpAny_bind (wpAny_setField hi hd (by simp) ?_)
   have d1:=Obj.data_mapFields hd (·.setIfInBounds 1 (rawInt ((i:Int)+1)));have g1:=Heap.get?_update_self (Obj.mapFields (·.setIfInBounds 1 (rawInt ((i:Int)+1)))) hi (Obj.isFreed_of_fields d1);have c1:(Obj.mapFields (·.setIfInBounds 1 (rawInt ((i:Int)+1))) oi).cls = .type "dict_keyiterator":=(Obj.cls_mapFields ..).trans hc;refine wpAny_bind (wpAny_holding ?_);refine wpAny_bind (wpAny_isOneOf_keyiter (s:={ s with heap:=s.heap.update it (Obj.mapFields (·.setIfInBounds 1 (rawInt ((i:Int)+1))))}) ⟨_,g1,c1⟩ ?_)
   show wpAny _ _ (pure e.key) _ _ _;exact wpAny_pure (wpAny_pure ⟨_,rfl,wpAny_pure (q _ _ g1 ⟨c1,by rw[d1];simp[rawInt]⟩ (Heap.SameBut.update ..))⟩)
 | none =>
   rw[hei]at q;obtain⟨hh,q⟩:=q;refine wpAny_bind ?_
   first | refine wpAny_bind (wpAny_typeNameOfWhole_keyiter hT (wpAny_pure ?_)) | refine wpAny_bind (wpAny_typeNameOf_keyiter hT (wpAny_pure ?_))
   show wpAny _ _ (setField (.ref it) 0 .none >>= _) _ _ s;refine wpAny_bind (wpAny_setField hi hd (by simp) ?_)
   show wpAny _ _ (newExc (.type "StopIteration") [] >>= _) _ _ _;refine wpAny_bind ?_;simp only[newExc,newTuple];refine wpAny_bind (wpAny_newObj_type (wpAny_bind (m:=firstArgMember _ _) (wpAny_of_eq (a:=Value.none) (by first | rfl | (simp only[firstArgMember];rfl)) (wpAny_newObj_type ?_ (by size_fits)))) (by size_fits))
   simp only[raiseNew];refine wpAny_bind (wpAny_handled ?_);rw[show A.in1.handled=none from hh]
   refine wpAny_bind (wpAny_pure (wpAny_throw ?_));refine wpAny_bind (wpAny_isInstance (T:="StopIteration") (b:=true) ⟨_,Heap.get?_push_size _ rfl,rfl⟩ isSubtype_stop (wpAny_pure ?_));exact q _ (((Heap.SameBut.update ..).extBut.push _).push _)
end
section
variable {X:Cx}{pins:aV}{σ:St}{H H2:Hp}{s:Shared}
theorem Inv.Mr{a:Addr}{kvs:List (List Key×V)}{ob:Obj}(I:Inv X pins σ H s)(e:H a=some (.dT kvs))(ho:s.heap.get? a=some ob):Inv X pins σ (upd H a (.kF ob (.dT kvs))) s:=by
 have ne:∀ b,H b=none->b≠a:=fun b h z=>by rw[z,e]at h;cases h
 refine⟨I.ok,I.os,I.bare,⟨I.base.keep,I.base.slot,fun b o q n hx=>?_,I.base.there,fun b xs q=>?_,fun b o u q=>?_,fun b ps q=>?_⟩,I.loc,I.cell,?_,fun x c q=>?_,fun p hp=>?_,fun b u q=>?_,I.len⟩
 ·have z:=I.base.free b o q n hx;rw[aq (ne b z)];exact z
 ·have z:=I.base.tups b xs q;rw[aq (aW z e (by intro z;cases z))]
  exact z
 ·have z:=I.base.kG b o u q;rw[aq (aW z e (by intro z;cases z))]
  exact z
 ·obtain⟨more,z⟩:=I.base.lV b ps q;exact⟨more,by rw[aq (aW z e (by intro z;cases z))];exact z⟩
 ·rw[aq (ne _ I.free)];exact I.free
 ·rw[aq (ne _ (I.fB x c q))];exact I.fB x c q
 ·obtain⟨a1,a2,a3⟩:=I.pin p hp;exact⟨a1,by rw[aq (ne _ a2)];exact a2,a3⟩
 ·by_cases hb:b=a
  ·subst hb;rw[ae]at q;cases q;exact⟨ho,(I.hok b _ e).stay (fun _ _ _ q=>q) (fun c q=>by rw[aq (aW q e (by intro z;cases z))];exact q) fun c xs q=>by rw[aq (aW q e (by intro z;cases z))];exact q⟩
  ·rw[aq hb]at q;exact(I.hok b u q).stay (fun _ _ _ q=>q) (fun c q=>by rw[aq (aW q e (by intro z;cases z))];exact q) fun c xs q=>by rw[aq (aW q e (by intro z;cases z))];exact q
theorem Inv.RK{uV:aV}{σ0:St}{s0:Shared}{a:Addr}{kvs:List (List Key×V)}{ob:Obj}(I0:Inv X uV σ0 H s0)(e0:H a=some (.dT kvs))(I:Inv X pins σ H2 s)(e:H2 a=some (.kF ob (.dT kvs))):
 Inv X pins σ (upd H2 a (.dT kvs)) s:=by
 have ne:∀ b,H2 b=none->b≠a:=fun b h z=>by rw[z,e]at h;cases h
 obtain⟨ho,hd⟩:=(show br X.prog X.w H2 s.heap a (.kF ob (.dT kvs)) from I.hok a _ e)
 refine⟨I.ok,I.os,I.bare,⟨I.base.keep,I.base.slot,fun b o q n hx=>?_,I.base.there,fun b xs q=>?_,fun b o u q=>?_,fun b ps q=>?_⟩,I.loc,I.cell,?_,fun x c q=>?_,fun p hp=>?_,fun b u q=>?_,I.len⟩
 ·have z:=I.base.free b o q n hx;rw[aq (ne b z)];exact z
 ·have z:=I.base.tups b xs q;rw[aq (aW z e (by intro z;cases z))]
  exact z
 ·have z:=I.base.kG b o u q;rw[aq (fun y=>by
   have z0:=I0.base.kG b o u q;rw[y,e0]at z0;cases z0)]
  exact z
 ·obtain⟨more,z⟩:=I.base.lV b ps q;exact⟨more,by rw[aq (aW z e (by intro z;cases z))];exact z⟩
 ·rw[aq (ne _ I.free)];exact I.free
 ·rw[aq (ne _ (I.fB x c q))];exact I.fB x c q
 ·obtain⟨a1,a2,a3⟩:=I.pin p hp;exact⟨a1,by rw[aq (ne _ a2)];exact a2,a3⟩
 ·by_cases hb:b=a
  ·subst hb;rw[ae]at q;cases q;exact hd.stay (fun _ _ _ q=>q) (fun c q=>by rw[aq (aW q e (by intro z;cases z))];exact q) fun c xs q=>by rw[aq (aW q e (by intro z;cases z))];exact q
  ·rw[aq hb]at q;exact(I.hok b u q).stay (fun _ _ _ q=>q) (fun c q=>by rw[aq (aW q e (by intro z;cases z))];exact q) fun c xs q=>by rw[aq (aW q e (by intro z;cases z))];exact q
def CK(X:Cx)(b:Addr):Prop:=X.s₀.heap.objs.size<=b/\b≠X.env.locals/\b∉X.fs/\(∀ x c,X.env.cells.lookup x=some c->c≠b)/\∀ p∈X.pn,p.1≠b
theorem Inv.JF(I:Inv X pins σ H s){b:Addr}(hb:s.heap.objs.size<=b):CK X b :=
 let⟨_,f1,f2,_,f4,f5⟩:=I.B5 hb (I.hok.fresh hb)
 ⟨Nat.le_trans I.sz hb,f1,f2,f4,fun p hp=>f5 p (List.mem_append_left _ hp)⟩
theorem Inv.jE{pa pb:aV}{b:Addr}{o:Obj}{h' : Heap}{t' : Nat}(I:Inv X pa σ H s)(hb:CK X b)(hin:(b,o)∈pa)(k:∀ c u,c≠b->s.heap.get? c=some u->h'.get? c=some u)
 (hp:∀ p∈pb,(p.1=b/\h'.get? b=some p.2/\∀ v,p.2.data≠.cell v)\/(p∈pa/\p.1≠b)):Inv X pb σ H { s with heap:=h',toks:=t'}:=by
 obtain⟨b1,b2,b3,b4,b5⟩:=hb;have n:=(I.pin (b,o) (List.mem_append_right _ hin)).2.1;have J:=(I.gn (DW:=pa.filter fun p=>decide (p.1≠b)) fun p hp=>I.pin p (List.mem_append_right _ (List.mem_filter.mp hp).1)).turned (t':=t') k n b2 (.inr b1) b4 (fun p hp=>by
  rcases List.mem_append.mp hp with hp|hp
  ·exact b5 p hp
  ·exact of_decide_eq_true (List.mem_filter.mp hp).2)
 refine J.gn fun p h=>?_
 rcases hp p h with⟨e,g,d⟩|⟨m,ne⟩
 ·refine⟨by rw[e];exact g,by rw[e];exact n,by rw[e];exact b2,by rw[e];exact b3,d⟩
 ·exact J.pin p (List.mem_append_right _ (List.mem_filter.mpr ⟨m,decide_eq_true ne⟩))
end
section
variable {X:Cx}{pins:aV}{σ:St}{H2:Hp}{params:Arguments}{body:Expr}{scope:Scope}{frees:List Str}{js:List Nat}{x:Str}{te:TE}{f c a It S:Addr}{oc ob:Obj}{ctv:Value}{q:Str}{kvs:List (List Key×V)}
 {es:Array DictEntry} {ep:Nat} {ka:Nat->Addr} {ks:Nat->List Int} {PZ:Addr} {R:Result->Shared->Prop}
structure CL(X:Cx)(σ:St)(H2:Hp)(params:Arguments)(body:Expr)(scope:Scope)(frees:List Str)(js:List Nat)(x:Str)(te:TE)(f c a It S:Addr)(oc ob:Obj)(ctv:Value)(kvs:List (List Key×V))(es:Array DictEntry)(ep:Nat)(ka:Nat->Addr)(ks:Nat->List Int)(PZ:Addr):Prop where
 T:dI X scope [x] frees js
 hx:scope.names.lookup x=some .local
 hh:X.A.handled=none
 dp:X.A.in1.depth<recursionLimit
 un:X.A.in1.units<cLine
 hb:∀ u,bindArgs (AI X params body scope c ctv) ⟨[u],[]⟩=pure [(x,u)]
 co:scope.isCoroutine=false
 gen:scope.isGenerator=false
 he:∀ s H,PE (uW X ([x]++frees) scope f c X.A.in1 s H) body te
 code:CodeObj oc (X.env.qual ++ "<lambda>")
 hc:H2 c=some (.kF oc (.own PZ))
 ha:H2 a=some (.kF ob (.dT kvs))
 hob:ob.ExactDict/\ob.data = .dict es ep
 key:∀(i:Nat) (e:DictEntry),(es[i]?:Option DictEntry)=some e->e.key = .ref (ka i)
 turn:∀ i H3,i<es.size->av H2 H3->te (some (.ref (ka i))::fj σ js) H3 fun v H4=>av H3 H4/\∃ d,v = .ref d/\aP X.K H4 d ((ks i).map V.int)
 oS:CK X S
 oI:CK X It
 SI:S≠It
 fS:f≠S
 fI:f≠It
theorem AO{pa:aV}{s:Shared}{H3:Hp}{i:Nat}{E:dw}(F:CL X σ H2 params body scope frees js x te f c a It S oc ob ctv kvs es ep ka ks PZ)(hi:i<es.size)(hs:av H2 H3)(I:Inv X pa σ H3 s)
 (hf:(f,dU X params body scope c ctv)∈pa) :
 wpAny (model X.prog X.w) X.A.in1 (call (.ref f) [.ref (ka i)]) (fun u s'=>∃ d H4,u = .ref d/\Inv X pa σ H4 s'/\av H2 H4/\av H3 H4/\aP X.K H4 d ((ks i).map V.int)) E s:=by
 obtain⟨hct,_⟩:=(show br X.prog X.w H3 s.heap c (.kF oc (.own PZ)) from I.hok c _ (hs _ _ F.hc))
 refine wpAny_mono (AN (v:=.ref (ka i)) I F.T F.hx I.ok.frames rfl F.dp hf (F.code.rec hct) (F.hb _) F.co F.gen (F.he s H3) rfl (F.turn i H3 hi hs)) (fun u s' ⟨v,H4,J,r,q1,d,e,q2⟩=>?_) fun _ _ z=>z
 subst e;cases r;exact⟨d,H4,rfl,J,fun b o z=>q1 _ _ (hs _ _ z),q1,q2⟩
theorem JG{pa:aV}{s:Shared}{H3:Hp}{d d' : Addr}{ns ms:List Int}{A:Around}{E:dw}{Q:dw}(I:Inv X pa σ H3 s)(h1:aP X.K H3 d (ns.map V.int))(h2:aP X.K H3 d' (ms.map V.int))(hu:A.units<cLine)
 (q:Q (.bool (HT.lexLt ns ms)) s):wpAny (model X.prog X.w) A (richCompare .Lt (.ref d) (.ref d')) Q E s:=by
 obtain⟨its,r1,p1,_⟩:=I.tuple h1;obtain⟨its2,r2,p2,_⟩:=I.tuple h2;exact(HT.Cd p1 p2 (intsAre_of r1) (intsAre_of r2) hu q:wpAny (model X.prog X.w) A (compareOp .Lt (.ref d) (.ref d')) Q E s)
abbrev m8(pins:aV)(S It f:Addr)(oS oI lo:Obj):aV:=(S,oS)::(It,oI)::(f,lo)::pins
theorem JH(F:CL X σ H2 params body scope frees js x te f c a It S oc ob ctv kvs es ep ka ks PZ)(pI:∀ p∈pins,p.1≠It)(pS:∀ p∈pins,p.1≠S)
 (hR:∀ i s' H3,i<es.size->(∀ j,j<es.size->HT.lexLt (ks j) (ks i)=false)->av H2 H3->Inv X pins σ H3 s'->R (.ok (.ret (.ref (ka i)))) s') :
 ∀(r j i:Nat) (s:Shared) (H3:Hp) (d:Addr) (n:Nat) (oI:Obj),es.size-j=r->j<=es.size->i<j->av H2 H3->Inv X (m8 pins S It f (seqObj "list" #[.ref (ka i),.ref d] n) oI (dU X params body scope c ctv)) σ H3 s->TL oI a j es.size ep->
  aP X.K H3 d ((ks i).map V.int)->(∀ j',j'<j->HT.lexLt (ks j') (ks i)=false)->codeAny (model X.prog X.w) X.A (.builtin "min.loop" ⟨[.ref It,.ref f,.ref S],[]⟩) R s:=by
 have hname:(toString "min" ++ toString ".loop":String)="min.loop":=by decide
 intro r
 induction r with
 | zero =>
   intro j i s H3 d n oI hr hj hij hs I hk hd pP;have BS:j=es.size:=by lia
   have uZ:=I.pin (S,_) (List.mem_append_right _ (.head _));have JI:=I.pin (It,oI) (List.mem_append_right _ (.tail _ (.head _)));obtain⟨hob,_⟩:=(show br X.prog X.w H3 s.heap a (.kF ob (.dT kvs)) from I.hok a _ (hs _ _ F.ha))
   refine codeAny_builtin PySem.F.entry_min_loop ?_;rw[Around.under_plainId PySem.F.plain_min_loop _];show wpAny _ X.A.in1 (seqItems? (.ref S) >>= _) _ _ _;refine wpAny_bind (wpAny_seqItems uZ.1 rfl ?_);show wpAny _ X.A.in1 (tryCatch (pyNext (.ref It)) _ >>= _) _ _ _;refine wpAny_bind (wpAny_tryCatch (uY JI.1 hk ⟨ob,hob,F.hob⟩ ?_));rw[BS,Array.getElem?_eq_none (Nat.le_refl _)];refine⟨F.hh,fun h' eb=>?_⟩
   have I1:=I.jE (t':=s.toks) (h':=h') (pb:=(S,seqObj "list" #[.ref (ka i),.ref d] n)::pins) F.oI (List.Mem.tail _ (.head _)) (fun b u hb e=>eb b u hb e) (fun p hp=>by
    rcases List.mem_cons.mp hp with rfl|hp
    ·exact .inr ⟨.head _,F.SI⟩
    ·exact .inr ⟨.tail _ (.tail _ (.tail _ hp)),pI p hp⟩)
   have JJ:=I1.pin (S,_) (List.mem_append_right _ (.head _));show wpAny _ X.A.in1 (updateSeq S (fun _=>#[]) >>= _) _ _ _
   refine wpAny_bind (wpAny_updateSeq JJ.1 rfl (wpAny_bind (wpAny_letGo (wpAny_pure ?_))));have s1:=Heap.SameBut.update h' S (Obj.mapSeq fun _=>(#[]:Array Value))
   exact hR i _ H3 (by lia) (fun j' hj'=>pP j' (by lia)) hs (I1.jE (t':=s.toks) (pb:=pins) F.oS (.head _) (fun b u hb e=>(s1.2 b hb).trans e) fun p hp=>.inr ⟨.tail _ hp,pS p hp⟩)
 | succ r ih =>
   intro j i s H3 d n oI hr hj hij hs I hk hd pP;have BS:j<es.size:=by lia
   have uZ:=I.pin (S,_) (List.mem_append_right _ (.head _));have JI:=I.pin (It,oI) (List.mem_append_right _ (.tail _ (.head _)));obtain⟨hob,_⟩:=(show br X.prog X.w H3 s.heap a (.kF ob (.dT kvs)) from I.hok a _ (hs _ _ F.ha))
   refine codeAny_builtin PySem.F.entry_min_loop ?_;rw[Around.under_plainId PySem.F.plain_min_loop _];show wpAny _ X.A.in1 (seqItems? (.ref S) >>= _) _ _ _;refine wpAny_bind (wpAny_seqItems uZ.1 rfl ?_);show wpAny _ X.A.in1 (tryCatch (pyNext (.ref It)) _ >>= _) _ _ _;refine wpAny_bind (wpAny_tryCatch (uY JI.1 hk ⟨ob,hob,F.hob⟩ ?_));have hget:(es[j]?:Option DictEntry)=some es[j]:=Array.getElem?_eq_getElem BS;rw[hget];intro h' Hw Vm hk' sb;have I1:=I.jE (t':=s.toks) (h':=h') (pb:=m8 pins S It f (seqObj "list" #[.ref (ka i),.ref d] n) Hw (dU X params body scope c ctv)) F.oI (List.Mem.tail _ (.head _)) (fun b u hb e=>(sb.2 b hb).trans e) (fun p hp=>by
    rcases List.mem_cons.mp hp with rfl|hp
    ·exact .inr ⟨.head _,F.SI⟩
    ·rcases List.mem_cons.mp hp with rfl|hp
     ·exact .inl ⟨rfl,Vm,fun v z=>by rw[hk'.2]at z;cases z⟩
     ·rcases List.mem_cons.mp hp with rfl|hp
      ·exact .inr ⟨.tail _ (.tail _ (.head _)),F.fI⟩
      ·exact .inr ⟨.tail _ (.tail _ (.tail _ hp)),pI p hp⟩)
   rw[F.key j _ hget];show wpAny _ X.A.in1 (tryCatch (holding [.ref (ka j)] (call (.ref f) [.ref (ka j)])) _ >>= _) _ _ _;refine wpAny_bind (wpAny_tryCatch (wpAny_holding (wpAny_mono (AO F BS hs I1 (List.Mem.tail _ (.tail _ (.head _)))) (fun u s2 hu=>?_) fun _ _ z=>z)))
   obtain⟨d2,H4,rfl,I2,Iu,ZU,hd2⟩:=hu;have hdo:aP X.K H4 d ((ks i).map V.int):=ZU.Zu hd;show wpAny _ X.A.in1 (tryCatch (holding [.ref (ka j),.ref d2] (richCompare .Lt (.ref d2) (.ref d) >>= _)) _ >>= _) _ _ _;refine wpAny_bind (wpAny_tryCatch (wpAny_holding (wpAny_bind (JG I2 hd2 hdo F.un ?_))));refine wpAny_bind (wpAny_holding (wpAny_truthy_bool (wpAny_bind (wpAny_letGo (wpAny_pure ?_)))));have mC:=I2.pin (S,_) (List.mem_append_right _ (.head _));cases hl:HT.lexLt (ks j) (ks i) with
   | true =>
     have s1:=Heap.SameBut.update s2.heap S (Obj.mapSeq fun _=>(#[.ref (ka j),.ref d2]:Array Value))
     obtain⟨n2,hn2⟩:∃ n2,(s2.heap.update S (Obj.mapSeq fun _=>(#[.ref (ka j),.ref d2]:Array Value))).get? S=some (seqObj "list" #[.ref (ka j),.ref d2] n2):=⟨_,get?_update_seq mC.1 fun _=>#[.ref (ka j),.ref d2]⟩
     simp only[if_true];refine wpAny_bind (wpAny_updateSeq mC.1 rfl (wpAny_bind (wpAny_letGo ?_)));rw[hname];have I3:=I2.jE (t':=s2.toks) (pb:=m8 pins S It f (seqObj "list" #[.ref (ka j),.ref d2] n2) Hw (dU X params body scope c ctv)) F.oS (.head _) (fun b u hb e=>(s1.2 b hb).trans e) (fun p hp=>by
      rcases List.mem_cons.mp hp with rfl|hp
      ·exact .inl ⟨rfl,hn2,fun v z=>by cases z⟩
      ·rcases List.mem_cons.mp hp with rfl|hp
       ·exact .inr ⟨.tail _ (.head _),F.SI.symm⟩
       ·rcases List.mem_cons.mp hp with rfl|hp
        ·exact .inr ⟨.tail _ (.tail _ (.head _)),F.fS⟩
        ·exact .inr ⟨.tail _ (.tail _ (.tail _ hp)),pS p hp⟩)
     refine wpAny_pure ⟨plainId_quiet PySem.F.plain_min_loop _,ih (j+1) j _ H4 d2 n2 Hw (by lia) (by lia) (by lia) Iu I3 hk' hd2 fun j' hj'=>?_⟩
     by_cases e:j' = j
     ·rw[e];exact HT.gw _
     ·exact HT.uX (pP j' (by lia)) hl
   | false =>
     simp only[Bool.false_eq_true,if_false];refine wpAny_bind (wpAny_letGo ?_);rw[hname];refine wpAny_pure ⟨plainId_quiet PySem.F.plain_min_loop _,ih (j+1) i _ H4 d n Hw (by lia) (by lia) (by lia) Iu I2 hk' hdo fun j' hj'=>?_⟩
     by_cases e:j' = j
     ·rw[e];exact hl
     ·exact pP j' (by lia)
end
theorem boot_min:bootBuiltins "min"=some (.builtin "min"):=by kernel_rfl
def RL(K:bK)(P:Addr)(q:Str)(lp:Pos)(ta:TA)(te:TE)(js:List Nat):TE:=fun σ H Q=>ta σ H fun vs H1=>∃ a kvs,∃ ks:Nat->List Int,vs=[.ref a]/\H1 a=some (.dT kvs)/\0<kvs.length/\H1 P=some (.jz (eF q lp))/\
 (∀ ob H3,(∀ b u,H1 b=some u->b≠a->(∀ y,u≠.own y)->(∀ qs,u≠.jz qs)->H3 b=some u)->H3 a=some (.kF ob (.dT kvs))->
  ∀(i:Nat) kv b,kvs[i]?=some kv->H3 b=some (.tup (kv.1.map kV))->te (some (.ref b)::fj σ js) H3 fun v H4=>av H3 H4/\∃ d,v = .ref d/\aP K H4 d ((ks i).map V.int))/\
 ∀(i:Nat) kv b H4,kvs[i]?=some kv->(∀ j,j<kvs.length->HT.lexLt (ks j) (ks i)=false)->av H1 H4->H4 b=some (.tup (kv.1.map kV))->Q (.ref b) H4
theorem gW{α β:Type}{R:α->β->Prop}:∀{l₁:List α} {l₂:List β},Paired R l₁ l₂->∀{i:Nat} {a:α} {b:β},l₁[i]?=some a->l₂[i]?=some b->R a b
 | _,_,.nil,i,_,_,h,_=>by simp at h
 | _,_,.cons r t,0,_,_,h1,h2=>by
   simp at h1 h2;subst h1 h2;exact r
 | _,_,.cons r t,i+1,_,_,h1,h2=>gW t (by simpa using h1) (by simpa using h2)
section
variable {X:Cx}{params:Arguments}{body e:Expr}{scope:Scope}{lp p pos kp:Pos}{frees:List Str}{js:List Nat}{x:Str}{ta:TA}{te:TE}{c0 P:Addr}{k:Nat}
theorem Ms(hr:fh (k+2) X.A)(T:dI X scope [x] frees js)(hx:scope.names.lookup x=some .local)(hg:Gl X "min")(hm:X.mg "min"=none)(hcode:X.env.code = .ref c0)(hK:PySem.W.codeHdIn X.K c0 P=true)(ha:PA X [e] ta)
 (he:∀ f c s H,fh k (uW X ([x]++frees) scope f c X.A.in1 s H).A->PE (uW X ([x]++frees) scope f c X.A.in1 s H) body te)
 (hb:∀ c ctv u,bindArgs (AI X params body scope c ctv) ⟨[u],[]⟩=pure [(x,u)]:=by intro _ _ _;rfl) (hco:scope.isCoroutine=false:=by rfl) (hgen:scope.isGenerator=false:=by rfl)
 (hdef:defaultsOf params X.env=([],[]):=by rfl)
 (hs:backTo pos (starEach [e] X.env)=(false,eval e X.env)::backTo pos (starEach [] X.env):=by rfl) (hs2:(backTo pos (starEach [e] X.env)).any (·.1)=false:=by rfl) :
 PE X (.Call (.Name "min" p) [e] [⟨some (Str.ofString "key"),.Lambda params body scope lp,kp⟩] pos) (RL X.K P (X.env.qual ++ "<lambda>") lp ta te js):=by
 intro pins s σ H Q I h;refine wpAny_Call_Name_kw (kH I hg hm boot_min (callWith_kw (dB (ha pos pins s σ H _ I h) fun us s1 hq=>?_) hs hs2 rfl rfl))
 obtain⟨vs,H1,I1,r1,a,kvs,ks,rfl,hda,hne,hP,hturn,OX⟩:=hq;obtain⟨u,rfl,rx⟩:=vals1 r1;cases rx;refine kws_cons (AJ I1 T hcode hK hP hdef fun f c oc ctv s2 hc AK hoc J=>kws_nil ?_)
 show wpAny _ X.A (call (.builtin "min") [.ref a] [(Str.ofString "key",.ref f)]) _ _ s2;have hname:(toString "min" ++ toString ".loop":String)="min.loop":=by decide
 have hla:=tK (oc:=oc) hP hc hda (by intro y z;cases z) (by intro y z;cases z)
 obtain⟨hz,hsys,xs,pr,ob,es,ep,hgo,hex,hdat,hes,hnd⟩:=(show br X.prog X.w (fR H1 P c oc (X.env.qual ++ "<lambda>") lp) s2.heap a (.dT kvs) from J.hok a _ hla)
 have J2:=J.Mr hla hgo;have hsz:es.size=kvs.length:=by
  have:=congrArg List.length hes;rw[List.length_map,<-pr.length]at this
  simpa using this
 have hxs:xs.length=kvs.length:=pr.length.symm;have hka:∀ i,i<kvs.length->∃ kv y,kvs[i]?=some kv/\xs[i]?=some y/\fR H1 P c oc (X.env.qual ++ "<lambda>") lp y.2.1=some (.tup (kv.1.map kV)):=fun i hi=>by
  have e1:kvs[i]?=some kvs[i]:=List.getElem?_eq_getElem hi;have e2:xs[i]?=some (xs[i]'(by lia)):=List.getElem?_eq_getElem _
  exact⟨_,_,e1,e2,(gW pr e1 e2).2.1⟩
 have OY:fR H1 P c oc (X.env.qual ++ "<lambda>") lp P=some (.jz (eF (X.env.qual ++ "<lambda>") lp++nG lp c)):=ae;have Mt:fR H1 P c oc (X.env.qual ++ "<lambda>") lp c=some (.kF oc (.own P)):=by unfold fR;rw[aq AK,ae]
 have ca:c≠a:=aW Mt hla (by intro z;cases z)
 have pa:P≠a:=aW OY hla (by intro z;cases z)
 generalize LP:upd (fR H1 P c oc (X.env.qual ++ "<lambda>") lp) a (.kF ob (.dT kvs))=H2 at J2;have at2:∀ b u,b≠a->fR H1 P c oc (X.env.qual ++ "<lambda>") lp b=some u->H2 b=some u:=fun b u n e=>by rw[<-LP,aq n];exact e
 have a2:H2 a=some (.kF ob (.dT kvs)):=by rw[<-LP,ae]
 let ka:Nat->Addr:=fun i=>((xs[i]?).map (·.2.1)).getD 0
 have OZ:∀{i:Nat} {y:List Key×Addr×Value},xs[i]?=some y->ka i=y.2.1:=fun {i y} e=>by show((xs[i]?).map (·.2.1)).getD 0=_;rw[e];rfl
 refine kmk_tree PySem.F.kind_min PySem.F.plain_min PySem.F.entry_min (kmk_min_key _ _) ?_;show wpAny _ X.A.in1 (Builtin.Builtins.bindParams "min" ["key","default"] 0 ⟨[],[(Str.ofString "key",.ref f)]⟩ >>= _) _ _ s2;refine wpAny_bind (wpAny_of_eq (show Builtin.Builtins.bindParams "min" ["key","default"] 0 ⟨[],[(Str.ofString "key",.ref f)]⟩=pure [some (.ref f),none] from rfl) ?_)
 refine wpAny_bind (wpAny_pure (wpAny_bind (JE hsys ⟨ob,hgo,hex,hdat⟩ (wpAny_bind (wpAny_newList ?_ (Nat.zero_le _))))));rw[hname];refine wpAny_pure ⟨plainId_quiet PySem.F.plain_min_loop _,?_⟩;generalize O0:({ cls:=.type "dict_keyiterator",data:=.fields #[.ref a,.int 0 0,.int es.size 0,.int ep 0]}:Obj)=oI;have W4:TL oI a 0 es.size ep:=by rw[<-O0];exact⟨rfl,rfl⟩
 have hS:(s2.heap.push oI).objs.size=s2.heap.objs.size+1:=size_push' ..;have hk2:∀ b o,s2.heap.get? b=some o->((s2.heap.push oI).push (seqObj "list" #[] 0)).get? b=some o:=fun b o e=>Heap.get?_push_of_some _ (Heap.get?_push_of_some _ e)
 have gI:((s2.heap.push oI).push (seqObj "list" #[] 0)).get? s2.heap.objs.size=some oI:=Heap.get?_push_of_some _ (Heap.get?_push_size _ (by rw[<-O0];rfl))
 have gS:((s2.heap.push oI).push (seqObj "list" #[] 0)).get? (s2.heap.push oI).objs.size=some (seqObj "list" #[] 0):=Heap.get?_push_size _ rfl;have Mu:∀ p∈(f,dU X params body scope c ctv)::pins,p.1<s2.heap.objs.size:=fun p hp=>Heap.lt_size (J2.pin p (List.mem_append_right _ hp)).1
 have Nl:=J2.JF (Nat.le_refl s2.heap.objs.size);have oS:=J2.JF (b:=(s2.heap.push oI).objs.size) (by rw[hS];exact Nat.le_succ _)
 have F:CL X σ H2 params body scope frees js x te f c a s2.heap.objs.size (s2.heap.push oI).objs.size oc ob ctv kvs es ep ka ks P:=by
  refine⟨T,hx,hr.hd,(hr.in1).depth,(hr.in1).Cc,fun u=>hb c ctv u,hco,hgen,fun s H=>he f c s H ((hr.in1).deeper _),hoc,at2 c _ ca Mt,a2,⟨hex,hdat⟩,fun i e hi=>?_,fun i H3 hi BU=>?_,oS,Nl,by rw[hS];exact Nat.succ_ne_self _,?_,Nat.ne_of_lt (Mu _ (.head _))⟩
  ·have hi' : i<kvs.length:=by rw[<-hsz];exact(Array.getElem?_eq_some_iff.mp hi).1
   obtain⟨kv,y,e1,e2,_⟩:=hka i hi';have e3:=congrArg (fun l=>l[i]?) hes
   simp only[List.getElem?_map,e2,Option.map_some,Array.getElem?_toList]at e3;rw[hi]at e3;have e4:=Option.some.inj e3;rw[e4,OZ e2];rfl
  ·obtain⟨kv,y,e1,e2,e3⟩:=hka i (by lia)
   refine hturn ob H3 (fun b u eb nb n1 n2=>BU _ _ (at2 b u nb (tK hP hc eb n1 n2))) (BU _ _ a2) i kv (ka i) e1 ?_
   rw[OZ e2];exact BU _ _ (at2 _ _ (aW e3 hla (by intro z;cases z)) e3)
  ·rw[hS];exact Nat.ne_of_lt (Nat.lt_succ_of_lt (Mu _ (.head _)))
 have pI:∀ p∈pins,p.1≠s2.heap.objs.size:=fun p hp=>Nat.ne_of_lt (Mu p (.tail _ hp))
 have pS:∀ p∈pins,p.1≠(s2.heap.push oI).objs.size:=fun p hp=>by rw[hS];exact Nat.ne_of_lt (Nat.lt_succ_of_lt (Mu p (.tail _ hp)))
 have J3:Inv X (m8 pins (s2.heap.push oI).objs.size s2.heap.objs.size f (seqObj "list" #[] 0) oI (dU X params body scope c ctv)) σ H2 { s2 with heap:=(s2.heap.push oI).push (seqObj "list" #[] 0)}:=by
  have K:=J2.kept (t':=s2.toks) hk2;refine K.gn fun p hp=>?_
  rcases List.mem_cons.mp hp with rfl|hp
  ·exact⟨gS,J2.hok.fresh (by rw[hS];exact Nat.le_succ _),oS.2.1,oS.2.2.1,fun v z=>by cases z⟩
  ·rcases List.mem_cons.mp hp with rfl|hp
   ·exact⟨gI,J2.hok.fresh (Nat.le_refl _),Nl.2.1,Nl.2.2.1,fun v z=>by rw[W4.2]at z;cases z⟩
   ·exact K.pin p (List.mem_append_right _ hp)
 have h0:0<es.size:=by lia
 have hget:(es[0]?:Option DictEntry)=some es[0]:=Array.getElem?_eq_getElem h0;have uZ:=J3.pin ((s2.heap.push oI).objs.size,seqObj "list" #[] 0) (List.mem_append_right _ (.head _));have JI:=J3.pin (s2.heap.objs.size,oI) (List.mem_append_right _ (.tail _ (.head _)));refine codeAny_builtin PySem.F.entry_min_loop ?_;rw[Around.under_plainId PySem.F.plain_min_loop _];show wpAny _ X.A.in1 (seqItems? (.ref _) >>= _) _ _ _;refine wpAny_bind (wpAny_seqItems uZ.1 rfl ?_);show wpAny _ X.A.in1 (tryCatch (pyNext (.ref s2.heap.objs.size)) _ >>= _) _ _ _;refine wpAny_bind (wpAny_tryCatch (uY JI.1 W4 ⟨ob,hk2 _ _ hgo,hex,hdat⟩ ?_));rw[hget];intro h' Hw Vm hk' sb;have I4:=J3.jE (t':=s2.toks) (h':=h') (pb:=m8 pins (s2.heap.push oI).objs.size s2.heap.objs.size f (seqObj "list" #[] 0) Hw (dU X params body scope c ctv)) F.oI (List.Mem.tail _ (.head _)) (fun b u hb e=>(sb.2 b hb).trans e) (fun p hp=>by
  rcases List.mem_cons.mp hp with rfl|hp
  ·exact .inr ⟨.head _,F.SI⟩
  ·rcases List.mem_cons.mp hp with rfl|hp
   ·exact .inl ⟨rfl,Vm,fun v z=>by rw[hk'.2]at z;cases z⟩
   ·rcases List.mem_cons.mp hp with rfl|hp
    ·exact .inr ⟨.tail _ (.tail _ (.head _)),F.fI⟩
    ·exact .inr ⟨.tail _ (.tail _ (.tail _ hp)),pI p hp⟩)
 rw[F.key 0 _ hget];show wpAny _ X.A.in1 (tryCatch (holding [.ref (ka 0)] (call (.ref f) [.ref (ka 0)])) _ >>= _) _ _ _;refine wpAny_bind (wpAny_tryCatch (wpAny_holding (wpAny_mono (AO F h0 (av.refl _) I4 (List.Mem.tail _ (.tail _ (.head _)))) (fun u s3 hu=>?_) fun _ _ z=>z)))
 obtain⟨d2,H4,rfl,I5,Iu,_,hd2⟩:=hu;have mC:=I5.pin ((s2.heap.push oI).objs.size,_) (List.mem_append_right _ (.head _));have s1':=Heap.SameBut.update s3.heap (s2.heap.push oI).objs.size (Obj.mapSeq fun _=>(#[.ref (ka 0),.ref d2]:Array Value))
 obtain⟨n2,hn2⟩:∃ n2,(s3.heap.update (s2.heap.push oI).objs.size (Obj.mapSeq fun _=>(#[.ref (ka 0),.ref d2]:Array Value))).get? (s2.heap.push oI).objs.size=some (seqObj "list" #[.ref (ka 0),.ref d2] n2):=⟨_,get?_update_seq mC.1 fun _=>#[.ref (ka 0),.ref d2]⟩
 show wpAny _ X.A.in1 (updateSeq (s2.heap.push oI).objs.size (fun _=>#[.ref (ka 0),.ref d2]) >>= _) _ _ _
 refine wpAny_bind (wpAny_updateSeq mC.1 rfl ?_);rw[hname];have I6:=I5.jE (t':=s3.toks) (pb:=m8 pins (s2.heap.push oI).objs.size s2.heap.objs.size f (seqObj "list" #[.ref (ka 0),.ref d2] n2) Hw (dU X params body scope c ctv)) F.oS (.head _) (fun b u hb e=>(s1'.2 b hb).trans e) (fun p hp=>by
  rcases List.mem_cons.mp hp with rfl|hp
  ·exact .inl ⟨rfl,hn2,fun v z=>by cases z⟩
  ·rcases List.mem_cons.mp hp with rfl|hp
   ·exact .inr ⟨.tail _ (.head _),F.SI.symm⟩
   ·rcases List.mem_cons.mp hp with rfl|hp
    ·exact .inr ⟨.tail _ (.tail _ (.head _)),F.fS⟩
    ·exact .inr ⟨.tail _ (.tail _ (.tail _ hp)),pS p hp⟩)
 refine wpAny_pure ⟨plainId_quiet PySem.F.plain_min_loop _,JH F pI pS (fun i s' H3 hi best BU I7=>?_) _ 1 0 _ H4 d2 n2 Hw rfl h0 (Nat.lt_succ_self _) Iu I6 hk' hd2 fun j hj=>?_⟩
 ·obtain⟨kv,y,e1,e2,e3⟩:=hka i (by lia)
  have i3:=BU _ _ a2;have I8:=Inv.RK J hla I7 i3;have p3:upd H3 a (.dT kvs) P=some (.jz (eF (X.env.qual ++ "<lambda>") lp++nG lp c)):=by rw[aq pa];exact BU _ _ (at2 _ _ pa OY)
  have c3:upd H3 a (.dT kvs) c=some (.kF oc (.own P)):=by rw[aq ca];exact BU _ _ (at2 _ _ ca Mt)
  have I9:=AL I1 hP hc AK hoc I8 p3 c3;have ya:y.2.1≠a:=aW e3 hla (by intro z;cases z)
  have y3:upd H3 a (.dT kvs) y.2.1=some (.tup (kv.1.map kV)):=by rw[aq ya];exact BU _ _ (at2 _ _ ya e3)
  refine⟨.ref (ka i),_,I9,rfl,OX i kv (ka i) _ e1 (fun j hj=>best j (by lia)) (AM hP hc AK (oc:=oc) fun b u eb=>?_) ?_⟩
  ·by_cases hb:b=a
   ·subst hb;rw[hla]at eb;rw[ae];exact eb
   ·rw[aq hb];exact BU _ _ (at2 _ _ hb eb)
  ·rw[OZ e2];unfold given;rw[aq (aW y3 p3 (by intro z;cases z)),aq (aW y3 c3 (by intro z;cases z))]
   exact y3
 ·have e:j=0:=by lia
  rw[e];exact HT.gw _
end
section
variable {P:Program}{w:World}{A:Around}{E:dw}{s:Shared}{a:Addr}{es:Array DictEntry}{ep:Nat}
theorem O1(hd:(a==sysModules)=false):MeetsIn P w (Builtin.«dict.__len__» ⟨[.ref a],[]⟩) (fun _ R s=>∃ es ep,TJ s.heap a es ep/\R (.ok (.ret (.int es.size s.toks))) { s with toks:=s.toks+1}) :=
 .of_wp fun A R s ⟨es,ep,⟨o,ho,_,hdat⟩,h⟩=>by
  show wpAny _ _ (dictSize a >>= _) _ _ s;unfold dictSize;refine wpAny_bind (wpAny_bind (wpAny_dictEntries ho hdat (wpAny_pure ?_)));show wpAny _ _ (Builtin.Dict.pendingCount a >>= _) _ _ s;refine wpAny_bind (wpAny_pendingCount_other hd (wpAny_ret_mkInt ?_));rw[Nat.add_zero];exact h
theorem Gb{Q:dw}(hd:(a==sysModules)=false)(g:TJ s.heap a es ep)(hfit:(es.size:Int)<2^63)(h:Q (.int es.size (s.toks+1)) { s with toks:=s.toks+1+1}):
 wpAny (model P w) A (call (.builtin "len") [.ref a]) Q E s:=by
 have hT:s.TypeIs (.ref a) "dict":=let⟨o,ho,hc,_⟩:=g;⟨o,ho,hc.1⟩;refine Calls.call_function_entry kind_len plain_len entry_len (args_len1 _) ?_;unfold Builtin.«len»;refine wpAny_bind (m:=oneArg "len" _) (wpAny_pure ?_);refine wpAny_bind (m:=callSpecial? (.ref a) (Str.ofString "__len__")) (wpAny_callSpecial?_slot (name:=Str.ofString "__len__") hT PySem.F.slot_dict_len
  (call_meetsIn PySem.F.slot_dict_len hT PySem.F.entry_dict_len (PySem.F.args_dict_len_1 _) (O1 hd) ⟨es,ep,g,?_⟩))
 show wpAny _ _ _ _ _ { s with toks:=s.toks+1}
 refine wpAny_bind (wpAny_holding (wpAny_pure (wpAny_bind (wpAny_letGo ?_))));show wpAny _ _ (if((es.size:Nat):Int)<0 then _ else _) _ _ _
 rw[if_neg (by lia)]
 show wpAny _ _ (if((es.size:Nat):Int) ≥ 2^63 then _ else _) _ _ _
 rw[if_neg (by lia)]
 exact wpAny_bind (wpAny_mkInt (wpAny_pure ⟨_,rfl,h⟩))
end
theorem erase_filter{K α:Type}[DecidableEq K]{k:K}{p:α}:∀{xs:List (K×α)} {j:Nat},(xs.map (·.1)).Nodup->xs[j]?=some (k,p)->xs.eraseIdx j=xs.filter fun x=>decide (x.1≠k)
 | [],j,_,h=>by simp at h
 | x::r,0,nd,h=>by
   simp at h;subst h;rw[List.map_cons,List.nodup_cons]at nd;rw[List.eraseIdx_cons_zero,List.filter_cons,if_neg (by simp)]
   refine(List.filter_eq_self.mpr fun y hy=>?_).symm
   have z:y.1≠k:=fun z=>nd.1 (List.mem_map.mpr ⟨y,hy,z⟩)
   simp[z]
 | x::r,j+1,nd,h=>by
   rw[List.map_cons,List.nodup_cons]at nd;have h:r[j]?=some (k,p):=by simpa using h
   have hx:x.1≠k:=fun z=>nd.1 (by rw[z];exact List.mem_map_of_mem (f:=(·.1)) (List.mem_of_getElem? h))
   rw[List.eraseIdx_cons_succ,List.filter_cons,if_pos (decide_eq_true hx),erase_filter nd.2 h]
theorem nO{α β:Type}(f:α->β):∀(l:List α) (i:Nat),(l.map f).eraseIdx i=(l.eraseIdx i).map f
 | [],_=>rfl
 | _::_,0=>rfl
 | x::r,i+1=>by rw[List.map_cons,List.eraseIdx_cons_succ,List.eraseIdx_cons_succ,List.map_cons,nO f r i]
theorem KT.drop{H:Hp}{kvs:List (List Key×V)}{xs:List (List Key×Addr×Value)}(r:KT H kvs xs)(k:List Key):KT H (dM kvs k) (xs.filter fun x=>decide (x.1≠k)):=by
 unfold dM
 induction r with
 | nil=>exact .nil
 | @cons p q ps qs h t ih =>
   rw[List.filter_cons,List.filter_cons]
   by_cases e:p.1=k
   ·rw[if_neg (by simp[e]),if_neg (by simp[h.1.symm.trans e])];exact ih
   ·have e' : ¬ q.1=k:=fun z=>e (h.1.trans z)
    rw[if_pos (by simp[e]),if_pos (by simp[e'])];exact .cons h ih
section
variable {P:Program}{w:World}{A:Around}{E:dw}{s:Shared}{K:Type}[DecidableEq K]{knd:HeapKind P w K}{d b:Addr}{xs:List (K×Addr×Value)}{k:K}{j:Nat}{p:Addr×Value}
theorem O2{Q:Option DictEntry->Shared->Prop}(hu:knd.room A)(hkey:knd.is s.heap k b)(hm:s.heap.DictOfH knd d xs)(hj:xs[j]?=some (k,p))(hsz:xs.length<=sizeLine)
 (h:∀ e h' o' es' DV,e.val=p.2->h'.get? d=some o'->o'.ExactDict->o'.data = .dict es' DV->es'.toList=(xs.eraseIdx j).map (entryOfKey knd)->Heap.SameBut d s.heap h'->Q (some e) { s with heap:=h',toks:=s.toks+knd.draws k}) :
 wpAny (model P w) A (Builtin.Dict.takeOut d (.ref b)) Q E s:=by
 obtain⟨o,es,ep,ho,hc,hd,he,his,hn⟩:=hm;unfold Builtin.Dict.takeOut
 try with_reducible refine wpAny_holding ?_
 refine wpAny_bind (knd.pyHash hu hkey (wpAny_bind (wpAny_dictFind_heap (s:={ s with toks:=s.toks+knd.draws k}) hu hkey ho hd he his hn (fun hno=>absurd hj (hno j p)) fun j' p' hj'=>?_)))
 have ZV:j' = j:=idxH_unique hn hj' hj;subst ZV;refine wpAny_bind (wpAny_dictEntries (s:={ s with toks:=s.toks+knd.draws k}) ho hd ?_)
 rw[entry_at he j',hj];refine wpAny_bind (wpAny_updateDictKeys (hz:=by have e:=size_of_entries he;lia) (s:={ s with toks:=s.toks+knd.draws k}) ho hd (wpAny_pure (h _ _ _ _ (ep+1) rfl (Heap.get?_update_self _ ho (Obj.isFreed_of_dict (Obj.data_mapDictKeys hd _))) (hc.mapDictKeys _) (Obj.data_mapDictKeys hd _) ?_ (Heap.SameBut.update ..))))
 rw[<-nO,<-he];obtain⟨l⟩:=es;simp
theorem RN{Q:dw}(hu:knd.room A.in1)(hkey:knd.is s.heap k b)(hm:s.heap.DictOfH knd d xs)(hj:xs[j]?=some (k,p))(hsz:xs.length<=sizeLine)
 (h:∀ h' o' es' DV,h'.get? d=some o'->o'.ExactDict->o'.data = .dict es' DV->es'.toList=(xs.eraseIdx j).map (entryOfKey knd)->Heap.SameBut d s.heap h'->Q p.2 { s with heap:=h',toks:=s.toks+knd.draws k}) :
 wpAny (model P w) A (call (.builtin "dict.pop") [.ref d,.ref b]) Q E s:=by
 have hT:=hm.typeIs;refine wpAny_call_entry PySem.F.slot_dict_pop hT PySem.F.entry_dict_pop ?_ (PySem.F.args_dict_pop_2 _ _);unfold Builtin.«dict.pop» Builtin.Dict.keyAndDefault;refine wpAny_bind (wpAny_bind (wpAny_notOrdered_dict hT ?_));show wpAny _ _ (pure (d,Value.ref b,(none:Option Value))) _ _ s;refine wpAny_pure ?_;obtain⟨o,es,ep,ho,hc,hd,he,his,hn⟩:=id hm;have hne:es.isEmpty=false:=by
  have e:=size_of_entries he;have hl:=(List.getElem?_eq_some_iff.mp hj).1;rw[Array.isEmpty_eq_false_iff_exists_mem];exact⟨es[j]'(by lia),Array.getElem_mem _⟩
 have hkp:(keyPart (Value.ref b)).isSome=false:=rfl;simp only[hkp,Bool.false_eq_true,if_false];refine wpAny_bind (wpAny_dictEntries ho hd (wpAny_bind (wpAny_pure ?_)));rw[hne];simp only[Bool.false_eq_true,if_false];refine wpAny_bind (O2 hu hkey hm hj hsz fun e h' o' es' DV e1 e2 e3 e4 e5 e6=>?_)
 simp only[Option.isNone_some,Bool.false_eq_true,if_false];refine wpAny_bind (wpAny_letGo (wpAny_pure ⟨e.val,rfl,?_⟩));rw[e1];exact h h' o' es' DV e2 e3 e4 e5 e6
end
section
variable {X:Cx}{pins:aV}{σ:St}{H:Hp}{s:Shared}
theorem Vn:fC X (.builtin "len") (fun xs H Q=>∃ a kvs,xs=[.ref a]/\Rd H a (.dT kvs)/\Q (.int kvs.length) H):=by
 intro pins s σ H xs us Q I r h;obtain⟨a,kvs,rfl,e,q⟩:=h;obtain⟨u,rfl,rx⟩:=vals1 r;cases rx;obtain⟨z,hsys,ys,pr,ob,es,ep,hgo,hex,hdat,hes,hnd⟩:=(show br X.prog X.w H s.heap a (.dT kvs) from e.ok I.hok)
 have hsz:es.size=kvs.length:=by
  have:=congrArg List.length hes;rw[List.length_map,<-pr.length]at this
  simpa using this
 refine Gb hsys ⟨ob,hgo,hex,hdat⟩ (by rw[hsz];rw[sizeLine_eq]at z;lia) ?_
 rw[hsz];exact⟨.int kvs.length,H,I.tok _,⟨_,rfl⟩,q⟩
def O3(td ty:TE):TE:=fun σ H Q=>td σ H fun x H1=>∃ a,x = .ref a/\Vi H1 a/\ty σ H1 fun y H2=>∃ kvs k b v,H2 a=some (.dT kvs)/\y = .ref b/\H2 b=some (.tup (k.map kV))/\eE kvs k=some v/\Q v (upd H2 a (.dT (dM kvs k)))
theorem O4{A:Around}{E:dw}{a b:Addr}{kvs:List (List Key×V)}{k:List Key}{v:V}{Q:dw}(hu:A.units+1<cLine)(I:Inv X pins σ H s)(e:H a=some (.dT kvs))(eb:H b=some (.tup (k.map kV)))(l:eE kvs k=some v)
 (h:∀ w' s',Inv X pins σ (upd H a (.dT (dM kvs k))) s'->RelV v w'->Q w' s'):wpAny (model X.prog X.w) A (call (.builtin "dict.pop") [.ref a,.ref b]) Q E s:=by
 obtain⟨z,hd,xs,rel,dd⟩:=IW I.hok e;have hv:=rel.val k;rw[l]at hv;obtain⟨w',hw,rw'⟩:=oQ.some_of hv;obtain⟨p,W5,Qa⟩:=Option.map_eq_some_iff.mp hw;obtain⟨j,hj⟩:∃ j,xs[j]?=some (k,p):=by
  unfold atKey at W5;obtain⟨y,W6,ZW⟩:=Option.map_eq_some_iff.mp W5;have hk:=List.find?_some W6;have hm:=List.mem_of_find?_eq_some W6;obtain⟨j,hj⟩:=List.getElem?_of_mem hm;have hk' : y.1=k:=of_decide_eq_true hk;exact⟨j,by rw[hj,<-hk',<-ZW]⟩
 have hnd:(xs.map (·.1)).Nodup:=let⟨_,_,_,_,_,_,_,_,hn⟩:=dd;hn;refine RN (tupleKind_room_in1 hu) (qA I.hok eb) dd hj (by rw[<-rel.length];exact z) fun h' o' es' DV g1 g2 g3 g4 sb=>?_
 rw[Qa];refine h w' _ ?_ rw';have hne:∀ b ys,H b=some (.tup ys)->upd H a (.dT (dM kvs k)) b=some (.tup ys):=fun b ys q=>by rw[aq (aW q e (by intro z;cases z))];exact q
 rw[erase_filter hnd hj]at g4;refine tI I (by rw[e];exact True.intro) sb ⟨o',g1⟩ ⟨Nat.le_trans (IV kvs k) z,hd,_,(rel.drop k).keeps hne,o',es',DV,g1,g2,g3,g4,?_⟩
 exact hnd.sublist (List.filter_sublist.map _)
variable {o e:Expr}{apos cpos:Pos}{td ty:TE}
theorem JK(hu:X.A.units+1<cLine)(ho:PE X o td)(he:PE X e ty)(m:M1 X o "pop" apos e cpos):PE X (.Call (.Attribute o "pop" apos) [e] [] cpos) (O3 td ty):=by
 intro pins s σ H Q I h;refine wpAny_Call_method m.base m.few m.line PySem.F.plainAttrs_dict PySem.F.slot_dict_pop PySem.F.type_dict_pop (dB (ho pins s σ H _ I h) fun u s1 ⟨x,H1,I1,rx,a,ex,d,q1⟩=>?_)
 subst ex;obtain rfl:u=Value.ref a:=rx;obtain⟨t1,t2,_⟩:=Ja I1 d;refine⟨t1,t2,?_⟩;rw[m.trees];refine Calls.callWith_builtin rfl (Calls.evalArgs_plain (Calls.spliced_cons (dB (he pins s1 σ H1 _ I1 q1) fun iv s2 ⟨y,H2,I2,ry,kvs,k,b,v,ea,ey,eb,l,q2⟩=>Calls.spliced_nil ?_)))
 subst ey;obtain rfl:iv=Value.ref b:=ry;exact O4 hu I2 ea eb l fun w' s3 I3 rw'=>⟨v,_,I3,rw',q2⟩
def O5(tk tv:TE):TE:=fun σ H Q=>∀ p,H p=none->tk σ (upd H p (.dT [])) fun y H1=>tv σ H1 fun v H2=>∃ b k,y = .ref b/\H2 b=some (.tup (k.map kV))/\H2 p=some (.dT [])/\Q (.ref p) (upd H2 p (.dT [(k,v)]))
end
section
variable {X:Cx}{k v:Expr}{pos:Pos}{tk tv:TE}
theorem JL(hu:X.A.units+1<cLine)(hk:PE X k tk)(hv:PE X v tv):PE X (.Dict [some k] [v] pos) (O5 tk tv):=by
 intro pins s σ H Q I q;have hn:=I.hok.fresh (Nat.le_refl s.heap.objs.size);have I1:=I.laid (a:=s.heap.objs.size) (o:=.dT []) (h':=s.heap.push { cls:=.type "dict",data:=.dict #[]}) (t':=s.toks) (fun _ _ q=>Heap.get?_push_of_some _ q) (Nat.le_refl _) (IZ s.heap I.big)
 rw[arm_eval_Dict,zip_pairTrees [some k] [v] X.env pos rfl rfl,dictDisplay_pairs (pairTrees [some k] [v] X.env pos) (by intro z;cases z) (show 1<17 by decide)]
 refine wpAny_bind (wpAny_standAt (wpAny_bind ?_));unfold subDict;refine wpAny_bind (wpAny_alloc (wpAny_bind (wpAny_holding ?_)));rw[if_pos (show(pairTrees [some k] [v] X.env pos).length<=15 from(show 1<=15 by decide))]
 refine wpAny_bind (pairTrees_cons_walk (dB (hk pins _ σ _ _ I1 (q _ hn)) fun u s1 ⟨y,H1,I2,ry,q1⟩=>dB (hv pins s1 σ H1 _ I2 q1) fun u2 s2 ⟨vv,H2,I3,rv,b,ks,ey,eb,ep,q2⟩=>pairTrees_nil_walk ?_))
 subst ey;obtain rfl:u=Value.ref b:=ry;obtain⟨z,hd,xs,rel,dd⟩:=IW I3.hok ep;cases rel;refine wpAny_holding (wpAny_bind ?_);rw[List.forIn_cons];refine wpAny_bind (wpAny_bind (wpAny_dictSet_heap (hsz:=Nat.zero_le _) (show X.A.units<cLine from Nat.lt_of_succ_lt hu) (qA I3.hok eb) dd fun h' Qe hs=>wpAny_pure ?_))
 show wpAny _ _ (forIn [] PUnit.unit _) _ _ _;rw[List.forIn_nil];refine wpAny_pure (wpAny_pure (wpAny_pure (wpAny_pure ?_)));obtain⟨o',es',DV,g1,g2,g3,g4,g5,g6⟩:=Qe;have hb:upd H2 s.heap.objs.size (.dT [(ks,vv)]) b=some (.tup (ks.map kV)):=by
  rw[aq (aW eb ep (by intro z;cases z))]
  exact eb
 have new:br X.prog X.w (upd H2 s.heap.objs.size (.dT [(ks,vv)])) h' s.heap.objs.size (.dT [(ks,vv)]):=⟨(show 1<=sizeLine by decide),hd,[(ks,b,u2)],.cons ⟨rfl,hb,rv⟩ .nil,o',es',DV,g1,g2,g3,g4,g6⟩
 exact⟨.ref s.heap.objs.size,_,tI I3 (by rw[ep];exact True.intro) hs ⟨o',g1⟩ new,rfl,q2⟩
end
end L2
namespace HT
open PySem PyProof.Rows
def Mv(a b c d:Int):Bool:=if a=c then(if b=d then true else decide (b<=d)) else decide (a<=c)
theorem yH(a b c d:Int):Mv a b c d=true↔a<c\/(a=c/\b<=d):=by
 unfold Mv
 by_cases h:a=c
 ·rw[if_pos h]
  by_cases h2:b=d
  ·rw[if_pos h2];simp[h,h2]
  ·rw[if_neg h2];simp only[decide_eq_true_eq];lia
 ·rw[if_neg h];simp only[decide_eq_true_eq];lia
theorem JM(A:Around)(s:Shared)(a:Int)(t:Tok)(c:Int)(u:Tok)(prog:Program)(w:World)(E:dw)(Q:dw)(h:Q (.bool (decide (a<=c))) s):
 wpAny (model prog w) A (richCompare .LtE (.int a t) (.int c u)) Q E s :=
 (PyProof.Rows.le_int h:wpAny (model prog w) A (compareOp .LtE (.int a t) (.int c u)) Q E s)
section
open PySem.SeqAt
open PySem.AutoSeq1 (wpAny_loadPart')
open PySem.MeetsSeq PySem.MeetsSeq2 PySem.MeetsSeq3
theorem Gd(l b:Addr)(items items2:Array Value)(n n2:Nat)(dd dd2:Option Addr)(sl sl2:Array (Option Value))(x1 y1 x2 y2:Int)(t1 u1 t2 u2:Tok)(hi:items.toList=[.int x1 t1,.int y1 u1])(hj:items2.toList=[.int x2 t2,.int y2 u2]):
 Meets (Builtin.«tuple.__le__» ⟨[.ref l,.ref b],[]⟩)
  (fun _ R s=>s.heap.get? l=some { cls:=.type "tuple",dict:=dd,data:=.seq items n,slots:=sl}/\s.heap.get? b=some { cls:=.type "tuple",dict:=dd2,data:=.seq items2 n2,slots:=sl2}/\
   R (.ok (.ret (.bool (Mv x1 y1 x2 y2)))) s) :=
 .of_wp fun prog w A R s h=>by
  obtain⟨hp,g,d,tk,os⟩:=s;obtain⟨hl,hb,h⟩:=h;have f2:=AutoSeq1.sub_tuple_tuple;have z1:items.size=2:=by rw[<-Array.length_toList,hi];rfl
  have z2:items2.size=2:=by rw[<-Array.length_toList,hj];rfl
  wp_walk using wpAny_loadPart' hl,wpAny_loadPart' hb,wpAny_forIn_list _ (fun rest b s'=>b.1=none/\s' = ⟨hp,g,d,tk,os⟩/\
   ((rest=[((Value.int x1 t1:Value),(Value.int x2 t2:Value)),(.int y1 u1,.int y2 u2)]/\R (.ok (.ret (.bool (Mv x1 y1 x2 y2)))) ⟨hp,g,d,tk,os⟩)\/
    (rest=[((Value.int y1 u1:Value),(Value.int y2 u2:Value))]/\R (.ok (.ret (.bool (if y1=y2 then true else decide (y1<=y2))))) ⟨hp,g,d,tk,os⟩)\/(rest=[]/\R (.ok (.ret (.bool true))) ⟨hp,g,d,tk,os⟩))) _
  case turn =>
   rintro⟨y,x⟩ rest b s' ⟨hb',rfl,hh⟩;obtain⟨a,c,t,u,vv,hy,hx,hR,hN⟩:∃(a c:Int) (t u:Tok) (vv:Bool),y = .int a t/\x = .int c u/\R (.ok (.ret (.bool (if a=c then vv else decide (a<=c))))) ⟨hp,g,d,tk,os⟩/\
    (R (.ok (.ret (.bool vv))) ⟨hp,g,d,tk,os⟩->(rest=[((Value.int y1 u1:Value),(Value.int y2 u2:Value))]/\R (.ok (.ret (.bool (if y1=y2 then true else decide (y1<=y2))))) ⟨hp,g,d,tk,os⟩)\/(rest=[]/\R (.ok (.ret (.bool true))) ⟨hp,g,d,tk,os⟩)):=by
    rcases hh with⟨hz,hR⟩|⟨hz,hR⟩|⟨hz,_⟩
    ·injection hz with ha hr
     obtain⟨hy,hx⟩:=Prod.mk.inj ha;exact⟨x1,x2,t1,t2,_,hy,hx,hR,fun Vo=>.inl ⟨hr,Vo⟩⟩
    ·injection hz with ha hr
     obtain⟨hy,hx⟩:=Prod.mk.inj ha;exact⟨y1,y2,u1,u2,true,hy,hx,hR,fun Vo=>.inr ⟨hr,Vo⟩⟩
    ·cases hz
   subst hy hx;obtain⟨e,he,HV⟩:=zX A.in1 ⟨hp,g,d,tk,os⟩ a t c u;refine wpAny_bind (he prog w _ _ ?_);cases e with
   | true =>
     rw[if_pos (HV.mp rfl)]at hR
     wp_walk
     exact⟨rfl,rfl,.inr (hN hR)⟩
   | false =>
     rw[if_neg (fun q=>absurd (HV.mpr q) Bool.false_ne_true)]at hR
     have w9:=JM A.in1 ⟨hp,g,d,tk,os⟩ a t c u prog w
     wp_walk using w9
     exact⟨_,rfl,by simpa using hR⟩
  case fin =>
   rintro⟨b1,b2⟩ s' ⟨hb',rfl,hh⟩;simp only at hb';subst hb';rcases hh with⟨hz,_⟩|⟨hz,_⟩|⟨_,hR⟩
   ·cases hz
   ·cases hz
   ·wp_walk
    refine⟨_,rfl,?_⟩
    simpa[Builtin.Tuple.tupleCompareSizes,z1,z2]using hR
  case h =>
   refine⟨rfl,rfl,.inl ⟨?_,h⟩⟩;rw[hi,hj];rfl
end
section
variable {prog:Program}{w:World}{A:Around}{E:dw}{s:Shared}
theorem JN{l b:Addr}{items items2:Array Value}{x1 y1 x2 y2:Int}{Q:dw}(hl:IsTup s.heap l items)(hb:IsTup s.heap b items2)(hi:IntsAre items.toList [x1,y1])(hj:IntsAre items2.toList [x2,y2])
 (hu:A.units<cLine) (h:Q (.bool (Mv x1 y1 x2 y2)) s):wpAny (model prog w) A (compareOp .LtE (.ref l) (.ref b)) Q E s:=by
 obtain⟨⟨cls,dd,data,sl⟩,ho,hc,n,hd⟩:=id hl;obtain⟨⟨UH,dd2,data2,sl2⟩,ho2,hc2,n2,hd2⟩:=id hb;simp only at hc hd hc2 hd2;subst hc hd hc2 hd2;have two:∀{vs:List Value} {a c:Int},IntsAre vs [a,c]->∃ t u,vs=[.int a t,.int c u]:=fun {vs a c} q=>by
  cases q with
  | cons n t r=>cases r with
    | cons n' t' r'=>cases r';exact⟨t,t',rfl⟩
 obtain⟨t1,u1,e1⟩:=two hi;obtain⟨t2,u2,e2⟩:=two hj;exact richCompare_meets_room (op:=.LtE) ⟨_,ho,rfl⟩ ⟨_,ho2,rfl⟩ PySem.F.slot_tuple_le PySem.F.entry_tuple_le (PySem.F.args_tuple_le_2 _ _) (Gd l b items items2 n n2 dd dd2 sl sl2 x1 y1 x2 y2 t1 u1 t2 u2 e1 e2)
  ⟨ho,ho2,show Value.bool (Mv x1 y1 x2 y2)≠Value.notImplemented/\Q (.bool (Mv x1 y1 x2 y2)) s from⟨(fun x=>nomatch x),h⟩⟩ hu
end
end HT
namespace L2
open PySem PySem.Spec PyProof.Rows
section
variable {X:Cx}
def Vp(K:bK):R2:=fun x y H Q=>∃ a b x1 y1 x2 y2,x = .ref a/\y = .ref b/\aP K H a [.int x1,.int y1]/\aP K H b [.int x2,.int y2]/\Q (.bl (HT.Mv x1 y1 x2 y2)) H
theorem O6(hu:X.A.units<cLine):lO X (compareOp .LtE) (Vp X.K):=by
 intro pins s σ H x y v u Q I rx ry h;obtain⟨a,b,x1,y1,x2,y2,rfl,rfl,ha,hb,q⟩:=h;cases rx;cases ry;obtain⟨its,r1,p1,_⟩:=I.tuple ha;obtain⟨its2,r2,p2,_⟩:=I.tuple hb;exact HT.JN p1 p2 (intsAre_of (ns:=[x1,y1]) r1) (intsAre_of (ns:=[x2,y2]) r2) hu ⟨.bl (HT.Mv x1 y1 x2 y2),H,I,rfl,q⟩
end
abbrev sN:=List (Addr×Str×Pos)
structure TabsOk(K:bK)(h:Heap)(tb:sN):Prop where
 nd:(tb.map (·.1)).Nodup
 mt:∀ p∈tb,h.get? p.1=some (PySem.W.tabObj #[])
 code:∀ p∈tb,∃ c,PySem.W.CodeHd h c p.1
 out:∀ p∈tb,K.lookup p.1=none
def TabsAt(tb:sN)(H:Hp):Prop:=∀ p∈tb,H p.1=some (.jz (eF p.2.1 p.2.2))
def AQ(tb:sN):Hp:=fun b=>(tb.find? fun p=>p.1==b).map fun p=>.jz (eF p.2.1 p.2.2)
theorem m9{tb:sN}{b:Addr}{u:HO}(e:AQ tb b=some u):∃ p∈tb,p.1=b/\u = .jz (eF p.2.1 p.2.2):=by
 unfold AQ at e;obtain⟨p,h1,h2⟩:=Option.map_eq_some_iff.mp e;have h3:(p.1==b)=true:=List.find?_some (p:=fun p:Addr×Str×Pos=>p.1==b) h1
 exact⟨p,List.mem_of_find?_eq_some h1,eq_of_beq h3,h2.symm⟩
theorem yI:∀{tb:sN},(tb.map (·.1)).Nodup->TabsAt tb (AQ tb)
 | [],_=>fun p hp=>nomatch hp
 | q::r,nd=>fun p hp=>by
   rw[List.map_cons,List.nodup_cons]at nd;rcases List.mem_cons.mp hp with rfl|hp
   ·unfold AQ;rw[List.find?_cons_of_pos (by simp)];rfl
   ·have ne:(q.1==p.1)=false:=beq_eq_false_iff_ne.mpr fun z=>nd.1 (by rw[z];exact List.mem_map_of_mem hp)
    unfold AQ;rw[List.find?_cons_of_neg (by rw[ne];exact Bool.false_ne_true)]
    exact yI nd.2 p hp
theorem Ge{P:Program}{w:World}{K:bK}{mg mb:lT}{CX:Hs}{k:Nat}{fa a:Addr}{fd:FuncData}{x:Str}{sp:Sp}{s₁:Shared}{vs:List Value}{ns:List Int}{tb:sN}
 (KX:K.In s₁.heap) (TB:TabsOk K s₁.heap tb) (hns:s₁.heap.Ns mainGlobals mg) (hb:s₁.heap.Ns builtinsNs mb) (BV:∀ x:Str,x≠"__name__"->mb x=bootBuiltins x) (hlim:s₁.heap.NoLimit)
 (hbm:∃ bm ob,mg "__builtins__"=some (.ref bm)/\bm≠builtinsNs/\s₁.heap.get? bm=some ob/\ob.cls = .type "module"/\ob.dict=some builtinsNs/\ob.data = .plain) (hg:s₁.gens = #[])
 (ha:s₁.heap.get? a=some { cls:=.type "list",data:=.seq vs.toArray}) (hi:IntsAre vs ns) (hl:ns.length<=sizeLine) (hr:fh k callerA)
 (F:∀ base:Heap,K.In base->base.Ns mainGlobals mg->lX P w K mg base CX k fa fd [x] sp) (hbind:∀(s:Shared) (u:Value),BindsTo s fd ⟨[u],[]⟩ [(x,u)])
 (sI:∀ H:Hp,TabsAt tb H->aO K H a (ns.map V.int)->sp [.ref a] H (fun v _=>v = .bl true) fun _ _ _=>False)
 (Vq:∀ H e s',CX [] H s₁ (fun _ _ _=>False) e s'->False) :
 codeAny (model P w) callerA (.call (.ref fa) ⟨[.ref a],[]⟩) (fun r s'=>r = .ok (.ret (.bool true))/\OldK s₁.heap s'.heap/\s'.os=s₁.os/\AllBare s'.gens) s₁:=by
 have rv:=xg hi;have Vr:=hi.length;have aT:∀ p∈tb,p.1≠a:=fun p hp z=>by
  have:=TB.mt p hp;rw[z,ha]at this;cases this
 let fz:HO:=.kF { cls:=.type "list",data:=.seq vs.toArray} (.lst (ns.map V.int))
 have core:∀ H:Hp,aO K H a (ns.map V.int)->TabsAt tb H->lU P w H s₁.heap->(∀ b u,H b=some u->(b=a/\K.lookup a=none/\u=fz)\/∃ p∈tb,p.1=b/\u = .jz (eF p.2.1 p.2.2))->
  codeAny (model P w) callerA (.call (.ref fa) ⟨[.ref a],[]⟩) (fun r s'=>r = .ok (.ret (.bool true))/\OldK s₁.heap s'.heap/\s'.os=s₁.os/\AllBare s'.gens) s₁:=by
  intro H hS hT hok hA;have free:∀{b:Addr} {o:Obj},s₁.heap.get? b=some o->(∀ xs n,o.data≠.seq xs n)->(∀ xs,o.data≠.fields xs)->H b=none:=fun {b o} e n1 n2=>by
   cases q:H b with
   | none=>rfl
   | some u =>
     rcases hA b u q with⟨z,_⟩|⟨p,hp,z,_⟩
     ·rw[z,ha]at e;cases e;exact absurd rfl (n1 _ _)
     ·rw[<-z,TB.mt p hp]at e;cases e;exact absurd rfl (n2 _)
  have TM:∀{b:Addr} {m:lT},s₁.heap.Ns b m->(zT s₁.heap H).Ns b m:=fun {b m} ⟨o,es,ep,e,d,r⟩=>⟨o,es,ep,tO e (free e (by intro _ _ z;rw[d]at z;cases z) (by intro _ z;rw[d]at z;cases z)),d,r⟩
  have W9:K.In (zT s₁.heap H):=fun b o e=>tO (KX b o e) (by
   cases q:H b with
   | none=>rfl
   | some u =>
     rcases hA b u q with⟨z,n,_⟩|⟨p,hp,z,_⟩
     ·rw[z,n]at e;cases e
     ·rw[<-z,TB.out p hp]at e;cases e)
  have hM:Mod K mg (zT s₁.heap H):=⟨W9,TM hns,⟨mb,TM hb,BV⟩,(let⟨mc,h1,h2⟩:=hlim;⟨mc,TM h1,h2⟩),
   let⟨bm,ob,b1,b2,b3,b4,b5,b6⟩:=hbm;⟨bm,ob,b1,b2,tO b3 (free b3 (by intro _ _ z;rw[b6]at z;cases z) (by intro _ z;rw[b6]at z;cases z)),b4,b5,b6⟩⟩
  have e0:LA P w K mg (zT s₁.heap H) callerA [] s₁ H:=⟨rfl,hM,fun b o e=>Lp e,Nat.le_of_eq (E8 _ _),trivial,fun b hb=>absurd (show b∈([]:List Addr) from hb) (by simp),hok,.of_eq hg⟩
  refine codeAny_mono ((F _ W9 (TM hns)).run callerA [] s₁ H ⟨[.ref a],[]⟩ [.ref a] [.ref a] _ _ hr e0 (hbind s₁ (.ref a)) (.cons rfl .nil) (sI H hT hS)) fun r s' h=>?_
  cases r with
  | error e=>exact(Vq H e s' h).elim
  | ok fl =>
    cases fl with
    | next=>exact False.elim h
    | brk=>exact False.elim h
    | cont=>exact False.elim h
    | ret u =>
      obtain⟨v,H',os,bare,un,RO,r',q⟩:=h;have q' : v = .bl true:=q;subst q';obtain rfl:u=Value.bool true:=r';have all:∀ b o,s₁.heap.get? b=some o->s'.heap.get? b=some o\/∃ p∈tb,p.1=b/\∃ ps,s'.heap.get? b=some (PySem.W.tabObj ps):=fun b o e=>by
       cases q:H b with
       | none=>exact .inl (un.keep b o e q (by intro z;exact absurd (show b∈([]:List Addr) from z) (by simp)) (by simp))
       | some u =>
         rcases hA b u q with⟨z,_,z2⟩|⟨p,hp,z,z2⟩
         ·rw[z2]at q;obtain⟨e1,_⟩:=hok b _ q;obtain⟨e2,_⟩:=RO b _ (un.kG b _ _ q);rw[e]at e1;cases e1;exact .inl e2
         ·rw[z2]at q;obtain⟨more,q2⟩:=un.lV b _ q;obtain⟨ps,e2,_⟩:=RO b _ q2;exact .inr ⟨p,hp,z,ps,e2⟩
      refine⟨rfl,⟨fun b o e=>?_,fun b o e=>?_⟩,os,bare⟩
      ·rcases all b o e with z|⟨p,hp,z,ps,e2⟩
       ·exact .inl z
       ·obtain⟨c,hc⟩:=TB.code p hp;have e1:=TB.mt p hp;subst z;rw[e]at e1;cases e1;exact .inr (.inl ⟨(hc.tab e).isCodeTable,rfl,#[],ps,rfl,by rw[e2,Array.empty_append]⟩)
      ·rcases all b o e with z|⟨p,hp,z,ps,e2⟩
       ·exact⟨o,z⟩
       ·exact⟨_,e2⟩
 have tok:∀{H:Hp} {b:Addr} {p},p∈tb->p.1=b->br P w H s₁.heap b (.jz (eF p.2.1 p.2.2)):=fun {H b p} hp z=>⟨#[],by rw[<-z];exact TB.mt p hp,.inl ⟨rfl,.inl rfl⟩⟩
 cases hk:K.lookup a with
 | some o =>
   have e:=KX a o hk;rw[ha]at e;cases e;refine core (AQ tb) (.inr ⟨_,vs.toArray,_,hk,rfl,rfl,rfl,by rw[List.size_toArray,Vr];exact hl,by simpa using rv⟩) (yI TB.nd) (fun b u e=>?_) fun b u e=>.inr (m9 e)
   obtain⟨p,hp,z,rfl⟩:=m9 e;exact tok hp z
 | none =>
   refine core (fun b=>if b=a then some fz else AQ tb b) (.inl (.inr ⟨{ cls:=.type "list",data:=.seq vs.toArray},if_pos rfl⟩)) (fun p hp=>?_) (fun b u e=>?_) fun b u e=>?_
   ·show(if p.1=a then some fz else AQ tb p.1)=_
    rw[if_neg (aT p hp)];exact yI TB.nd p hp
   ·by_cases hb:b=a
    ·have z:=(if_pos hb).symm.trans e;cases z;subst hb;exact⟨ha,by rw[List.length_map];exact hl,vs,_,rv,ha⟩
    ·have z:=(if_neg hb).symm.trans e;obtain⟨p,hp,z2,rfl⟩:=m9 z;exact tok hp z2
   ·by_cases hb:b=a
    ·have z:=(if_pos hb).symm.trans e;exact .inl ⟨hb,hk,(Option.some.inj z).symm⟩
    ·exact .inr (m9 ((if_neg hb).symm.trans e))
theorem JO{l:PySem.W.OpenLaw}{n k:Nat}{q:Program}{loose:List Str}{XP:(Str->Option Value)->Heap->Prop}{YP:World->Heap->Prop}{d:DefRec}{K:Params->bK}{CX:World->Hs}{sp:World->sN->Sp}{x:Str}{ts:List Addr}
 (hn:l.most=some n) (hn2:n<=sizeLine) (Q8:d.params.defaults=[]) (hr:fh k callerA)
 (hY:∀(w:World) (h:Heap),YP w h->(K w.params).In h/\∀ P∈ts,h.get? P=some (PySem.W.tabObj #[]))
 (F:∀(w:World) (mg:lT) (fa:Addr) (h:Heap),(K w.params).In h->h.Ns mainGlobals mg->mg d.name=some (.ref fa)->
  ∃(fd:FuncData) (tb:sN),((tb.map (·.1)).Nodup/\PySem.W.noTabs (K w.params)=true/\∀ p∈tb,p.1∈ts/\∃ c,PySem.W.codeHdIn (K w.params) c p.1=true)/\(∀(s:Shared) (u:Value),BindsTo s fd ⟨[u],[]⟩ [(x,u)])/\
   ∀ base:Heap,(K w.params).In base->base.Ns mainGlobals mg->lX l.prog w (K w.params) mg base (CX w) k fa fd [x] (sp w tb))
 (sI:∀(w:World) (H:Hp) (a:Addr) (ns:List Int) (tb:sN),ns.length<=n->TabsAt tb H->aO (K w.params) H a (ns.map V.int)->sp w tb [.ref a] H (fun v _=>v = .bl true) fun _ _ _=>False)
 (Vq:∀(w:World) (H:Hp) (s:Shared) (e:Value) (s' : Shared),CX w [] H s (fun _ _ _=>False) e s'->False) :
 PySem.W.WalkO q loose XP YP l.row.toRowW d [] (fun f vs=>PySem.call f vs):=by
 refine Att.zZ hn Q8 fun w s₀ s₁ mg mb fa o pm cd doc a vs ns G Y ho hd hcd hmg hobj hints hlen hg=>?_
 obtain⟨KX,hts⟩:=hY w _ Y;obtain⟨fd,tb,⟨nd,nt,ht⟩,hb,hF⟩:=F w mg fa _ KX G.T.g hmg;have TB:TabsOk (K w.params) s₁.heap tb:=⟨nd,fun p hp=>hts _ (ht p hp).1,fun p hp=>let⟨_,c,e⟩:=ht p hp;⟨c,PySem.W.codeHd_of_K KX e⟩,fun p hp=>by
  cases e:(K w.params).lookup p.1 with
  | none=>rfl
  | some ob =>
    have e1:=KX _ _ e;rw[hts _ (ht p hp).1]at e1;cases e1;have z:=List.all_eq_true.mp nt (p.1,PySem.W.tabObj #[]) (PySem.W.mem_of_lookupK e);exact absurd (show false=true from z) Bool.false_ne_true⟩
 exact Ge KX TB G.T.g G.T.b G.T.builtins G.T.nolimit G.T.bmain hg hobj hints (Nat.le_trans hlen hn2) hr hF hb (fun H hT hS=>sI w H a ns tb hlen hT hS) fun H e s'=>Vq w H s₁ e s'
def n8(f:Str):Str:=f ++ ".<locals>." ++ "<lambda>"
structure CM(K:bK)(x qual:Str)(st:Stmt)(f:Addr)(fd:FuncData)(c0 P:Addr):Prop where
 ex:∃(oc:Value) (od:Option Addr) (kV doc pm:Value) (an:Option Addr) (ct:Value) (osl:Array (Option Value)),
  fd=PySem.W.fnOf x qual (dY st) (cy st) (aj st) .none kV doc pm an (.ref c0) ct/\K.lookup f=some ⟨oc,od,.func fd,osl⟩/\PySem.W.codeIn K (.ref c0) qual=true
 kp:PySem.W.keepIn K (.ref f)=true
 hd:PySem.W.codeHdIn K c0 P=true
section
variable {P:Program}{w:World}{K:bK}{mg:lT}{base:Heap}{x qual:Str}{st:Stmt}{f c0 p0:Addr}{fd:FuncData}
theorem CM.ok{N ps:List Str}{k:Nat}{sp:Sp}(F:CM K x qual st f fd c0 p0)(S:aD N ps (aj st))(len:∀ vs H Q E,sp vs H Q E->vs.length=ps.length)
 (hbody:∀(A:Around) (outer:List Env) (s:Shared) (H:Hp) (vs:List V) (Q:VK) (E:XK),fh k (A.deeper (envOfC qual (aj st) s.heap.objs.size f (.ref c0)))->sp vs H Q E->
  ∃ t,wQ (sH Eg P w K mg base N qual (aj st) f (.ref c0) A outer s H E).BQ (cy st) t/\t { nx:=fun _ H'=>Q .eM H',rt:=Q} (start N vs) H):lX P w K mg base Eg (k+1) f fd ps sp:=by
 obtain⟨oc,od,kV,doc,pm,an,ct,osl,rfl,lk,hcd⟩:=F.ex;refine HS lk hcd S len fun A outer s H vs Q E hr sI=>?_
 obtain⟨t,h,q⟩:=hbody A outer s H vs Q E hr sI;exact⟨t,h.BQ,q⟩
theorem CM.binds{ps:List Str}(F:CM K x qual st f fd c0 p0)
 (h:∀(kV doc pm:Value) (an:Option Addr) (cdv ct:Value) (us:List Value),us.length=ps.length->bindArgs (PySem.W.fnOf x qual (dY st) (cy st) (aj st) .none kV doc pm an cdv ct) ⟨us,[]⟩=pure (ps.zip us)):Binds K fd ps []:=by
 obtain⟨oc,od,kV,doc,pm,an,ct,osl,rfl,lk,hcd⟩:=F.ex;exact .all (h kV doc pm an (.ref c0) ct)
theorem Mw{oc:Value}{od an:Option Addr}{osl:Array (Option Value)}{kV doc pm ct:Value}(l:K.lookup f=some ⟨oc,od,.func (PySem.W.fnOf x qual (dY st) (cy st) (aj st) .none kV doc pm an (.ref c0) ct),osl⟩)
 (c:PySem.W.codeIn K (.ref c0) qual=true) (k:PySem.W.keepIn K (.ref f)=true) (hd:PySem.W.codeHdIn K c0 p0=true):CM K x qual st f (PySem.W.fnOf x qual (dY st) (cy st) (aj st) .none kV doc pm an (.ref c0) ct) c0 p0 :=
 ⟨⟨oc,od,kV,doc,pm,an,ct,osl,rfl,l,c⟩,k,hd⟩
end
end L2
namespace RM
abbrev OW:=Nat->Bool->Option (Int×Nat)
def jq(F:OW)(x:Nat)(s:Bool)(d:Int×Nat):OW:=fun y t=>if y=x/\t=s then some d else F y t
def yJ(F:OW)(x:Nat)(s:Bool):OW:=fun y t=>if y=x/\t=s then none else F y t
theorem bZ(F:OW)(x:Nat)(s:Bool)(d:Int×Nat):jq F x s d x s=some d:=if_pos ⟨rfl,rfl⟩
theorem bC{F:OW}{x y:Nat}{s t:Bool}{d:Int×Nat}(h : ¬(y=x/\t=s)):jq F x s d y t=F y t:=if_neg h
theorem tM(F:OW)(x:Nat)(s:Bool):yJ F x s x s=none:=if_pos ⟨rfl,rfl⟩
theorem nc{F:OW}{x y:Nat}{s t:Bool}(h : ¬(y=x/\t=s)):yJ F x s y t=F y t:=if_neg h
def Wz(N:Net)(L:Nat->Int)(m u v:Nat)(s:Bool)(z:Int)(e:Nat):Prop:=∃ pre,Wl N L m u pre v s z e
structure Dj(N:Net)(L:Nat->Int)(m u:Nat)(F W:OW)(now:Option (Nat×Bool))(done:Nat->Nat->Prop):Prop where
 fw:∀ x s d,F x s=some d->Wz N L m u x s d.1 d.2
 ww:∀ x s d,W x s=some d->Wz N L m u x s d.1 d.2
 dj:∀ x s d,W x s=some d->F x s=none
 le:∀ x s d y t d',F x s=some d->W y t=some d'->d.1<=d'.1
 mx:∀ x s d y t d',now=some (x,s)->F x s=some d->F y t=some d'->d'.1<=d.1
 cl:∀ x s d k y,F x s=some d->k<N.n->Jn N k x y->(now=some (x,s)->done k y)->∃ d',(F y (s^^m.testBit k)=some d'\/W y (s^^m.testBit k)=some d')/\d'.1<=d.1+L k
 st:∃ d,(F u false=some d\/W u false=some d)/\d.1<=0
section
variable {N:Net}{L:Nat->Int}{m u:Nat}{F W:OW}
theorem Dj.start:Dj N L m u (fun _ _=>none) (jq (fun _ _=>none) u false (0,0)) none (fun _ _=>False):=by
 refine⟨fun _ _ _ h=>(nomatch h),fun x s d h=>?_,fun _ _ _ _=>rfl,fun _ _ _ _ _ _ h=>(nomatch h),fun _ _ _ _ _ _ h=>(nomatch h),fun _ _ _ _ _ h=>(nomatch h),⟨(0,0),.inr (bZ _ _ _ _),Int.le_refl _⟩⟩
 by_cases e:x=u/\s=false
 ·obtain⟨rfl,rfl⟩:=e;rw[bZ]at h;cases h;exact⟨[],.nil⟩
 ·rw[bC e]at h;cases h
theorem Dj.pop(h:Dj N L m u F W none (fun _ _=>False)){x:Nat}{s:Bool}{d:Int×Nat}(e:W x s=some d)(hmin:∀ y t d',W y t=some d'->d.1<=d'.1):Dj N L m u (jq F x s d) (yJ W x s) (some (x,s)) (fun _ _=>False):=by
 have hF:=h.dj x s d e;have of:∀ y t d',jq F x s d y t=some d'->(y=x/\t=s/\d' = d)\/F y t=some d':=fun y t d' q=>by
  by_cases z:y=x/\t=s
  ·obtain⟨rfl,rfl⟩:=z;rw[bZ]at q;exact .inl ⟨rfl,rfl,(Option.some.inj q).symm⟩
  ·rw[bC z]at q;exact .inr q
 have ow:∀ y t d',yJ W x s y t=some d'->¬(y=x/\t=s)/\W y t=some d':=fun y t d' q=>by
  by_cases z:y=x/\t=s
  ·obtain⟨rfl,rfl⟩:=z;rw[tM]at q;cases q
  ·rw[nc z]at q;exact⟨z,q⟩
 have moved:∀ y t d',F y t=some d'\/W y t=some d'->jq F x s d y t=some d'\/yJ W x s y t=some d':=fun y t d' q=>by
  by_cases z:y=x/\t=s
  ·obtain⟨rfl,rfl⟩:=z;rcases q with q|q
   ·rw[hF]at q;cases q
   ·rw[e]at q;cases q;exact .inl (bZ _ _ _ _)
  ·rw[bC z,nc z];exact q
 refine⟨fun y t d' q=>?_,fun y t d' q=>h.ww y t d' (ow y t d' q).2,fun y t d' q=>?_,fun y t d' y2 t2 d2 q q2=>?_,fun y t d' y2 t2 d2 hn q q2=>?_,fun y t d' k y2 q hk hj hd=>?_,?_⟩
 ·rcases of y t d' q with⟨rfl,rfl,rfl⟩|q
  ·exact h.ww _ _ _ e
  ·exact h.fw y t d' q
 ·obtain⟨z,q⟩:=ow y t d' q;rw[bC z];exact h.dj y t d' q
 ·obtain⟨_,q2⟩:=ow y2 t2 d2 q2;rcases of y t d' q with⟨_,_,rfl⟩|q
  ·exact hmin _ _ _ q2
  ·exact h.le _ _ _ _ _ _ q q2
 ·cases hn;rw[bZ]at q;cases q;rcases of y2 t2 d2 q2 with⟨_,_,rfl⟩|q2
  ·exact Int.le_refl _
  ·exact h.le _ _ _ _ _ _ q2 e
 ·rcases of y t d' q with⟨rfl,rfl,rfl⟩|q
  ·exact(hd rfl).elim
  ·obtain⟨d2,q2,l2⟩:=h.cl y t d' k y2 q hk hj (fun z=>nomatch z)
   exact⟨d2,moved _ _ _ q2,l2⟩
 ·obtain⟨d2,q2,l2⟩:=h.st;exact⟨d2,moved _ _ _ q2,l2⟩
theorem Dj.put{done:Nat->Nat->Prop}{x:Nat}{s:Bool}(h:Dj N L m u F W (some (x,s)) done){d:Int×Nat}{k y:Nat}(e:F x s=some d)(hk:k<N.n)(hL:0<=L k)(hj:Jn N k x y)(hF:F y (s^^m.testBit k)=none)
 (hW:∀ d',W y (s^^m.testBit k)=some d'->d.1+L k<=d'.1):Dj N L m u F (jq W y (s^^m.testBit k) (d.1+L k,d.2^^^2^k)) (some (x,s)) (fun k' y'=>done k' y'\/(k' = k/\y' = y)):=by
 have ow:∀ v t d',jq W y (s^^m.testBit k) (d.1+L k,d.2^^^2^k) v t=some d'->(v=y/\t=(s^^m.testBit k)/\d' = (d.1+L k,d.2^^^2^k))\/W v t=some d':=fun v t d' q=>by
  by_cases z:v=y/\t=(s^^m.testBit k)
  ·obtain⟨rfl,rfl⟩:=z;rw[bZ]at q;exact .inl ⟨rfl,rfl,(Option.some.inj q).symm⟩
  ·rw[bC z]at q;exact .inr q
 have moved:∀ v t d',F v t=some d'\/W v t=some d'->∃ d2,(F v t=some d2\/jq W y (s^^m.testBit k) (d.1+L k,d.2^^^2^k) v t=some d2)/\d2.1<=d'.1:=fun v t d' q=>by
  rcases q with q|q
  ·exact⟨d',.inl q,Int.le_refl _⟩
  ·by_cases z:v=y/\t=(s^^m.testBit k)
   ·obtain⟨rfl,rfl⟩:=z;exact⟨_,.inr (bZ _ _ _ _),hW d' q⟩
   ·exact⟨d',.inr (by rw[bC z];exact q),Int.le_refl _⟩
 refine⟨h.fw,fun v t d' q=>?_,fun v t d' q=>?_,fun v t d' v2 t2 d2 q q2=>?_,h.mx,fun v t d' k2 y2 q hk2 Li hd=>?_,?_⟩
 ·rcases ow v t d' q with⟨rfl,rfl,rfl⟩|q
  ·obtain⟨pre,w⟩:=h.fw x s d e;exact⟨_,w.go hk hj⟩
  ·exact h.ww v t d' q
 ·rcases ow v t d' q with⟨rfl,rfl,rfl⟩|q
  ·exact hF
  ·exact h.dj v t d' q
 ·rcases ow v2 t2 d2 q2 with⟨rfl,rfl,rfl⟩|q2
  ·have:=h.mx x s d v t d' rfl e q;show d'.1<=d.1+L k
   lia
  ·exact h.le _ _ _ _ _ _ q q2
 ·by_cases hd2:some (x,s)=some (v,t)->done k2 y2
  ·obtain⟨d2,q2,l2⟩:=h.cl v t d' k2 y2 q hk2 Li hd2;obtain⟨d3,q3,l3⟩:=moved _ _ _ q2;exact⟨d3,q3,Int.le_trans l3 l2⟩
  ·have hn:some (x,s)=some (v,t):=Classical.byContradiction fun z=>hd2 fun z2=>absurd z2 z
   rcases hd hn with z|⟨rfl,rfl⟩
   ·exact absurd (fun _=>z) hd2
   ·cases hn;rw[e]at q;cases q;exact⟨_,.inr (bZ _ _ _ _),Int.le_refl _⟩
 ·obtain⟨d2,q2,l2⟩:=h.st;obtain⟨d3,q3,l3⟩:=moved _ _ _ q2;exact⟨d3,q3,Int.le_trans l3 l2⟩
theorem Dj.skip{done:Nat->Nat->Prop}{x:Nat}{s:Bool}(h:Dj N L m u F W (some (x,s)) done){d d2:Int×Nat}{k y:Nat}(e:F x s=some d)(hL:0<=L k)(q2:F y (s^^m.testBit k)=some d2\/(W y (s^^m.testBit k)=some d2/\d2.1<=d.1+L k)):
 Dj N L m u F W (some (x,s)) (fun k' y'=>done k' y'\/(k' = k/\y' = y)):=by
 refine⟨h.fw,h.ww,h.dj,h.le,h.mx,fun v t d' k2 y2 q hk2 Li hd=>?_,h.st⟩
 by_cases hd2:some (x,s)=some (v,t)->done k2 y2
 ·exact h.cl v t d' k2 y2 q hk2 Li hd2
 ·have hn:some (x,s)=some (v,t):=Classical.byContradiction fun z=>hd2 fun z2=>absurd z2 z
  rcases hd hn with z|⟨rfl,rfl⟩
  ·exact absurd (fun _=>z) hd2
  ·cases hn;rw[e]at q;cases q;rcases q2 with q2|⟨q2,l2⟩
   ·have:=h.mx x s d _ _ d2 rfl e q2;exact⟨d2,.inl q2,by lia⟩
   ·exact⟨d2,.inr q2,l2⟩
theorem Dj.all{done:Nat->Nat->Prop}{x:Nat}{s:Bool}(h:Dj N L m u F W (some (x,s)) done)(ha:∀ k y,k<N.n->Jn N k x y->done k y):Dj N L m u F W none (fun _ _=>False) :=
 ⟨h.fw,h.ww,h.dj,h.le,fun _ _ _ _ _ _ z=>(nomatch z),fun v t d k y q hk hj _=>h.cl v t d k y q hk hj fun z=>by cases z;exact ha k y hk hj,h.st⟩
theorem Dj.best(h:Dj N L m u F W none (fun _ _=>False))(hW:∀ x s,W x s=none)(x:Nat)(s:Bool):sM N L m u x s ((F x s).map (·.1)):=by
 have low:∀{pre:List Nat} {v e:Nat} {t:Bool} {z:Int},Wl N L m u pre v t z e->∃ d,F v t=some d/\d.1<=z:=fun {pre v e t z} w=>by
  induction w with
  | nil =>
    obtain⟨d,q,l⟩:=h.st;rcases q with q|q
    ·exact⟨d,q,l⟩
    ·rw[hW]at q;cases q
  | @go pre v w k e s z _ hk hj ih =>
    obtain⟨d,q,l⟩:=ih;obtain⟨d2,q2,l2⟩:=h.cl _ _ d k _ q hk hj (fun z=>nomatch z)
    rcases q2 with q2|q2
    ·exact⟨d2,q2,by lia⟩
    ·rw[hW]at q2;cases q2
 cases q:F x s with
 | none =>
   intro z ⟨_,_,w⟩;obtain⟨d,q2,_⟩:=low w;rw[q]at q2;cases q2
 | some d =>
   obtain⟨pre,w⟩:=h.fw x s d q;refine⟨⟨_,_,w⟩,fun z ⟨_,_,w2⟩=>?_⟩
   obtain⟨d2,q2,l2⟩:=low w2;rw[q]at q2;cases q2;exact l2
end
end RM
namespace L2
open PySem Ring
abbrev ky(x:Nat)(s:Bool):List Key:=[.inl (x:Int),.inl (s.toNat:Int)]
theorem CN{x y:Nat}{s t:Bool}(h:ky x s=ky y t):x=y/\s=t:=by
 injection h with h1 h2
 injection h2 with h2 _
 injection h1 with h1
 injection h2 with h2
 refine⟨by lia,?_⟩
 cases s<;>cases t<;>first | rfl | (simp at h2)
def wV(H:Hp):Option (Int×Nat)->V->Prop
 | none,v=>v = .eM
 | some d,v=>∃ c,v = .ref c/\H c=some (.tup [.int d.1,.int (d.2:Int)])
theorem wV.tups{H H' : Hp}{o:Option (Int×Nat)}{v:V}(h:wV H o v)(s:c6 H H'):wV H' o v:=by
 cases o with
 | none=>exact h
 | some d=>obtain⟨c,e,q⟩:=h;exact⟨c,e,s _ _ q⟩
structure u4(p:Nat)(H0:Hp)(D wd:Addr)(es:List Addr)(kvs:List (List Key×V))(F W:RM.OW)(H:Hp):Prop where
 same:av H0 H
 nd:es.Nodup
 ne:D∉es
 fr:∀ b∈es,H0 b=none
 Dn:H0 D=none
 wn:H0 wd=none
 wD:wd≠D
 wE:wd∉es
 lst:H D=some (.lst (es.map V.ref))
 at_:∀ i b,es[i]?=some b->∃ v0 v1,H b=some (.lst [v0,v1])/\wV H (F i false) v0/\wV H (F i true) v1
 dt:H wd=some (.dT kvs)
 kn:(kvs.map (·.1)).Nodup
 keys:∀ kv∈kvs,∃ x s,x<p/\kv.1=ky x s
 out:∀ x s d,W x s=some d->x<p
 val:∀ x s,(W x s=none/\eE kvs (ky x s)=none)\/∃ d c,W x s=some d/\eE kvs (ky x s)=some (.ref c)/\H c=some (.tup [.int d.1,.int (d.2:Int)])
section
variable {p:Nat}{H0 H H' : Hp}{D wd:Addr}{es:List Addr}{kvs:List (List Key×V)}{F W:RM.OW}
theorem u4.go(h:u4 p H0 D wd es kvs F W H)(s:av H H'):u4 p H0 D wd es kvs F W H' :=
 ⟨h.same.trans s,h.nd,h.ne,h.fr,h.Dn,h.wn,h.wD,h.wE,s _ _ h.lst,fun i b e=>let⟨v0,v1,a,b1,c⟩:=h.at_ i b e;⟨v0,v1,s _ _ a,b1.tups s.tups,c.tups s.tups⟩,s _ _ h.dt,h.kn,h.keys,h.out,
  fun x t=>(h.val x t).imp (fun z=>z) fun⟨d,c,a,b,e⟩=>⟨d,c,a,b,s _ _ e⟩⟩
theorem u4.len(h:u4 p H0 D wd es kvs F W H):kvs.length<=2*p:=by
 have hn:=h.kn;have hk:=h.keys
 let code:List Key->Nat:=fun k=>match k with | [.inl x,.inl s]=>2*x.toNat+s.toNat | _=>0
 have inj:∀ a∈kvs.map (·.1),∀ b∈kvs.map (·.1),code a=code b->a=b:=fun a ha b hb e=>by
  obtain⟨u,hu,rfl⟩:=List.mem_map.mp ha;obtain⟨v,hv,rfl⟩:=List.mem_map.mp hb;obtain⟨x,s,_,ex⟩:=hk u hu;obtain⟨y,t,_,ey⟩:=hk v hv;rw[ex,ey]at e ⊢;have e:2*((x:Int)).toNat+((s.toNat:Int)).toNat=2*((y:Int)).toNat+((t.toNat:Int)).toNat:=e;rw[Int.toNat_natCast,Int.toNat_natCast,Int.toNat_natCast,Int.toNat_natCast]at e;have hs:s.toNat<2:=by cases s<;>decide
  have ht:t.toNat<2:=by cases t<;>decide
  have e1:x=y:=by lia
  have e2:s.toNat=t.toNat:=by lia
  have e3:s=t:=by cases s<;>cases t<;>first | rfl | (simp at e2)
  rw[e1,e3]
 have nd:((kvs.map (·.1)).map code).Nodup:=by
  revert inj
  generalize kvs.map (·.1)=l at hn;intro inj
  induction hn with
  | nil=>exact List.nodup_nil
  | @cons a l h1 h2 ih =>
    rw[List.map_cons,List.nodup_cons];refine⟨fun hm=>?_,ih fun a ha b hb e=>inj a (List.mem_cons_of_mem _ ha) b (List.mem_cons_of_mem _ hb) e⟩
    obtain⟨b,hb,e⟩:=List.mem_map.mp hm;exact h1 b hb (inj a List.mem_cons_self b (List.mem_cons_of_mem _ hb) e.symm)
 have sub:∀ c∈(kvs.map (·.1)).map code,c∈List.range (2*p):=fun c hc=>by
  obtain⟨a,ha,rfl⟩:=List.mem_map.mp hc;obtain⟨u,hu,rfl⟩:=List.mem_map.mp ha;obtain⟨x,s,hx,ex⟩:=hk u hu;rw[ex,List.mem_range];show 2*((x:Int)).toNat+((s.toNat:Int)).toNat<2*p;rw[Int.toNat_natCast,Int.toNat_natCast];have hs:s.toNat<2:=by cases s<;>decide
  lia
 have:=nd.length_le_of_subset sub
 simpa using this
theorem u4.row(h:u4 p H0 D wd es kvs F W H){i:Nat}(hi:i<es.length):∃ b v0 v1,(es.map V.ref)[i]?=some (.ref b)/\es[i]?=some b/\H b=some (.lst [v0,v1])/\wV H (F i false) v0/\wV H (F i true) v1:=by
 have e:es[i]?=some es[i]:=List.getElem?_eq_getElem hi;obtain⟨v0,v1,a,b,c⟩:=h.at_ i _ e;exact⟨es[i],v0,v1,by rw[List.getElem?_map,e];rfl,e,a,b,c⟩
theorem qK{κ:Type}[DecidableEq κ](k j:κ):∀ kvs:List (κ×V),eE (dM kvs k) j=if j=k then none else eE kvs j
 | []=>by rw[show dM ([]:List (κ×V)) k=[] from rfl,uK];split<;>rfl
 | q::r=>by
   by_cases e:q.1=k
   ·rw[xE e,qK k j r]
    by_cases e2:j=k
    ·rw[if_pos e2,if_pos e2]
    ·rw[if_neg e2,if_neg e2,cB (fun z=>e2 (z.symm.trans e))]
   ·rw[xF e]
    by_cases e3:q.1=j
    ·rw[cN e3,if_neg (fun z=>e (e3.trans z)),cN e3]
    ·rw[cB e3,qK k j r,cB e3]
theorem u4.take(h:u4 p H0 D wd es kvs F W H){x:Nat}{s:Bool}{d:Int×Nat}{b c:Addr}{v0 v1:V}(e:W x s=some d)(hc:H c=some (.tup [.int d.1,.int (d.2:Int)]))(hb:es[x]?=some b)(hv:H b=some (.lst [v0,v1])):
 u4 p H0 D wd es (dM kvs (ky x s)) (RM.jq F x s d) (RM.yJ W x s) (upd (upd H wd (.dT (dM kvs (ky x s)))) b (.lst (([v0,v1]:List V).set s.toNat (.ref c)))):=by
 have hm:=List.mem_of_getElem? hb;have bw:b≠wd:=fun z=>h.wE (z▸hm)
 have bD:D≠b:=fun z=>h.ne (z▸hm)
 have tp:c6 H (upd (upd H wd (.dT (dM kvs (ky x s)))) b (.lst (([v0,v1]:List V).set s.toNat (.ref c)))):=fun a ys q=>by
  rw[aq (aW q hv (by intro z;cases z)),aq (aW q h.dt (by intro z;cases z))]
  exact q
 refine⟨(h.same.put h.wn).put (h.fr b hm),h.nd,h.ne,h.fr,h.Dn,h.wn,h.wD,h.wE,by rw[aq bD,aq (Ne.symm h.wD)];exact h.lst,fun i b' hb'=>?_,by rw[aq (Ne.symm bw),ae],uL h.kn,fun kv hkv=>h.keys kv (xG hkv),fun y t d' q=>?_,fun y t=>?_⟩
 ·by_cases ei:i=x
  ·subst ei;rw[hb]at hb';cases hb';obtain⟨w0,w1,q1,q2,q3⟩:=h.at_ _ _ hb;rw[hv]at q1;cases q1;cases s with
   | false=>exact⟨.ref c,v1,ae,by rw[RM.bZ];exact⟨c,rfl,tp _ _ hc⟩,by rw[RM.bC (fun z=>by cases z.2)];exact q3.tups tp⟩
   | true=>exact⟨v0,.ref c,ae,by rw[RM.bC (fun z=>by cases z.2)];exact q2.tups tp,by rw[RM.bZ];exact⟨c,rfl,tp _ _ hc⟩⟩
  ·have bb:b'≠b:=fun z=>by
    subst z;obtain⟨h1,h2⟩:=List.getElem?_eq_some_iff.mp hb';obtain⟨h3,h4⟩:=List.getElem?_eq_some_iff.mp hb;exact ei ((List.getElem_inj h.nd).mp (h2.trans h4.symm))
   obtain⟨w0,w1,q1,q2,q3⟩:=h.at_ _ _ hb';exact⟨w0,w1,by rw[aq bb,aq (show b'≠wd from fun z=>h.wE (z▸List.mem_of_getElem? hb'))];exact q1,by rw[RM.bC (fun z=>ei z.1)];exact q2.tups tp,by rw[RM.bC (fun z=>ei z.1)];exact q3.tups tp⟩
 ·by_cases z:y=x/\t=s
  ·obtain⟨rfl,rfl⟩:=z;rw[RM.tM]at q;cases q
  ·rw[RM.nc z]at q;exact h.out y t d' q
 ·rw[qK]
  by_cases z:y=x/\t=s
  ·obtain⟨rfl,rfl⟩:=z;exact .inl ⟨RM.tM _ _ _,if_pos rfl⟩
  ·rw[RM.nc z,if_neg (fun q=>z (CN q))]
   rcases h.val y t with q|⟨d',c',q1,q2,q3⟩
   ·exact .inl q
   ·exact .inr ⟨d',c',q1,q2,tp _ _ q3⟩
theorem u4.wait(h:u4 p H0 D wd es kvs F W H){x:Nat}{s:Bool}{d:Int×Nat}{c:Addr}(hx:x<p)(hc:H c=some (.tup [.int d.1,.int (d.2:Int)])):
 u4 p H0 D wd es (putK kvs (ky x s) (.ref c)) F (RM.jq W x s d) (upd H wd (.dT (putK kvs (ky x s) (.ref c)))):=by
 have tp:c6 H (upd H wd (.dT (putK kvs (ky x s) (.ref c)))):=fun a ys q=>by
  rw[aq (aW q h.dt (by intro z;cases z))]
  exact q
 have Nm:(∀ kv∈putK kvs (ky x s) (.ref c),∃ x s,x<p/\kv.1=ky x s)/\((putK kvs (ky x s) (.ref c)).map (·.1)).Nodup:=by
  cases q:eE kvs (ky x s) with
  | none =>
    refine⟨fun kv hkv=>?_,Me _ h.kn q⟩
    rw[As _ q]at hkv;rcases List.mem_append.mp hkv with z|z
    ·exact h.keys kv z
    ·rw[List.mem_singleton.mp z];exact⟨x,s,hx,rfl⟩
  | some v =>
    have hany:(kvs.any fun kv=>decide (kv.1=ky x s))=true:=by rw[iA,q];rfl
    have e:putK kvs (ky x s) (.ref c)=kvs.map fun kv=>if kv.1=ky x s then(kv.1,.ref c) else kv:=by unfold putK;rw[if_pos hany]
    have ek:(putK kvs (ky x s) (.ref c)).map (·.1)=kvs.map (·.1):=by
     rw[e,List.map_map];refine List.map_congr_left fun kv _=>?_
     show(if kv.1=ky x s then(kv.1,V.ref c) else kv).1=kv.1
     split<;>rfl
    refine⟨fun kv hkv=>?_,by rw[ek];exact h.kn⟩
    have hm:kv.1∈kvs.map (·.1):=by rw[<-ek];exact List.mem_map_of_mem hkv
    obtain⟨Xa,h1,h2⟩:=List.mem_map.mp hm;rw[<-h2];exact h.keys Xa h1
 refine⟨h.same.put h.wn,h.nd,h.ne,h.fr,h.Dn,h.wn,h.wD,h.wE,by rw[aq (Ne.symm h.wD)];exact h.lst,fun i b hb=>?_,ae,Nm.2,Nm.1,fun y t d' q=>?_,fun y t=>?_⟩
 ·obtain⟨w0,w1,q1,q2,q3⟩:=h.at_ _ _ hb;exact⟨w0,w1,by rw[aq (show b≠wd from fun z=>h.wE (z▸List.mem_of_getElem? hb))];exact q1,q2.tups tp,q3.tups tp⟩
 ·by_cases z:y=x/\t=s
  ·rw[z.1];exact hx
  ·rw[RM.bC z]at q;exact h.out y t d' q
 ·rw[IU]
  by_cases z:y=x/\t=s
  ·obtain⟨rfl,rfl⟩:=z;exact .inr ⟨d,c,RM.bZ _ _ _ _,if_pos rfl,tp _ _ hc⟩
  ·rw[RM.bC z,if_neg (fun q=>z (CN q))]
   rcases h.val y t with q|⟨d',c',q1,q2,q3⟩
   ·exact .inl q
   ·exact .inr ⟨d',c',q1,q2,tp _ _ q3⟩
end
abbrev jr(m:Nat)(H:Hp)(c:Addr)(kw:Nat×Nat):Prop:=H c=some (.tup [.int (kw.1:Int),.int (kw.2:Int),.int ((m.testBit kw.1).toNat:Int)])
structure Gf(m:Nat)(H0:Hp)(D:Addr)(es:List Addr)(S:Nat->List (Nat×Nat))(H:Hp):Prop where
 same:av H0 H
 nd:es.Nodup
 ne:D∉es
 fr:∀ b∈es,H0 b=none
 Dn:H0 D=none
 lst:H D=some (.lst (es.map V.ref))
 at_:∀ i b,es[i]?=some b->∃ cs,H b=some (.lst (cs.map V.ref))/\Paired (jr m H) cs (S i)
section
variable {m:Nat}{H0 H H' : Hp}{D b:Addr}{es:List Addr}{S:Nat->List (Nat×Nat)}{i:Nat}
theorem Gf.go(h:Gf m H0 D es S H)(s:av H H'):Gf m H0 D es S H' :=
 ⟨h.same.trans s,h.nd,h.ne,h.fr,h.Dn,s _ _ h.lst,fun i b e=>let⟨cs,a,q⟩:=h.at_ i b e;⟨cs,s _ _ a,Paired.yg q fun _ _ z=>s _ _ z⟩⟩
def u6(S:Nat->List (Nat×Nat))(x:Nat)(kw:Nat×Nat):Nat->List (Nat×Nat):=fun i=>if i=x then S i++[kw] else S i
theorem Gf.get(h:Gf m H0 D es S H)(hi:i<es.length):∃ b cs,(es.map V.ref)[i]?=some (.ref b)/\es[i]?=some b/\H b=some (.lst (cs.map V.ref))/\Paired (jr m H) cs (S i):=by
 have e:es[i]?=some es[i]:=List.getElem?_eq_getElem hi;obtain⟨cs,a,q⟩:=h.at_ i _ e;exact⟨es[i],cs,by rw[List.getElem?_map,e];rfl,e,a,q⟩
theorem Gf.put(h:Gf m H0 D es S H){cs:List Addr}{c:Addr}{kw:Nat×Nat}(hb:es[i]?=some b)(hcs:H b=some (.lst (cs.map V.ref)))(q:Paired (jr m H) cs (S i))(hc:jr m H c kw):
 Gf m H0 D es (u6 S i kw) (upd H b (.lst (cs.map V.ref++[.ref c]))):=by
 have hm:=List.mem_of_getElem? hb;have hne:D≠b:=fun z=>h.ne (z▸hm)
 have tp:∀ c kw,jr m H c kw->jr m (upd H b (.lst (cs.map V.ref++[.ref c]))) c kw:=fun c kw z=>by
  show upd H b _ c=_;rw[aq (aW z hcs (by intro z;cases z))]
  exact z
 have tp' : ∀ x kw,jr m H x kw->jr m (upd H b (.lst (cs.map V.ref++[.ref c]))) x kw:=fun x kw z=>by
  show upd H b _ x=_;rw[aq (aW z hcs (by intro z;cases z))]
  exact z
 refine⟨h.same.put (h.fr b hm),h.nd,h.ne,h.fr,h.Dn,by rw[aq hne];exact h.lst,fun j b' hb'=>?_⟩
 by_cases e:j=i
 ·subst e;rw[hb]at hb';cases hb';refine⟨cs++[c],by rw[ae];simp,?_⟩
  unfold u6;rw[if_pos rfl];exact Paired.snoc (Paired.yg q fun _ _ z=>tp' _ _ z) (tp' _ _ hc)
 ·have bb:b'≠b:=fun z=>by
   subst z;obtain⟨h1,h2⟩:=List.getElem?_eq_some_iff.mp hb';obtain⟨h3,h4⟩:=List.getElem?_eq_some_iff.mp hb;exact e ((List.getElem_inj h.nd).mp (h2.trans h4.symm))
  obtain⟨cs',q1,q2⟩:=h.at_ j b' hb';refine⟨cs',by rw[aq bb];exact q1,?_⟩
  unfold u6;rw[if_neg e];exact Paired.yg q2 fun _ _ z=>tp' _ _ z
theorem Gf.off(h:Gf m H0 D es S H){L:Addr}(hL:H L=none):L∉es:=fun z=>by
 obtain⟨j,hj⟩:=List.getElem?_of_mem z;obtain⟨_,q,_⟩:=h.at_ j L hj;rw[hL]at q;cases q
def Nn(m:Nat)(H0:Hp)(D:Addr)(i:Nat)(acc:List V)(H:Hp):Prop:=∃ es,acc=es.map V.ref/\es.length=i/\Gf m H0 D es (fun _=>[]) H
theorem Nn.start(hD:H0 D=none):Nn m H0 D 0 [] (upd H0 D (.lst [])) :=
 ⟨[],rfl,rfl,av.new hD,List.nodup_nil,List.not_mem_nil,fun _ h=>(List.not_mem_nil h).elim,hD,ae,fun i b e=>by cases e⟩
theorem Nn.len{acc:List V}(h:Nn m H0 D i acc H):H D=some (.lst acc)/\acc.length<=i:=by
 obtain⟨es,rfl,e,r⟩:=h;exact⟨r.lst,by rw[List.length_map];lia⟩
theorem Nn.next{acc:List V}(h:Nn m H0 D i acc H)(hb:H b=none):upd H b (.lst []) D=some (.lst acc)/\Nn m H0 D (i+1) (acc++[.ref b]) (upd (upd H b (.lst [])) D (.lst (acc++[.ref b]))):=by
 obtain⟨es,rfl,e,r⟩:=h;have OP:D≠b:=fun z=>by
  have:=r.lst;rw[z,hb]at this;cases this
 have hbn:b∉es:=r.off hb;have hb0:H0 b=none:=r.same.free hb;refine⟨by rw[aq OP];exact r.lst,es++[b],by simp,by simp[e],(r.same.put hb0).put r.Dn,?_,?_,fun c hc=>?_,r.Dn,by rw[ae];simp,fun j c hc=>?_⟩
 ·exact List.nodup_append.mpr ⟨r.nd,by simp,fun x hx y hy=>by rw[List.mem_singleton.mp hy];exact fun z=>hbn (z▸hx)⟩
 ·intro hm;rcases List.mem_append.mp hm with z|z
  ·exact r.ne z
  ·exact OP (List.mem_singleton.mp z)
 ·rcases List.mem_append.mp hc with z|z
  ·exact r.fr c z
  ·rw[List.mem_singleton.mp z];exact hb0
 ·have Vk:c≠D:=fun z=>by
   subst z;rcases List.mem_append.mp (List.mem_of_getElem? hc) with z|z
   ·exact r.ne z
   ·exact OP (List.mem_singleton.mp z)
  refine⟨[],?_,.nil⟩;rw[aq Vk]
  by_cases ec:c=b
  ·rw[ec,ae];rfl
  ·rw[aq ec]
   by_cases hj:j<es.length
   ·rw[List.getElem?_append_left hj]at hc;obtain⟨cs,q1,q2⟩:=r.at_ j c hc;cases q2;exact q1
   ·rw[List.getElem?_append_right (by lia)]at hc
    have:=List.mem_of_getElem? hc;exact absurd (List.mem_singleton.mp this) ec
end
structure Np(N:RM.Net)(k:Nat)(S:Nat->List (Nat×Nat)):Prop where
 mem:∀ i kw,kw∈S i↔(kw.1<k/\RM.Jn N kw.1 i kw.2)
 len:∀ i,(S i).length<=2*k
theorem Np.start{N:RM.Net}:Np N 0 (fun _=>[]):=⟨fun i kw=>⟨fun h=>(nomatch h),fun h=>absurd h.1 (Nat.not_lt_zero _)⟩,fun _=>Nat.zero_le _⟩
theorem Np.next{N:RM.Net}{k:Nat}{S:Nat->List (Nat×Nat)}(h:Np N k S):Np N (k+1) (u6 (u6 S (N.a k) (k,N.b k)) (N.b k) (k,N.a k)):=by
 refine⟨fun i kw=>?_,fun i=>?_⟩
 ·have one:∀(S:Nat->List (Nat×Nat)) (x:Nat) (q:Nat×Nat),kw∈u6 S x q i↔kw∈S i\/(i=x/\kw=q):=fun S x q=>by
   unfold u6
   by_cases e:i=x
   ·rw[if_pos e,List.mem_append,List.mem_singleton];simp[e]
   ·rw[if_neg e];simp[e]
  rw[one,one,h.mem];obtain⟨k',w⟩:=kw
  constructor
  ·rintro((⟨h1,h2⟩|⟨rfl,h2⟩) | ⟨rfl,h2⟩)
   ·exact⟨Nat.lt_succ_of_lt h1,h2⟩
   ·cases h2;exact⟨Nat.lt_succ_self _,.inl ⟨rfl,rfl⟩⟩
   ·cases h2;exact⟨Nat.lt_succ_self _,.inr ⟨rfl,rfl⟩⟩
  ·rintro⟨h1,h2⟩
   by_cases e:k'<k
   ·exact .inl (.inl ⟨e,h2⟩)
   ·have e:k' = k:=by have:k'<k+1:=h1;lia
    subst e;rcases h2 with⟨h3,h4⟩|⟨h3,h4⟩
    ·exact .inl (.inr ⟨h3.symm,by have h4:N.b k' = w:=h4;rw[h4]⟩)
    ·exact .inr ⟨h3.symm,by have h4:N.a k' = w:=h4;rw[h4]⟩
 ·have one:∀(S:Nat->List (Nat×Nat)) (x:Nat) (q:Nat×Nat),(u6 S x q i).length<=(S i).length+1:=fun S x q=>by
   unfold u6
   split
   ·simp
   ·lia
  have h1:=one (u6 S (N.a k) (k,N.b k)) (N.b k) (k,N.a k);have h2:=one S (N.a k) (k,N.b k);have h3:=h.len i
  lia
end L2
namespace RM
def left(F:OW):Nat->Nat
 | 0=>0
 | p+1=>left F p+(if(F p false).isNone then 1 else 0)+(if(F p true).isNone then 1 else 0)
theorem xT{F G:OW}:∀{p:Nat},(∀ x,x<p->∀ s,F x s=G x s)->left F p=left G p
 | 0,_=>rfl
 | p+1,h=>by
   unfold left;rw[xT fun x hx=>h x (by lia),h p (by lia),h p (by lia)]
theorem AR{F:OW}{x:Nat}{s:Bool}{d:Int×Nat}(hn:F x s=none):∀{p:Nat},x<p->left (jq F x s d) p<left F p
 | 0,h=>absurd h (Nat.not_lt_zero _)
 | p+1,h=>by
   unfold left
   by_cases e:x=p
   ·subst e;rw[xT (F:=jq F x s d) (G:=F) fun y hy t=>bC fun z=>by lia]
    cases s with
    | false=>rw[bZ,bC (fun z=>by cases z.2),hn];simp
    | true=>rw[bZ,bC (fun z=>by cases z.2),hn];simp
   ·have ih:=AR (F:=F) (x:=x) (s:=s) (d:=d) hn (p:=p) (by lia)
    rw[bC (fun z=>e z.1.symm),bC (fun z=>e z.1.symm)]
    lia
end RM
namespace L2
open PySem Ring
def TN(W:RM.OW)(k:List Key):List Int:=match k with
 | [.inl x,.inl s]=>(match W x.toNat (decide (s=1)) with | some d=>[d.1,(d.2:Int)] | none=>[])
 | _=>[]
theorem JP{W:RM.OW}{x:Nat}{s:Bool}{d:Int×Nat}(h:W x s=some d):TN W (ky x s)=[d.1,(d.2:Int)]:=by
 have e:(decide (((s.toNat:Nat):Int)=1))=s:=by cases s<;>rfl
 show(match W ((x:Int)).toNat (decide (((s.toNat:Nat):Int)=1)) with | some d=>[d.1,(d.2:Int)] | none=>[])=_
 rw[Int.toNat_natCast,e,h]
def JQ(W:RM.OW)(kvs:List (List Key×V))(i:Nat):List Int:=TN W ((kvs[i]?.map (·.1)).getD [])
theorem yK{a b c d:Int}(h:HT.lexLt [a,b] [c,d]=false):c<=a:=by
 rw[HT.gM]at h
 by_cases e:a=c
 ·lia
 ·rw[if_neg e]at h;have:=of_decide_eq_false h
  lia
theorem xU{κ:Type}[DecidableEq κ]:∀{kvs:List (κ×V)} {k:κ} {v:V},(kvs.map (·.1)).Nodup->(k,v)∈kvs->eE kvs k=some v
 | [],_,_,_,h=>nomatch h
 | q::r,k,v,nd,h=>by
   rw[List.map_cons,List.nodup_cons]at nd;rcases List.mem_cons.mp h with e|h
   ·subst e;exact cN rfl
   ·have ne : ¬ q.1=k:=fun z=>nd.1 (by rw[z];exact List.mem_map_of_mem (f:=(·.1)) h)
    rw[cB ne];exact xU nd.2 h
theorem u4.entry{p:Nat}{H0 H:Hp}{D wd:Addr}{es:List Addr}{kvs:List (List Key×V)}{F W:RM.OW}(h:u4 p H0 D wd es kvs F W H){i:Nat}{kv:List Key×V}(e:kvs[i]?=some kv):
 ∃ x s d c,x<p/\kv.1=ky x s/\W x s=some d/\eE kvs (ky x s)=some (.ref c)/\kv.2 = .ref c/\H c=some (.tup [.int d.1,.int (d.2:Int)])/\JQ W kvs i=[d.1,(d.2:Int)]:=by
 have hm:=List.mem_of_getElem? e;obtain⟨x,s,hx,ek⟩:=h.keys kv hm;have hv:eE kvs (ky x s)=some kv.2:=xU h.kn (by rw[<-ek];exact hm)
 rcases h.val x s with⟨_,z⟩|⟨d,c,h1,h2,h3⟩
 ·rw[hv]at z;cases z
 ·rw[hv]at h2;refine⟨x,s,d,c,hx,ek,h1,hv.trans h2,Option.some.inj h2,h3,?_⟩;unfold JQ;rw[e];show TN W kv.1=_;rw[ek];exact JP h1
theorem u4.find{p:Nat}{H0 H:Hp}{D wd:Addr}{es:List Addr}{kvs:List (List Key×V)}{F W:RM.OW}(h:u4 p H0 D wd es kvs F W H){x:Nat}{s:Bool}{d:Int×Nat}(e:W x s=some d):∃(i:Nat) (kv:List Key×V),kvs[i]?=some kv/\kv.1=ky x s/\JQ W kvs i=[d.1,(d.2:Int)]:=by
 rcases h.val x s with⟨z,_⟩|⟨d',c,h1,h2,h3⟩
 ·rw[e]at z;cases z
 ·have hm:=Mc h2;obtain⟨kv,hkv,ek⟩:=List.mem_map.mp hm;obtain⟨i,hi⟩:=List.getElem?_of_mem hkv;refine⟨i,kv,hi,ek,?_⟩;unfold JQ;rw[hi];show TN W kv.1=_;rw[ek];exact JP e
theorem u4.start{p:Nat}{H0 H:Hp}{D wd c:Addr}{es:List Addr}{u:Nat}(f:CI H0 D es (fun _ _=>none) H)(hu:u<p)(hw:H wd=some (.dT []))(h0:H0 wd=none)(hc:H c=some (.tup [.int 0,.int 0])):
 u4 p H0 D wd es [(ky u false,.ref c)] (fun _ _=>none) (RM.jq (fun _ _=>none) u false (0,0)) (upd H wd (.dT [(ky u false,.ref c)])):=by
 have wD:wd≠D:=fun z=>by rw[z,f.lst]at hw;cases hw
 have wE:wd∉es:=fun z=>by
  obtain⟨j,hj⟩:=List.getElem?_of_mem z;have:=f.at_ j wd hj;rw[hw]at this;cases this
 refine⟨f.same.put h0,f.nd,f.ne,f.fr,f.Dn,h0,wD,wE,by rw[aq (Ne.symm wD)];exact f.lst,fun i b hb=>?_,ae,by simp,fun kv hkv=>?_,fun x s d e=>?_,fun x s=>?_⟩
 ·have nb:b≠wd:=fun z=>wE (z▸List.mem_of_getElem? hb)
  exact⟨.eM,.eM,by rw[aq nb];exact f.at_ i b hb,rfl,rfl⟩
 ·rw[List.mem_singleton.mp hkv];exact⟨u,false,hu,rfl⟩
 ·by_cases z:x=u/\s=false
  ·rw[z.1];exact hu
  ·rw[RM.bC z]at e;cases e
 ·by_cases z:x=u/\s=false
  ·obtain⟨rfl,rfl⟩:=z;exact .inr ⟨(0,0),c,RM.bZ _ _ _ _,cN rfl,by rw[aq (aW hc hw (by intro z;cases z))];exact hc⟩
  ·refine .inl ⟨RM.bC z,?_⟩;rw[cB (fun q=>z ?_),uK]
   obtain⟨e1,e2⟩:=CN q;exact⟨e1.symm,e2.symm⟩
open PySem PySem.Spec PyProof.Rows
section
variable {P:Program}{w:World}{A:Around}{E:dw}{s:Shared}
theorem JR{l:Addr}{u0 u1:Value}{Q:List Value->Shared->Prop}(hh:A.handled=none)(hl:s.heap.IsList l #[u0,u1])
 (hQ:∀ h' tk,(∀ b o,s.heap.get? b=some o->h'.get? b=some o)->Q [u0,u1] { s with heap:=h',toks:=tk}):wpAny (model P w) A (unpackItems (.ref l) 2 none) Q E s:=by
 obtain⟨ol,RP,hcl,nl,hdl⟩:=id hl;have hT:s.TypeIs (.ref l) "list":=⟨ol,RP,hcl⟩;have hne:l≠s.heap.objs.size:=Nat.ne_of_lt (Heap.lt_size RP);unfold unpackItems;refine wpAny_bind ?_;unfold notIterableAtAll;refine wpAny_bind (wpAny_specialOf hT PySem.F.slot_list_iter.lookup (wpAny_pure ?_));simp only[Bool.false_eq_true,if_false];refine wpAny_bind (wpAny_holding (wpAny_pyIter_list hl ?_));have W:=Walks.list (prog:=P) (w:=w) (A:=A) hh s.heap.objs.size l hne #[u0,u1];generalize hg:s.heap.push { cls:=.type "list_iterator",data:=.fields #[.ref l,.int 0 0]}=g0;have ZX:∀ b o,s.heap.get? b=some o->g0.get? b=some o:=fun b o e=>by rw[<-hg];exact Heap.get?_push_of_some _ e
 have ZY:g0.IsListIter s.heap.objs.size l 0:=by rw[<-hg];exact⟨_,Heap.get?_push_size _ rfl,rfl,rfl⟩
 have ZZ:g0.IsList l #[u0,u1]:=by rw[<-hg];exact⟨ol,Heap.get?_push_of_some _ RP,hcl,nl,hdl⟩
 have nI:∀ b o,s.heap.get? b=some o->b∉[s.heap.objs.size]:=fun b o e z=>Nat.ne_of_lt (Heap.lt_size e) (List.mem_singleton.mp z)
 refine wpAny_bind (wpAny_holding ?_);show wpAny _ _ (pyNext (.ref s.heap.objs.size) >>= _) _ _ _;refine wpAny_bind (W.item 0 _ _ _ (by simp) ⟨ZY,ZZ⟩ fun v1 h1 tk1 hv1 st1 k1=>?_)
 obtain rfl:u0=v1:=by simpa using hv1
 refine wpAny_bind (wpAny_holding ?_);show wpAny _ _ (pyNext (.ref s.heap.objs.size) >>= _) _ _ _;refine wpAny_bind (W.item 1 _ _ _ (by simp) st1 fun v2 h2 tk2 hv2 st2 k2=>?_)
 obtain rfl:u1=v2:=by simpa using hv2
 refine wpAny_bind (wpAny_holding ?_);show wpAny _ _ (pure []) _ _ _;refine wpAny_pure (wpAny_pure (wpAny_pure ?_));rw[if_neg (by simp)]
 refine wpAny_bind (wpAny_holding (W.done _ _ _ st2 fun h3 Z0 k3=>?_))
 simp only[Option.isSome_none,Bool.false_eq_true,if_false];exact wpAny_pure (hQ h3 Z0 fun b o e=>k3 b o (nI b o e) (k2 b o (nI b o e) (k1 b o (nI b o e) (ZX b o e))))
theorem JS{env:Env}{elts:List Expr}{x1}{pos:Pos}{l:Addr}{u0 u1:Value}{Q:Unit->Shared->Prop}(hh:A.handled=none)(hl:s.heap.IsList l #[u0,u1])
 (hn:(assignEach elts env).length=2) (hstar:(assignEach elts env).findIdx? (·.1)=none)
 (h:∀ h' tk,(∀ b o,s.heap.get? b=some o->h'.get? b=some o)->wpAny (model P w) A (assignInOrder ((assignEach elts env).map (·.2)) [u0,u1]) Q E { s with heap:=h',toks:=tk}) :
 wpAny (model P w) A (assign (.Tuple elts x1 pos) env (.ref l)) Q E s:=by
 rw[arm_assign_Tuple];refine wpAny_bind (wpAny_standAt ?_);unfold unpack;rw[hn,hstar];exact wpAny_bind (wpAny_holding (JR hh hl h))
end
section
variable {X:Cx}{es:List Expr}{pos:Pos}
def RQ(K:bK)(t:La):TG:=fun v σ H Q=>∃ a x y,v = .ref a/\aO K H a [x,y]/\t [x,y] σ H Q
theorem Vs(K:bK){k:Nat}{t:La}(hc:X.calm=true)(h:P6 X es t)
 (hn:(assignEach es X.env).length=2:=by rfl) (hst:(assignEach es X.env).findIdx? (·.1)=none:=by rfl) (hK:X.K=K:=by rfl):PG X (.Tuple es k pos) (RQ K t):=by
 subst hK;intro pins s σ H v u Q I r hw;obtain⟨a,x,y,e1,hq,hw⟩:=hw;subst e1;cases r;obtain⟨its,rv,ht,hz⟩:=I.list hq;cases rv with
 | cons r1 rr=>cases rr with
   | cons r2 rr2 =>
     cases rr2;refine JS (I.ok.hd hc) ht.isList hn hst fun h' tk hx=>?_
     exact h pins _ σ H [x,y] _ Q (I.kept (t':=tk) hx) (.cons r1 (.cons r2 .nil)) hw
end
end L2
namespace RM
section
variable {N:Net}{L:Nat->Int}{m u:Nat}
theorem sD{f g:Nat->Bool}:∀{n:Nat},(∀ k,k<n->0<L k)->(∀ k,k<n->f k=true->g k=true)->∀ k,k<n->f k=false->g k=true->lsum L f n<lsum L g n
 | 0,_,_,k,hk,_,_=>absurd hk (Nat.not_lt_zero _)
 | n+1,hL,h,k,hk,hf,hg=>by
   unfold lsum;have hn:=h n (by lia)
   have h0:=hL n (by lia)
   by_cases e:k=n
   ·subst e;have:=m7 (L:=L) (f:=f) (g:=g) (n:=k) (fun j hj=>Int.le_of_lt (hL j (by lia))) fun j hj=>h j (by lia)
    rw[hf,hg];simp only[Bool.false_eq_true,if_false,if_true]
    lia
   ·have ih:=sD (n:=n) (fun j hj=>hL j (by lia)) (fun j hj=>h j (by lia)) k (by lia) hf hg
    cases hfn:f n with
    | false=>cases g n<;>simp<;>lia
    | true=>rw[hn hfn];simp;lia
theorem CO(hL:∀ k,k<N.n->0<L k)(hu:u<N.p){z:Int}{e:Nat}(h:Wz N L m u u true z e)(hmin:∀ x z',x<N.p->Wy N L m x x true z'->z<=z'):
 N.Ring e/\e<2^N.n/\N.par e m=true/\lsum L (fun k=>e.testBit k) N.n=z:=by
 have RS:∀ k,k<N.n->0<=L k:=fun k hk=>Int.le_of_lt (hL k hk)
 obtain⟨pre,h⟩:=h;obtain⟨_,h2,h3,h4,h5,_⟩:=ko RS hu h;obtain⟨r,r1,r2,r3⟩:=uQ _ e rfl h2 (fun x _=>by rw[h3,Bool.xor_self]) h4
 have Mx:r<2^N.n:=cM fun k hk=>my h2 (r2 k hk)
 obtain⟨x,hx,hw⟩:=pM RS m r1 Mx;rw[r3]at hw;have hz:=hmin x _ hx hw;have hle:=m7 (L:=L) (f:=fun k=>r.testBit k) (g:=fun k=>e.testBit k) RS fun k _ hk=>r2 k hk
 have er:e=r:=Nat.eq_of_testBit_eq fun k=>by
  cases hr:r.testBit k with
  | true=>exact r2 k hr
  | false =>
    cases he:e.testBit k with
    | false=>rfl
    | true =>
      have:=sD (L:=L) (f:=fun k=>r.testBit k) (g:=fun k=>e.testBit k) hL (fun k _ hk=>r2 k hk) k (my h2 he) hr he
      lia
 rw[er];exact⟨r1,Mx,r3,by lia⟩
theorem JT(hL:∀ k,k<N.n->0<=L k)(hno:∀ x z',x<N.p->¬ Wy N L m x x true z'){r:Nat}(hr:N.Ring r)(hm:r<2^N.n):N.par r m=false:=by
 cases hp:N.par r m with
 | false=>rfl
 | true =>
   obtain⟨x,hx,hw⟩:=pM hL m hr hm;rw[hp]at hw;exact absurd hw (hno x _ hx)
end
end RM
namespace L2
open PySem PySem.Spec PyProof.Rows
section
variable {X:Cx}{pins:aV}{σ:St}{H:Hp}{l It S:Addr}{cs:List Addr}{ks:Nat->List Int}{R:Result->Shared->Prop}
theorem kO{pa:aV}{s:Shared}(I:Inv X pa σ H s)(hl:aO X.K H l (cs.map V.ref)):s.heap.IsList l (cs.map Value.ref).toArray:=by
 obtain⟨its,rv,p,hz⟩:=I.list hl;have e:its=cs.map Value.ref:=by
  clear hl p hz
  induction cs generalizing its with
  | nil=>cases rv;rfl
  | cons c r ih =>
    rw[List.map_cons]at rv;cases rv with
    | cons h t=>cases h;rw[ih _ t];rfl
 rw[e]at p;exact p.isList
theorem Gg(hh:X.A.handled=none)(un:X.A.in1.units<cLine)(hl:aO X.K H l (cs.map V.ref))(hk:∀(i:Nat) c,cs[i]?=some c->aP X.K H c ((ks i).map V.int))(oS:CK X S)(oI:CK X It)(SI:S≠It)(lI:l≠It)
 (pI:∀ p∈pins,p.1≠It) (pS:∀ p∈pins,p.1≠S)
 (hR:∀(i:Nat) c s',cs[i]?=some c->(∀ j,j<cs.length->HT.lexLt (ks j) (ks i)=false)->Inv X pins σ H s'->R (.ok (.ret (.ref c))) s') :
 ∀(r j i:Nat) (c:Addr) (s:Shared) (n:Nat) (Hw:Obj),cs.length-j=r->j<=cs.length->i<j->cs[i]?=some c->Inv X ((S,seqObj "list" #[.ref c,.ref c] n)::(It,Hw)::pins) σ H s->s.heap.IsListIter It l j->
  (∀ j',j'<j->HT.lexLt (ks j') (ks i)=false)->codeAny (model X.prog X.w) X.A (.builtin "min.loop" ⟨[.ref It,.none,.ref S],[]⟩) R s:=by
 have hname:(toString "min" ++ toString ".loop":String)="min.loop":=by decide
 have W:=Walks.list (prog:=X.prog) (w:=X.w) (A:=X.A.in1) hh It l lI (cs.map Value.ref).toArray;have hsz:(cs.map Value.ref).toArray.size=cs.length:=by simp
 intro r
 induction r with
 | zero =>
   intro j i c s n Hw hr hj hij hc I hit pP;have BS:j=cs.length:=by lia
   have uZ:=I.pin (S,_) (List.mem_append_right _ (.head _));refine codeAny_builtin PySem.F.entry_min_loop ?_;rw[Around.under_plainId PySem.F.plain_min_loop _];show wpAny _ X.A.in1 (seqItems? (.ref S) >>= _) _ _ _;refine wpAny_bind (wpAny_seqItems uZ.1 rfl ?_);show wpAny _ X.A.in1 (tryCatch (pyNext (.ref It)) _ >>= _) _ _ _;refine wpAny_bind (wpAny_tryCatch (W.done _ _ _ ⟨by rw[hsz,<-BS];exact hit,kO I hl⟩ fun h' tk' hk'=>?_))
   have I1:=I.jE (t':=tk') (h':=h') (pb:=(S,seqObj "list" #[.ref c,.ref c] n)::pins) oI (List.Mem.tail _ (.head _)) (fun b u hb e=>hk' b u (by simpa using hb) e) (fun p hp=>by
    rcases List.mem_cons.mp hp with rfl|hp
    ·exact .inr ⟨.head _,SI⟩
    ·exact .inr ⟨.tail _ (.tail _ hp),pI p hp⟩)
   have JJ:=I1.pin (S,_) (List.mem_append_right _ (.head _));show wpAny _ X.A.in1 (updateSeq S (fun _=>#[]) >>= _) _ _ _
   refine wpAny_bind (wpAny_updateSeq JJ.1 rfl (wpAny_bind (wpAny_letGo (wpAny_pure ?_))));have s1:=Heap.SameBut.update h' S (Obj.mapSeq fun _=>(#[]:Array Value))
   exact hR i c _ hc (fun j' hj'=>pP j' (by lia)) (I1.jE (t':=tk') (pb:=pins) oS (.head _) (fun b u hb e=>(s1.2 b hb).trans e) fun p hp=>.inr ⟨.tail _ hp,pS p hp⟩)
 | succ r ih =>
   intro j i c s n Hw hr hj hij hc I hit pP;have BS:j<cs.length:=by lia
   have uZ:=I.pin (S,_) (List.mem_append_right _ (.head _));refine codeAny_builtin PySem.F.entry_min_loop ?_;rw[Around.under_plainId PySem.F.plain_min_loop _];show wpAny _ X.A.in1 (seqItems? (.ref S) >>= _) _ _ _;refine wpAny_bind (wpAny_seqItems uZ.1 rfl ?_);show wpAny _ X.A.in1 (tryCatch (pyNext (.ref It)) _ >>= _) _ _ _;refine wpAny_bind (wpAny_tryCatch (W.item j _ _ _ (by rw[hsz];exact BS) ⟨hit,kO I hl⟩ fun v h' tk' hv st' hk'=>?_))
   have Qh:cs[j]?=some cs[j]:=List.getElem?_eq_getElem BS;obtain rfl:v = .ref cs[j]:=by
    have:(cs.map Value.ref)[j]?=some v:=by simpa using hv
    rw[List.getElem?_map,Qh]at this;exact(Option.some.inj this).symm
   obtain⟨Lj,JU,hoc,hod⟩:=id st'.1;have I1:=I.jE (t':=tk') (h':=h') (pb:=(S,seqObj "list" #[.ref c,.ref c] n)::(It,Lj)::pins) oI (List.Mem.tail _ (.head _)) (fun b u hb e=>hk' b u (by simpa using hb) e) (fun p hp=>by
    rcases List.mem_cons.mp hp with rfl|hp
    ·exact .inr ⟨.head _,SI⟩
    ·rcases List.mem_cons.mp hp with rfl|hp
     ·exact .inl ⟨rfl,JU,fun v z=>by rw[hod]at z;cases z⟩
     ·exact .inr ⟨.tail _ (.tail _ hp),pI p hp⟩)
   have mC:=I1.pin (S,_) (List.mem_append_right _ (.head _));show wpAny _ X.A.in1 (tryCatch (holding [.ref cs[j],.ref cs[j]] (richCompare .Lt (.ref cs[j]) (.ref c) >>= _)) _ >>= _) _ _ _;refine wpAny_bind (wpAny_tryCatch (wpAny_holding (wpAny_bind (JG I1 (hk j _ Qh) (hk i c hc) un ?_))));refine wpAny_bind (wpAny_holding (wpAny_truthy_bool (wpAny_bind (wpAny_letGo (wpAny_pure ?_)))));cases hlt:HT.lexLt (ks j) (ks i) with
   | true =>
     have s1:=Heap.SameBut.update h' S (Obj.mapSeq fun _=>(#[.ref cs[j],.ref cs[j]]:Array Value))
     obtain⟨n2,hn2⟩:∃ n2,(h'.update S (Obj.mapSeq fun _=>(#[.ref cs[j],.ref cs[j]]:Array Value))).get? S=some (seqObj "list" #[.ref cs[j],.ref cs[j]] n2):=⟨_,get?_update_seq mC.1 fun _=>#[.ref cs[j],.ref cs[j]]⟩
     simp only[if_true];refine wpAny_bind (wpAny_updateSeq mC.1 rfl (wpAny_bind (wpAny_letGo ?_)));rw[hname];have I3:=I1.jE (t':=tk') (pb:=(S,seqObj "list" #[.ref cs[j],.ref cs[j]] n2)::(It,Lj)::pins) oS (.head _) (fun b u hb e=>(s1.2 b hb).trans e) (fun p hp=>by
      rcases List.mem_cons.mp hp with rfl|hp
      ·exact .inl ⟨rfl,hn2,fun v z=>by cases z⟩
      ·rcases List.mem_cons.mp hp with rfl|hp
       ·exact .inr ⟨.tail _ (.head _),SI.symm⟩
       ·exact .inr ⟨.tail _ (.tail _ hp),pS p hp⟩)
     refine wpAny_pure ⟨plainId_quiet PySem.F.plain_min_loop _,ih (j+1) j cs[j] _ n2 Lj (by lia) (by lia) (by lia) Qh I3 ⟨Lj,(s1.2 It SI.symm).trans JU,hoc,hod⟩ fun j' hj'=>?_⟩
     by_cases e:j' = j
     ·rw[e];exact HT.gw _
     ·exact HT.uX (pP j' (by lia)) hlt
   | false =>
     simp only[Bool.false_eq_true,if_false];refine wpAny_bind (wpAny_letGo ?_);rw[hname];refine wpAny_pure ⟨plainId_quiet PySem.F.plain_min_loop _,ih (j+1) i c _ n Lj (by lia) (by lia) (by lia) hc I1 st'.1 fun j' hj'=>?_⟩
     by_cases e:j' = j
     ·rw[e];exact hlt
     ·exact pP j' (by lia)
theorem Vt(hr:X.A.handled=none)(un:X.A.in1.units<cLine):fC X (.builtin "min") (fun xs H Q=>∃(l:Addr) (cs:List Addr) (ks:Nat->List Int),xs=[.ref l]/\aO X.K H l (cs.map V.ref)/\0<cs.length/\(∀(i:Nat) c,cs[i]?=some c->aP X.K H c ((ks i).map V.int))/\
 ∀(i:Nat) c,cs[i]?=some c->(∀ j,j<cs.length->HT.lexLt (ks j) (ks i)=false)->Q (.ref c) H):=by
 intro pins s σ H xs us Q I r h;obtain⟨l,cs,ks,rfl,hl,hne,hk,q⟩:=h;obtain⟨u,rfl,rx⟩:=vals1 r;cases rx;have hname:(toString "min" ++ toString ".loop":String)="min.loop":=by decide
 have hls:=kO I hl;obtain⟨ol,RP,_⟩:=id hls;have Z1:l<s.heap.objs.size:=Heap.lt_size RP;refine call_function_tree PySem.F.kind_min PySem.F.plain_min PySem.F.entry_min (PySem.F.args_min1 _) ?_;show wpAny _ X.A.in1 (Builtin.Builtins.bindParams "min" ["key","default"] 0 ⟨[],[]⟩ >>= _) _ _ s;refine wpAny_bind (wpAny_of_eq (show Builtin.Builtins.bindParams "min" ["key","default"] 0 ⟨[],[]⟩=pure [none,none] from rfl) ?_)
 refine wpAny_bind (wpAny_pure (wpAny_bind (wpAny_pyIter_list hls (wpAny_bind (wpAny_newList ?_ (Nat.zero_le _))))));rw[hname];refine wpAny_pure ⟨plainId_quiet PySem.F.plain_min_loop _,?_⟩;generalize O0:({ cls:=.type "list_iterator",data:=.fields #[.ref l,.int 0 0]}:Obj)=oI;have hS:(s.heap.push oI).objs.size=s.heap.objs.size+1:=size_push' ..;have hk2:∀ b o,s.heap.get? b=some o->((s.heap.push oI).push (seqObj "list" #[] 0)).get? b=some o:=fun b o e=>Heap.get?_push_of_some _ (Heap.get?_push_of_some _ e)
 have gI:((s.heap.push oI).push (seqObj "list" #[] 0)).get? s.heap.objs.size=some oI:=Heap.get?_push_of_some _ (Heap.get?_push_size _ (by rw[<-O0];rfl))
 have gS:((s.heap.push oI).push (seqObj "list" #[] 0)).get? (s.heap.push oI).objs.size=some (seqObj "list" #[] 0):=Heap.get?_push_size _ rfl;have Mu:∀ p∈pins,p.1<s.heap.objs.size:=fun p hp=>Heap.lt_size (I.pin p (List.mem_append_right _ hp)).1
 have Nl:=I.JF (Nat.le_refl s.heap.objs.size);have oS:=I.JF (b:=(s.heap.push oI).objs.size) (by rw[hS];exact Nat.le_succ _)
 have SI:(s.heap.push oI).objs.size≠s.heap.objs.size:=by rw[hS];exact Nat.succ_ne_self _
 have lI:l≠s.heap.objs.size:=Nat.ne_of_lt Z1;have pI:∀ p∈pins,p.1≠s.heap.objs.size:=fun p hp=>Nat.ne_of_lt (Mu p hp)
 have pS:∀ p∈pins,p.1≠(s.heap.push oI).objs.size:=fun p hp=>by rw[hS];exact Nat.ne_of_lt (Nat.lt_succ_of_lt (Mu p hp))
 have J:Inv X (((s.heap.push oI).objs.size,seqObj "list" #[] 0)::(s.heap.objs.size,oI)::pins) σ H { s with heap:=(s.heap.push oI).push (seqObj "list" #[] 0)}:=by
  have K:=I.kept (t':=s.toks) hk2;refine K.gn fun p hp=>?_
  rcases List.mem_cons.mp hp with rfl|hp
  ·exact⟨gS,I.hok.fresh (by rw[hS];exact Nat.le_succ _),oS.2.1,oS.2.2.1,fun v z=>by cases z⟩
  ·rcases List.mem_cons.mp hp with rfl|hp
   ·exact⟨gI,I.hok.fresh (Nat.le_refl _),Nl.2.1,Nl.2.2.1,fun v z=>by rw[<-O0]at z;cases z⟩
   ·exact K.pin p (List.mem_append_right _ hp)
 have W:=Walks.list (prog:=X.prog) (w:=X.w) (A:=X.A.in1) hr s.heap.objs.size l lI (cs.map Value.ref).toArray;have uZ:=J.pin ((s.heap.push oI).objs.size,seqObj "list" #[] 0) (List.mem_append_right _ (.head _));refine codeAny_builtin PySem.F.entry_min_loop ?_;rw[Around.under_plainId PySem.F.plain_min_loop _];show wpAny _ X.A.in1 (seqItems? (.ref _) >>= _) _ _ _;refine wpAny_bind (wpAny_seqItems uZ.1 rfl ?_);show wpAny _ X.A.in1 (tryCatch (pyNext (.ref s.heap.objs.size)) _ >>= _) _ _ _;refine wpAny_bind (wpAny_tryCatch (W.item 0 _ _ _ (by simpa using hne) ⟨⟨oI,gI,by rw[<-O0],by rw[<-O0];rfl⟩,kO J hl⟩ fun v h' tk' hv st' hk'=>?_))
 have Qh:cs[0]?=some cs[0]:=List.getElem?_eq_getElem hne;obtain rfl:v = .ref cs[0]:=by
  have:(cs.map Value.ref)[0]?=some v:=by simpa using hv
  rw[List.getElem?_map,Qh]at this;exact(Option.some.inj this).symm
 obtain⟨Lj,JU,hoc,hod⟩:=id st'.1;have I1:=J.jE (t':=tk') (h':=h') (pb:=((s.heap.push oI).objs.size,seqObj "list" #[] 0)::(s.heap.objs.size,Lj)::pins) Nl (List.Mem.tail _ (.head _)) (fun b u hb e=>hk' b u (by simpa using hb) e) (fun p hp=>by
  rcases List.mem_cons.mp hp with rfl|hp
  ·exact .inr ⟨.head _,SI⟩
  ·rcases List.mem_cons.mp hp with rfl|hp
   ·exact .inl ⟨rfl,JU,fun v z=>by rw[hod]at z;cases z⟩
   ·exact .inr ⟨.tail _ (.tail _ hp),pI p hp⟩)
 have mC:=I1.pin ((s.heap.push oI).objs.size,_) (List.mem_append_right _ (.head _));have s1:=Heap.SameBut.update h' (s.heap.push oI).objs.size (Obj.mapSeq fun _=>(#[.ref cs[0],.ref cs[0]]:Array Value))
 obtain⟨n2,hn2⟩:∃ n2,(h'.update (s.heap.push oI).objs.size (Obj.mapSeq fun _=>(#[.ref cs[0],.ref cs[0]]:Array Value))).get? (s.heap.push oI).objs.size=some (seqObj "list" #[.ref cs[0],.ref cs[0]] n2):=⟨_,get?_update_seq mC.1 fun _=>#[.ref cs[0],.ref cs[0]]⟩
 show wpAny _ X.A.in1 (updateSeq (s.heap.push oI).objs.size (fun _=>#[.ref cs[0],.ref cs[0]]) >>= _) _ _ _
 refine wpAny_bind (wpAny_updateSeq mC.1 rfl ?_);rw[hname];have I3:=I1.jE (t':=tk') (pb:=((s.heap.push oI).objs.size,seqObj "list" #[.ref cs[0],.ref cs[0]] n2)::(s.heap.objs.size,Lj)::pins) oS (.head _) (fun b u hb e=>(s1.2 b hb).trans e) (fun p hp=>by
  rcases List.mem_cons.mp hp with rfl|hp
  ·exact .inl ⟨rfl,hn2,fun v z=>by cases z⟩
  ·rcases List.mem_cons.mp hp with rfl|hp
   ·exact .inr ⟨.tail _ (.head _),SI.symm⟩
   ·exact .inr ⟨.tail _ (.tail _ hp),pS p hp⟩)
 refine wpAny_pure ⟨plainId_quiet PySem.F.plain_min_loop _,Gg hr un hl hk oS Nl SI lI pI pS (fun i c s' hc best I7=>⟨.ref c,H,I7,rfl,q i c hc best⟩) _ 1 0 cs[0] _ n2 Lj rfl hne (Nat.lt_succ_self _) Qh I3 ⟨Lj,(s1.2 _ SI.symm).trans JU,hoc,hod⟩ fun j hj=>?_⟩
 have e:j=0:=by lia
 rw[e];exact HT.gw _
end
end L2
namespace RM
def lx(a b:Int×Nat):Prop:=a.1<b.1\/(a.1=b.1/\a.2<=b.2)
theorem lx.anti{a b:Int×Nat}(h1:lx a b)(h2:lx b a):a=b:=by
 obtain⟨a1,a2⟩:=a;obtain⟨b1,b2⟩:=b;unfold lx at h1 h2;simp only at h1 h2;have e1:a1=b1:=by lia
 have e2:a2=b2:=by lia
 rw[e1,e2]
def stp(L:Nat->Int)(d:Int×Nat)(k:Nat):Int×Nat:=(d.1+L k,d.2^^^2^k)
structure Fx(N:Net)(L:Nat->Int)(m u:Nat)(F:OW):Prop where
 st:F u false=some (0,0)
 cx:∀ x s d k y,F x s=some d->k<N.n->Jn N k x y->∃ d',F y (s^^m.testBit k)=some d'/\lx d' (stp L d k)
 Z2:∀ y t d,F y t=some d->(y=u/\t=false/\d=(0,0))\/∃ x s d0 k,F x s=some d0/\k<N.n/\Jn N k x y/\t=(s^^m.testBit k)/\d=stp L d0 k
 nn:∀ y t d,F y t=some d->0<=d.1
section
variable {N:Net}{L:Nat->Int}{m u:Nat}{F G:OW}
theorem Fx.part(hL:∀ k,k<N.n->0<L k)(f:Fx N L m u F)(g:Fx N L m u G):∀(n:Nat),(∀ y t d,d.1<(n:Int)->(F y t=some d↔G y t=some d)):=by
 intro n
 induction n with
 | zero =>
   intro y t d hd;have hd:d.1<0:=hd;exact⟨fun h=>absurd (f.nn y t d h) (by lia),fun h=>absurd (g.nn y t d h) (by lia)⟩
 | succ n ih =>
   have one:∀{F G:OW},Fx N L m u F->Fx N L m u G->(∀ y t d,d.1<(n:Int)->(F y t=some d↔G y t=some d))->∀ y t d,d.1<((n+1:Nat):Int)->F y t=some d->∃ d',G y t=some d'/\lx d' d:=fun {F G} f g ih y t d hd h=>by
    rcases f.Z2 y t d h with⟨rfl,rfl,rfl⟩|⟨x,s,d0,k,h0,hk,hj,rfl,rfl⟩
    ·exact⟨_,g.st,.inr ⟨rfl,Nat.le_refl _⟩⟩
    ·have hLk:=hL k hk;have hd0:d0.1<(n:Int):=by
      have hd:d0.1+L k<((n+1:Nat):Int):=hd
      lia
     exact g.cx x s d0 k y ((ih x s d0 hd0).mp h0) hk hj
   have both:∀{F G:OW},Fx N L m u F->Fx N L m u G->(∀ y t d,d.1<(n:Int)->(F y t=some d↔G y t=some d))->∀ y t d,d.1<((n+1:Nat):Int)->F y t=some d->G y t=some d:=fun {F G} f g ih y t d hd h=>by
    obtain⟨d',h',l'⟩:=one f g ih y t d hd h;have hd' : d'.1<((n+1:Nat):Int):=by
     rcases l' with z|z<;>lia
    obtain⟨d2,h2,l2⟩:=one g f (fun y t d hd=>(ih y t d hd).symm) y t d' hd' h'
    rw[h]at h2;cases h2;rw[l'.anti l2]at h';exact h'
   intro y t d hd;exact⟨both f g ih y t d hd,both g f (fun y t d hd=>(ih y t d hd).symm) y t d hd⟩
theorem Fx.uniq(hL:∀ k,k<N.n->0<L k)(f:Fx N L m u F)(g:Fx N L m u G):F=G:=by
 have go:∀{F G:OW},Fx N L m u F->Fx N L m u G->∀ y t d,F y t=some d->G y t=some d:=fun {F G} f g y t d h=>by
  have hn:=f.nn y t d h;exact(Fx.part hL f g (d.1.toNat+1) y t d (by lia)).mp h
 funext y t
 cases h:F y t with
 | some d=>exact(go f g y t d h).symm
 | none =>
   cases h' : G y t with
   | none=>rfl
   | some d=>rw[go g f y t d h']at h;cases h
end
def RT(N:Net)(L:Nat->Int)(m u:Nat)(F:OW)(y:Nat)(t:Bool)(d:Int×Nat):Prop:=(y=u/\t=false/\d=(0,0))\/∃ x s d0 k,F x s=some d0/\k<N.n/\Jn N k x y/\t=(s^^m.testBit k)/\d=stp L d0 k
structure Dx(N:Net)(L:Nat->Int)(m u:Nat)(F W:OW)(now:Option (Nat×Bool))(done:Nat->Nat->Prop):Prop where
 dj:Dj N L m u F W now done
 cx:∀ x s d k y,F x s=some d->k<N.n->Jn N k x y->(now=some (x,s)->done k y)->∃ d',(F y (s^^m.testBit k)=some d'\/W y (s^^m.testBit k)=some d')/\lx d' (stp L d k)
 fo:∀ y t d,F y t=some d->RT N L m u F y t d
 wo:∀ y t d,W y t=some d->RT N L m u F y t d
 s0:F u false=some (0,0)\/W u false=some (0,0)
section
variable {N:Net}{L:Nat->Int}{m u:Nat}{F W:OW}
theorem RT.grow{y x:Nat}{t s:Bool}{d e:Int×Nat}(h:RT N L m u F y t d)(hF:F x s=none):RT N L m u (jq F x s e) y t d:=by
 rcases h with h|⟨x',s',d0,k,h0,r⟩
 ·exact .inl h
 ·refine .inr ⟨x',s',d0,k,?_,r⟩;rw[bC (fun z=>by rw[z.1,z.2,hF]at h0;cases h0)]
  exact h0
theorem Dx.start:Dx N L m u (fun _ _=>none) (jq (fun _ _=>none) u false (0,0)) none (fun _ _=>False):=by
 refine⟨.start,fun _ _ _ _ _ h=>(nomatch h),fun _ _ _ h=>(nomatch h),fun y t d h=>?_,.inr (bZ _ _ _ _)⟩
 by_cases e:y=u/\t=false
 ·obtain⟨rfl,rfl⟩:=e;rw[bZ]at h;exact .inl ⟨rfl,rfl,(Option.some.inj h).symm⟩
 ·rw[bC e]at h;cases h
theorem Dx.pop(h:Dx N L m u F W none (fun _ _=>False)){x:Nat}{s:Bool}{d:Int×Nat}(e:W x s=some d)(hmin:∀ y t d',W y t=some d'->d.1<=d'.1):Dx N L m u (jq F x s d) (yJ W x s) (some (x,s)) (fun _ _=>False):=by
 have hF:=h.dj.dj x s d e;have moved:∀ y t d',F y t=some d'\/W y t=some d'->jq F x s d y t=some d'\/yJ W x s y t=some d':=fun y t d' q=>by
  by_cases z:y=x/\t=s
  ·obtain⟨rfl,rfl⟩:=z;rcases q with q|q
   ·rw[hF]at q;cases q
   ·rw[e]at q;cases q;exact .inl (bZ _ _ _ _)
  ·rw[bC z,nc z];exact q
 refine⟨h.dj.pop e hmin,fun y t d' k y2 q hk hj hd=>?_,fun y t d' q=>?_,fun y t d' q=>?_,moved _ _ _ h.s0⟩
 ·by_cases z:y=x/\t=s
  ·obtain⟨rfl,rfl⟩:=z;exact(hd rfl).elim
  ·rw[bC z]at q;obtain⟨d2,q2,l2⟩:=h.cx y t d' k y2 q hk hj (fun z=>nomatch z)
   exact⟨d2,moved _ _ _ q2,l2⟩
 ·by_cases z:y=x/\t=s
  ·obtain⟨rfl,rfl⟩:=z;rw[bZ]at q;cases q;exact(h.wo _ _ _ e).grow hF
  ·rw[bC z]at q;exact(h.fo y t d' q).grow hF
 ·by_cases z:y=x/\t=s
  ·obtain⟨rfl,rfl⟩:=z;rw[tM]at q;cases q
  ·rw[nc z]at q;exact(h.wo y t d' q).grow hF
theorem lx.trans{a b c:Int×Nat}(h1:lx a b)(h2:lx b c):lx a c:=by
 unfold lx at *
 lia
theorem Dx.put{done:Nat->Nat->Prop}{x:Nat}{s:Bool}(h:Dx N L m u F W (some (x,s)) done){d:Int×Nat}{k y:Nat}(e:F x s=some d)(h0:0<=d.1)(hk:k<N.n)(hL:0<L k)(hj:Jn N k x y)(hF:F y (s^^m.testBit k)=none)
 (hW:∀ d',W y (s^^m.testBit k)=some d'->lx (stp L d k) d'):Dx N L m u F (jq W y (s^^m.testBit k) (stp L d k)) (some (x,s)) (fun k' y'=>done k' y'\/(k' = k/\y' = y)):=by
 have moved:∀ v t d',F v t=some d'\/W v t=some d'->∃ d2,(F v t=some d2\/jq W y (s^^m.testBit k) (stp L d k) v t=some d2)/\lx d2 d':=fun v t d' q=>by
  rcases q with q|q
  ·exact⟨d',.inl q,.inr ⟨rfl,Nat.le_refl _⟩⟩
  ·by_cases z:v=y/\t=(s^^m.testBit k)
   ·obtain⟨rfl,rfl⟩:=z;exact⟨_,.inr (bZ _ _ _ _),hW d' q⟩
   ·exact⟨d',.inr (by rw[bC z];exact q),.inr ⟨rfl,Nat.le_refl _⟩⟩
 refine⟨h.dj.put e hk (Int.le_of_lt hL) hj hF fun d' q=>?_,fun v t d' k2 y2 q hk2 Li hd=>?_,h.fo,fun v t d' q=>?_,?_⟩
 ·have:=hW d' q;unfold lx stp at this;simp only at this
  lia
 ·by_cases hd2:some (x,s)=some (v,t)->done k2 y2
  ·obtain⟨d2,q2,l2⟩:=h.cx v t d' k2 y2 q hk2 Li hd2;obtain⟨d3,q3,l3⟩:=moved _ _ _ q2;exact⟨d3,q3,l3.trans l2⟩
  ·have hn:some (x,s)=some (v,t):=Classical.byContradiction fun z=>hd2 fun z2=>absurd z2 z
   rcases hd hn with z|⟨rfl,rfl⟩
   ·exact absurd (fun _=>z) hd2
   ·cases hn;rw[e]at q;cases q;exact⟨_,.inr (bZ _ _ _ _),.inr ⟨rfl,Nat.le_refl _⟩⟩
 ·by_cases z:v=y/\t=(s^^m.testBit k)
  ·obtain⟨rfl,rfl⟩:=z;rw[bZ]at q;cases q;exact .inr ⟨x,s,d,k,e,hk,hj,rfl,rfl⟩
  ·rw[bC z]at q;exact h.wo v t d' q
 ·rcases h.s0 with q|q
  ·exact .inl q
  ·right
   rw[bC (fun z=>?_)]
   ·exact q
   ·obtain⟨z1,z2⟩:=z;have q':=q;rw[z1,z2]at q';have:=hW _ q';unfold lx stp at this;simp only at this
    lia
theorem Dx.skip{done:Nat->Nat->Prop}{x:Nat}{s:Bool}(h:Dx N L m u F W (some (x,s)) done){d d2:Int×Nat}{k y:Nat}(e:F x s=some d)(hL:0<L k)(q2:F y (s^^m.testBit k)=some d2\/(W y (s^^m.testBit k)=some d2/\lx d2 (stp L d k))):
 Dx N L m u F W (some (x,s)) (fun k' y'=>done k' y'\/(k' = k/\y' = y)):=by
 have q3:F y (s^^m.testBit k)=some d2\/(W y (s^^m.testBit k)=some d2/\d2.1<=d.1+L k):=by
  rcases q2 with q2|⟨q2,l2⟩
  ·exact .inl q2
  ·refine .inr ⟨q2,?_⟩;unfold lx stp at l2;simp only at l2
   lia
 refine⟨h.dj.skip e (Int.le_of_lt hL) q3,fun v t d' k2 y2 q hk2 Li hd=>?_,h.fo,h.wo,h.s0⟩
 by_cases hd2:some (x,s)=some (v,t)->done k2 y2
 ·exact h.cx v t d' k2 y2 q hk2 Li hd2
 ·have hn:some (x,s)=some (v,t):=Classical.byContradiction fun z=>hd2 fun z2=>absurd z2 z
  rcases hd hn with z|⟨rfl,rfl⟩
  ·exact absurd (fun _=>z) hd2
  ·cases hn;rw[e]at q;cases q;rcases q2 with q2|⟨q2,l2⟩
   ·have:=h.dj.mx x s d _ _ d2 rfl e q2;refine⟨d2,.inl q2,.inl ?_⟩;show d2.1<d.1+L k2
    lia
   ·exact⟨d2,.inr q2,l2⟩
theorem Dx.all{done:Nat->Nat->Prop}{x:Nat}{s:Bool}(h:Dx N L m u F W (some (x,s)) done)(ha:∀ k y,k<N.n->Jn N k x y->done k y):Dx N L m u F W none (fun _ _=>False) :=
 ⟨h.dj.all ha,fun v t d k y q hk hj _=>h.cx v t d k y q hk hj fun z=>by cases z;exact ha k y hk hj,h.fo,h.wo,h.s0⟩
theorem Dj.less{now:Option (Nat×Bool)}{done done' : Nat->Nat->Prop}(h:Dj N L m u F W now done)(hd:∀ k y,done' k y->done k y):Dj N L m u F W now done' :=
 ⟨h.fw,h.ww,h.dj,h.le,h.mx,fun v t d k y q hk hj z=>h.cl v t d k y q hk hj fun z2=>hd _ _ (z z2),h.st⟩
theorem Dx.less{now:Option (Nat×Bool)}{done done' : Nat->Nat->Prop}(h:Dx N L m u F W now done)(hd:∀ k y,done' k y->done k y):Dx N L m u F W now done' :=
 ⟨h.dj.less hd,fun v t d k y q hk hj z=>h.cx v t d k y q hk hj fun z2=>hd _ _ (z z2),h.fo,h.wo,h.s0⟩
theorem Dx.fin(hL:∀ k,k<N.n->0<L k)(hu:u<N.p)(h:Dx N L m u F W none (fun _ _=>False))(hW:∀ x s,W x s=none):Fx N L m u F:=by
 refine⟨?_,fun x s d k y e hk hj=>?_,h.fo,fun y t d e=>?_⟩
 ·rcases h.s0 with q|q
  ·exact q
  ·rw[hW]at q;cases q
 ·obtain⟨d',q,l⟩:=h.cx x s d k y e hk hj (fun z=>nomatch z)
  rcases q with q|q
  ·exact⟨d',q,l⟩
  ·rw[hW]at q;cases q
 ·obtain⟨pre,w⟩:=h.dj.fw y t d e;exact(ko (fun k hk=>Int.le_of_lt (hL k hk)) hu w).2.2.2.2.2
end
section
variable {N:Net}{L:Nat->Int}{m:Nat}
def Lo(N:Net)(L:Nat->Int)(m:Nat)(z:Int)(e:Nat):Prop:=∃ Fs:Nat->OW,(∀ i,i<N.p->Fx N L m i (Fs i))/\(∃ i,i<N.p/\Fs i i true=some (z,e))/\∀ j d,j<N.p->Fs j j true=some d->lx (z,e) d
theorem Lo.uniq(hL:∀ k,k<N.n->0<L k){z z' : Int}{e e' : Nat}(h:Lo N L m z e)(h' : Lo N L m z' e'):z=z'/\e=e':=by
 obtain⟨F,f1,⟨i,hi,f2⟩,f3⟩:=h;obtain⟨G,g1,⟨j,hj,g2⟩,g3⟩:=h';have e1:F j=G j:=Fx.uniq hL (f1 j hj) (g1 j hj);have e2:F i=G i:=Fx.uniq hL (f1 i hi) (g1 i hi);have:=(f3 j (z',e') hj (by rw[e1];exact g2)).anti (g3 i (z,e) hi (by rw[<-e2];exact f2))
 exact⟨congrArg Prod.fst this,congrArg Prod.snd this⟩
structure u9(N:Net)(L:Nat->Int)(m:Nat)(z:Int)(e:Nat):Prop where
 ring:N.Ring e
 lt:e<2^N.n
 par:N.par e m=true
 len:lsum L (fun k=>e.testBit k) N.n=z
 way:∃ x,x<N.p/\Wy N L m x x true z
 min:∀ x z',x<N.p->Wy N L m x x true z'->z<=z'
theorem u9.least(hL:∀ k,k<N.n->0<=L k){z:Int}{e r:Nat}(h:u9 N L m z e)(hr:N.Ring r)(lr:r<2^N.n)(pr:N.par r m=true):z<=lsum L (fun k=>r.testBit k) N.n:=by
 obtain⟨x,hx,hw⟩:=pM hL m hr lr;rw[pr]at hw;exact h.min x _ hx hw
end
end RM
namespace Ring
open PySem L2
end Ring
namespace L2
open PySem PySem.Spec PyProof.Rows PySem.W
def SRun(r:Nat->Int){α:Type}:KasT α->α
 | .ret a=>a
 | .ask i j k=>SRun r (k (decide (r i<r j)))
section
variable {r:Nat->Int}
theorem ja{α β:Type}{f:α->KasT β}:∀(t:KasT α),SRun r (t.bind f)=SRun r (f (SRun r t))
 | .ret a=>by rw[KasT.bind.eq_1];rfl
 | .ask i j k=>by
   rw[KasT.bind.eq_2];exact ja (k _)
theorem yL{n:Nat}{α:Type}{R:α->Prop}{cmp:Nat->Nat->(Bool->Shared->Prop)->Shared->Prop}{Q:α->Shared->Prop}{s:Shared}(hc:∀ i j C,i<n->j<n->C (decide (r i<r j)) s->cmp i j C s):∀{t:KasT α},vY n R t->(R (SRun r t)->Q (SRun r t) s)->KasT.kasWp cmp t Q s
 | .ret a,h,q=>q h
 | .ask i j k,h,q=>hc i j _ h.1 h.2.1 (yL hc (h.2.2 _) q)
def Kr(r:Nat->Int)(p:Array Nat)(i:Nat):Int:=r (p.getD i 0)
theorem vc(p:Array Nat)(i:Nat):Kr r p i=r ((p[i]?).getD 0):=by
 unfold Kr;rw[Array.getD_eq_getD_getElem?]
theorem yM{p:Array Nat}{i j:Nat}(hj:j<=p.size)(k:Nat):Kr r (kas_rev p i j) k=if i<=k/\k<j then Kr r p (i+j-1-k) else Kr r p k:=by
 have e:=getElem?_mirror_all (i:=i) hj k;unfold kas_rev;rw[vc,e]
 split
 ·rw[vc]
 ·rw[vc]
theorem JV{p:Array Nat}{src d:Nat}(hs:src<p.size)(hd:d<=src)(k:Nat):Kr r (bubble p src d) k=if k=src-d then Kr r p src else if src-d<k/\k<=src then Kr r p (k-1) else Kr r p k:=by
 have e:=getElem?_bubble hs d hd k;rw[vc,e]
 split
 ·rw[vc]
 ·split
  ·rw[vc]
  ·rw[vc]
theorem mD(p:Array Nat)(i j:Nat):(kas_rev p i j).size=p.size:=mirror_size _ _ _ _
def Up(r:Nat->Int)(p:Array Nat)(n:Nat):Prop:=∀ i,1<=i->i<n->Kr r p (i-1)<=Kr r p i
theorem Up.le{p:Array Nat}{n:Nat}(h:Up r p n):∀{i j:Nat},i<=j->j<n->Kr r p i<=Kr r p j:=by
 intro i j hij;obtain⟨d,rfl⟩:=Nat.exists_eq_add_of_le hij;clear hij
 induction d with
 | zero=>intro _;exact Int.le_refl _
 | succ d ih =>
   intro hj;have h1:=ih (by lia)
   have h2:=h (i+(d+1)) (by lia) hj
   rw[show i+(d+1)-1=i+d by lia]at h2
   lia
theorem CP{p:Array Nat}:∀(f n:Nat),1<=n->Up r p n->n<=SRun r (kas_asc p f n)/\SRun r (kas_asc p f n)<=n+f/\Up r p (SRun r (kas_asc p f n))/\(SRun r (kas_asc p f n)<n+f->Kr r p (SRun r (kas_asc p f n))<Kr r p (SRun r (kas_asc p f n)-1))
 | 0,n,_,h=>by
   rw[kas_asc.eq_1];exact⟨Nat.le_refl n,Nat.le_refl n,h,fun z=>absurd z (Nat.lt_irrefl n)⟩
 | f+1,n,h1,h=>by
   rw[kas_asc.eq_2];show n<=SRun r (if decide (Kr r p n<Kr r p (n-1))=true then _ else _)/\SRun r (if decide (Kr r p n<Kr r p (n-1))=true then _ else _)<=_/\Up r p (SRun r (if decide (Kr r p n<Kr r p (n-1))=true then _ else _))/\_
   by_cases c:Kr r p n<Kr r p (n-1)
   ·show n<=SRun r (if decide (Kr r p n<Kr r p (n-1))=true then _ else _)/\SRun r (if decide (Kr r p n<Kr r p (n-1))=true then _ else _)<=_/\Up r p (SRun r (if decide (Kr r p n<Kr r p (n-1))=true then _ else _))/\(SRun r (if decide (Kr r p n<Kr r p (n-1))=true then _ else _)<_->Kr r p (SRun r (if decide (Kr r p n<Kr r p (n-1))=true then _ else _))<Kr r p (SRun r (if decide (Kr r p n<Kr r p (n-1))=true then _ else _)-1))
    rw[if_pos (decide_eq_true c)];exact⟨Nat.le_refl n,Nat.le_add_right _ _,h,fun _=>c⟩
   ·show n<=SRun r (if decide (Kr r p n<Kr r p (n-1))=true then _ else _)/\SRun r (if decide (Kr r p n<Kr r p (n-1))=true then _ else _)<=_/\Up r p (SRun r (if decide (Kr r p n<Kr r p (n-1))=true then _ else _))/\(SRun r (if decide (Kr r p n<Kr r p (n-1))=true then _ else _)<_->Kr r p (SRun r (if decide (Kr r p n<Kr r p (n-1))=true then _ else _))<Kr r p (SRun r (if decide (Kr r p n<Kr r p (n-1))=true then _ else _)-1))
    rw[if_neg (by simpa using c)]
    have ih:=CP (p:=p) f (n+1) (by lia) (fun i hi hn=>by
     by_cases e:i=n
     ·rw[e];lia
     ·exact h i hi (by lia))
    refine⟨by lia,by lia,ih.2.2.1,fun z=>ih.2.2.2 (by lia)⟩
def Down(r:Nat->Int)(p:Array Nat)(n q:Nat):Prop:=(∀ i,1<=i->i<n->Kr r p i<=Kr r p (i-1))/\q+1<=n/\∀ i,n-(q+1)<=i->i<n->Kr r p i=Kr r p (n-1)
theorem Down.rev{p:Array Nat}{n q:Nat}(h:Down r p n q)(hn:n<=p.size)(k:Nat):Kr r (kas_rev p (n-(q+1)) n) k=Kr r p k:=by
 rw[yM hn]
 split
 ·rename_i hk
  rw[h.2.2 _ (by lia) (by have:=h.2.1;lia),h.2.2 k hk.1 hk.2]
 ·rfl
theorem ng:∀(f:Nat) {p:Array Nat} {n q:Nat},n+f<=p.size->Down r p n q->
 (SRun r (kas_desc f p n q)).1.size=p.size/\n<=(SRun r (kas_desc f p n q)).2.1/\(SRun r (kas_desc f p n q)).2.1<=n+f/\Down r (SRun r (kas_desc f p n q)).1 (SRun r (kas_desc f p n q)).2.1 (SRun r (kas_desc f p n q)).2.2
 | 0,p,n,q,_,h=>by
   rw[kas_desc.eq_1];exact⟨rfl,Nat.le_refl n,Nat.le_refl n,h⟩
 | f+1,p,n,q,hs,h=>by
   rw[kas_desc.eq_2];obtain⟨h1,h2,h3⟩:=id h
   by_cases c:Kr r p n<Kr r p (n-1)
   ·have dn:∀ p' : Array Nat,(∀ k,Kr r p' k=Kr r p k)->Down r p' (n+1) 0:=fun p' e=>by
     refine⟨fun i hi hn=>?_,by lia,fun i hi hn=>by rw[show i=n+1-1 by lia]⟩
     rw[e,e]
     by_cases z:i=n
     ·rw[z];lia
     ·exact h1 i hi (by lia)
    have e0:∀(T1 T2:KasT (Array Nat×Nat×Nat)),SRun r (KasT.ask (p.getD n 0) (p.getD (n-1) 0) fun c=>if c=true then T1 else T2)=SRun r T1:=fun T1 T2=>by
     show SRun r (if decide (Kr r p n<Kr r p (n-1))=true then T1 else T2)=_
     rw[if_pos (decide_eq_true c)]
    rw[e0]
    by_cases hq:q > 0
    ·rw[if_pos hq];have ih:=ng f (p:=kas_rev p (n-(q+1)) n) (n:=n+1) (q:=0) (by rw[mD];lia) (dn _ (h.rev (by lia)))
     rw[mD]at ih;exact⟨ih.1,by lia,by lia,ih.2.2.2⟩
    ·rw[if_neg hq];have ih:=ng f (p:=p) (n:=n+1) (q:=0) (by lia) (dn _ fun _=>rfl)
     exact⟨ih.1,by lia,by lia,ih.2.2.2⟩
   ·have e0:∀(T1 T2:KasT (Array Nat×Nat×Nat)),SRun r (KasT.ask (p.getD n 0) (p.getD (n-1) 0) fun c=>if c=true then T1 else T2)=SRun r T2:=fun T1 T2=>by
     show SRun r (if decide (Kr r p n<Kr r p (n-1))=true then T1 else T2)=_
     rw[if_neg (by simpa using c)]
    rw[e0]
    by_cases d:Kr r p (n-1)<Kr r p n
    ·have e1:∀(T1 T2:KasT (Array Nat×Nat×Nat)),SRun r (KasT.ask (p.getD (n-1) 0) (p.getD n 0) fun c=>if c=true then T1 else T2)=SRun r T1:=fun T1 T2=>by
      show SRun r (if decide (Kr r p (n-1)<Kr r p n)=true then T1 else T2)=_
      rw[if_pos (decide_eq_true d)]
     rw[e1];exact⟨rfl,Nat.le_refl n,Nat.le_add_right _ _,h⟩
    ·have e1:∀(T1 T2:KasT (Array Nat×Nat×Nat)),SRun r (KasT.ask (p.getD (n-1) 0) (p.getD n 0) fun c=>if c=true then T1 else T2)=SRun r T2:=fun T1 T2=>by
      show SRun r (if decide (Kr r p (n-1)<Kr r p n)=true then T1 else T2)=_
      rw[if_neg (by simpa using d)]
     rw[e1];have ih:=ng f (p:=p) (n:=n+1) (q:=q+1) (by lia) ⟨fun i hi hn=>by
      by_cases z:i=n
      ·rw[z];lia
      ·exact h1 i hi (by lia),by lia,fun i hi hn=>by
      rw[show n+1-1=n by lia]
      by_cases z:i=n
      ·rw[z]
      ·have:=h3 i (by lia) (by lia)
       lia⟩
     exact⟨ih.1,by lia,by lia,ih.2.2.2⟩
def AS(r:Nat->Int)(n:Nat)(x:Nat×Array Nat):Prop:=x.2.size=n/\1<=x.1/\x.1<=n/\Up r x.2 x.1
theorem AU{n nrem:Nat}{p:Array Nat}{q:Nat}(h:Down r p n q)(hn:1<=n)(hle:n<=nrem)(hs:p.size=nrem):AS r nrem (SRun r (kas_tail3 n nrem p)):=by
 have up:Up r (kas_rev p 0 n) n:=fun i hi hi2=>by
  rw[yM (by lia),yM (by lia),if_pos (by lia),if_pos (by lia)]
  have:=h.1 (0+n-1-(i-1)) (by lia) (by lia)
  rw[show 0+n-1-(i-1)-1=0+n-1-i by lia]at this
  exact this
 have a:=CP (nrem-n) n hn up;unfold kas_tail3;rw[ja];exact⟨by show(kas_rev p 0 n).size=nrem;rw[mD,hs],by show 1<=SRun r _;lia,by show SRun r _<=nrem;lia,a.2.2.1⟩
theorem Down.congr{p p' : Array Nat}{n q:Nat}(h:Down r p n q)(e:∀ k,Kr r p' k=Kr r p k):Down r p' n q:=⟨fun i h1 h2=>by rw[e,e];exact h.1 i h1 h2,h.2.1,fun i h1 h2=>by rw[e,e];exact h.2.2 i h1 h2⟩
theorem AV{n nrem:Nat}{p:Array Nat}(hn:1<=n)(hle:n+1<=nrem)(hs:p.size=nrem)(heq:∀ i,i<n->Kr r p i=Kr r p (n-1))(hlt:Kr r p n<Kr r p (n-1)):AS r nrem (SRun r (kas_descPart n nrem p)):=by
 have d0:Down r p (n+1) 0:=⟨fun i h1 h2=>by
  by_cases z:i=n
  ·rw[z];lia
  ·rw[heq i (by lia),heq (i-1) (by lia)]
   exact Int.le_refl _,by lia,fun i h1 h2=>by rw[show i=n+1-1 by lia]⟩
 have d:=ng (nrem-(n+1)) (p:=p) (n:=n+1) (q:=0) (by lia) d0
 unfold kas_descPart;rw[ja];generalize SRun r (kas_desc (nrem-(n+1)) p (n+1) 0)=x at d;obtain⟨d1,d2,d3,d4⟩:=d
 by_cases hq:x.2.2 > 0
 ·rw[if_pos hq];exact AU (d4.congr (d4.rev (by lia))) (by lia) (by lia) (by rw[mD,d1,hs])
 ·rw[if_neg hq];exact AU d4 (by lia) (by lia) (by rw[d1,hs])
theorem Gh{nrem:Nat}{p:Array Nat}(h1:1<=nrem)(hs:p.size=nrem):AS r nrem (SRun r (kas_count nrem p)):=by
 have a:=CP (r:=r) (p:=p) (nrem-1) 1 (Nat.le_refl 1) (fun i hi hn=>by lia)
 unfold kas_count;rw[ja];generalize SRun r (kas_asc p (nrem-1) 1)=n at a;obtain⟨a1,a2,a3,a4⟩:=a
 by_cases e:(n==nrem)=true
 ·rw[if_pos e];exact⟨hs,a1,by show n<=nrem;lia,a3⟩
 ·rw[if_neg e];have e:n≠nrem:=by simpa using e
  have hlt:=a4 (by lia)
  by_cases h2:n > 1
  ·rw[if_pos h2]
   by_cases c:Kr r p 0<Kr r p (n-1)
   ·show AS r nrem (SRun r (if decide (Kr r p 0<Kr r p (n-1))=true then _ else _))
    rw[if_pos (decide_eq_true c)];exact⟨hs,a1,by show n<=nrem;lia,a3⟩
   ·show AS r nrem (SRun r (if decide (Kr r p 0<Kr r p (n-1))=true then _ else _))
    rw[if_neg (by simpa using c)]
    have all:∀ i,i<n->Kr r p i=Kr r p (n-1):=fun i hi=>by
     have l1:=a3.le (show 0<=i by lia) hi
     have l2:=a3.le (show i<=n-1 by lia) (by lia)
     lia
    have er:∀ k,Kr r (kas_rev p 0 n) k=Kr r p k:=fun k=>by
     rw[yM (by lia)]
     split
     ·rw[all _ (by lia),all k (by lia)]
     ·rfl
    exact AV a1 (by lia) (by rw[mD,hs]) (fun i hi=>by rw[er,er];exact all i hi) (by rw[er,er];exact hlt)
  ·rw[if_neg h2];have e1:n=1:=by lia
   subst e1;exact AV a1 (by lia) hs (fun i hi=>by rw[show i=1-1 by lia]) hlt
theorem vd{p:Array Nat}{k:Nat}(up:Up r p k):∀(f l u:Nat),u-l<=f->l<=u->u<=k->(∀ i,i<l->Kr r p i<=Kr r p k)->(∀ i,u<=i->i<k->Kr r p k<Kr r p i)->
 SRun r (kas_place p k f l u)<=k/\(∀ i,i<SRun r (kas_place p k f l u)->Kr r p i<=Kr r p k)/\∀ i,SRun r (kas_place p k f l u)<=i->i<k->Kr r p k<Kr r p i
 | 0,l,u,hf,hlu,huk,h1,h2=>by
   rw[kas_place.eq_1];have e:l=u:=by lia
   subst e;exact⟨huk,h1,h2⟩
 | f+1,l,u,hf,hlu,huk,h1,h2=>by
   rw[kas_place.eq_2]
   by_cases hx:l ≥ u
   ·rw[if_pos hx];have e:l=u:=by lia
    subst e;exact⟨huk,h1,h2⟩
   ·rw[if_neg hx]
    by_cases c:Kr r p k<Kr r p ((l+u)/2)
    ·have e0:∀(T1 T2:KasT Nat),SRun r (KasT.ask (p.getD k 0) (p.getD ((l+u)/2) 0) fun c=>if c=true then T1 else T2)=SRun r T1:=fun T1 T2=>by
      show SRun r (if decide (Kr r p k<Kr r p ((l+u)/2))=true then T1 else T2)=_
      rw[if_pos (decide_eq_true c)]
     rw[e0];exact vd up f l ((l+u)/2) (by lia) (by lia) (by lia) h1 fun i hi hk=>by
      have:=up.le hi hk
      lia
    ·have e0:∀(T1 T2:KasT Nat),SRun r (KasT.ask (p.getD k 0) (p.getD ((l+u)/2) 0) fun c=>if c=true then T1 else T2)=SRun r T2:=fun T1 T2=>by
      show SRun r (if decide (Kr r p k<Kr r p ((l+u)/2))=true then T1 else T2)=_
      rw[if_neg (by simpa using c)]
     rw[e0];exact vd up f ((l+u)/2+1) u (by lia) (by lia) huk (fun i hi=>by
      have:=up.le (show i<=(l+u)/2 by lia) (by lia)
      lia) h2
theorem JW:∀(f:Nat) {p:Array Nat} {k:Nat},k+f<=p.size->Up r p k->Up r (SRun r (kas_bin f p k)) (k+f)
 | 0,p,k,_,h=>by
   rw[kas_bin.eq_1];exact h
 | f+1,p,k,hs,h=>by
   rw[kas_bin.eq_2,ja];have pl:=vd h k 0 k (by lia) (by lia) (Nat.le_refl k) (fun i hi=>by lia) (fun i h1 h2=>by lia)
   generalize SRun r (kas_place p k k 0 k)=l at pl;obtain⟨p1,p2,p3⟩:=pl;have up:Up r (bubble p k (k-l)) (k+1):=fun i hi hk=>by
    rw[JV (by lia) (by lia),JV (by lia) (by lia),show k-(k-l)=l by lia]
    by_cases c1:i=l
    ·rw[if_neg (by lia),if_neg (by lia),if_pos c1]
     exact p2 (i-1) (by lia)
    ·rw[if_neg c1]
     by_cases c2:l<i/\i<=k
     ·rw[if_pos c2]
      by_cases c3:i-1=l
      ·rw[if_pos c3];exact Int.le_of_lt (p3 (i-1) (by lia) (by lia))
      ·rw[if_neg c3,if_pos (by lia)]
       exact h (i-1) (by lia) (by lia)
     ·rw[if_neg c2,if_neg (by lia),if_neg (by lia)]
      exact h i hi (by lia)
   have:=JW f (p:=bubble p k (k-l)) (k:=k+1) (by rw[bubble_size];lia) up
   rw[show k+(f+1)=k+1+f by lia]
   exact this
theorem EM{n:Nat}(hn:1<=n):Up r (SRun r (kas_sort n)) n:=by
 unfold kas_sort;rw[ja];have c:=Gh (r:=r) (p:=List.toArray (List.range n)) hn (by simp)
 generalize SRun r (kas_count n (List.toArray (List.range n)))=x at c;obtain⟨c1,c2,c3,c4⟩:=c
 by_cases hx:x.1<n
 ·rw[if_pos hx];have:=JW (n-max x.1 1) (p:=x.2) (k:=max x.1 1) (by lia) (by rw[show max x.1 1=x.1 by lia];exact c4)
  rw[show max x.1 1+(n-max x.1 1)=n by lia]at this
  exact this
 ·rw[if_neg hx];have e:x.1=n:=by lia
  rw[e]at c4;exact c4
end
theorem yN:bootBuiltins "sorted"=some (.builtin "sorted"):=by kernel_rfl
def kx(z:Int×Int):Int:=z.1*1073741824+z.2
def Ll(z:Int×Int):Prop:=0<=z.2/\z.2<1073741824
section
variable {X:Cx}{pins:aV}{σ:St}{H H2:Hp}{s:Shared}
theorem Inv.My{a:Addr}{xs:List V}{ob:Obj}(I:Inv X pins σ H s)(e:H a=some (.lst xs))(ho:s.heap.get? a=some ob):Inv X pins σ (upd H a (.kF ob (.lst xs))) s:=by
 have ne:∀ b,H b=none->b≠a:=fun b h z=>by rw[z,e]at h;cases h
 refine⟨I.ok,I.os,I.bare,⟨I.base.keep,I.base.slot,fun b o q n hx=>?_,I.base.there,fun b xs q=>?_,fun b o u q=>?_,fun b ps q=>?_⟩,I.loc,I.cell,?_,fun x c q=>?_,fun p hp=>?_,fun b u q=>?_,I.len⟩
 ·have z:=I.base.free b o q n hx;rw[aq (ne b z)];exact z
 ·have z:=I.base.tups b xs q;rw[aq (aW z e (by intro z;cases z))]
  exact z
 ·have z:=I.base.kG b o u q;rw[aq (aW z e (by intro z;cases z))]
  exact z
 ·obtain⟨more,z⟩:=I.base.lV b ps q;exact⟨more,by rw[aq (aW z e (by intro z;cases z))];exact z⟩
 ·rw[aq (ne _ I.free)];exact I.free
 ·rw[aq (ne _ (I.fB x c q))];exact I.fB x c q
 ·obtain⟨a1,a2,a3⟩:=I.pin p hp;exact⟨a1,by rw[aq (ne _ a2)];exact a2,a3⟩
 ·by_cases hb:b=a
  ·subst hb;rw[ae]at q;cases q;exact⟨ho,(I.hok b _ e).stay (fun _ _ _ q=>q) (fun c q=>by rw[aq (aW q e (by intro z;cases z))];exact q) fun c xs q=>by rw[aq (aW q e (by intro z;cases z))];exact q⟩
  ·rw[aq hb]at q;exact(I.hok b u q).stay (fun _ _ _ q=>q) (fun c q=>by rw[aq (aW q e (by intro z;cases z))];exact q) fun c xs q=>by rw[aq (aW q e (by intro z;cases z))];exact q
theorem Inv.RU{uV:aV}{σ0:St}{s0:Shared}{a:Addr}{xs:List V}{ob:Obj}(I0:Inv X uV σ0 H s0)(e0:H a=some (.lst xs))(I:Inv X pins σ H2 s)(e:H2 a=some (.kF ob (.lst xs))):
 Inv X pins σ (upd H2 a (.lst xs)) s:=by
 have ne:∀ b,H2 b=none->b≠a:=fun b h z=>by rw[z,e]at h;cases h
 obtain⟨ho,hd⟩:=(show br X.prog X.w H2 s.heap a (.kF ob (.lst xs)) from I.hok a _ e)
 refine⟨I.ok,I.os,I.bare,⟨I.base.keep,I.base.slot,fun b o q n hx=>?_,I.base.there,fun b xs q=>?_,fun b o u q=>?_,fun b ps q=>?_⟩,I.loc,I.cell,?_,fun x c q=>?_,fun p hp=>?_,fun b u q=>?_,I.len⟩
 ·have z:=I.base.free b o q n hx;rw[aq (ne b z)];exact z
 ·have z:=I.base.tups b xs q;rw[aq (aW z e (by intro z;cases z))]
  exact z
 ·have z:=I.base.kG b o u q;rw[aq (fun y=>by
   have z0:=I0.base.kG b o u q;rw[y,e0]at z0;cases z0)]
  exact z
 ·obtain⟨more,z⟩:=I.base.lV b ps q;exact⟨more,by rw[aq (aW z e (by intro z;cases z))];exact z⟩
 ·rw[aq (ne _ I.free)];exact I.free
 ·rw[aq (ne _ (I.fB x c q))];exact I.fB x c q
 ·obtain⟨a1,a2,a3⟩:=I.pin p hp;exact⟨a1,by rw[aq (ne _ a2)];exact a2,a3⟩
 ·by_cases hb:b=a
  ·subst hb;rw[ae]at q;cases q;exact hd.stay (fun _ _ _ q=>q) (fun c q=>by rw[aq (aW q e (by intro z;cases z))];exact q) fun c xs q=>by rw[aq (aW q e (by intro z;cases z))];exact q
  ·rw[aq hb]at q;exact(I.hok b u q).stay (fun _ _ _ q=>q) (fun c q=>by rw[aq (aW q e (by intro z;cases z))];exact q) fun c xs q=>by rw[aq (aW q e (by intro z;cases z))];exact q
end
def xV(h:Heap)(v:Value)(z:Int×Int):Prop:=∃(a:Addr) (o:Obj) (t u:Tok) (k:Nat),v = .ref a/\h.get? a=some o/\o.cls = .type "tuple"/\o.data = .seq #[.int z.1 t,.int z.2 u] k
theorem xV.pair{h:Heap}{v:Value}{z:Int×Int}(q:xV h v z):Ni h v:=let⟨a,o,t,u,k,q⟩:=q;⟨a,o,z.1,z.2,t,u,k,q⟩
theorem xW{prog:Program}{w:World}{A:Around}{s:Shared}{vs:List Value}{n:Nat}{zs:Nat->Int×Int}(hz:∀ i,i<n->Ll (zs i))(hv:∀ i,i<n->xV s.heap (vs.getD i Value.none) (zs i)):
 ∀ i j C,i<n->j<n->C (decide (kx (zs i)<kx (zs j))) s->kas_ask prog w A (tuples' true) vs i j C s:=by
 intro i j C hi hj hC;unfold kas_ask;obtain⟨a,o,t,u,k,e,ho,_,hd⟩:=hv i hi;obtain⟨a',o',t',u',k',e',ho',_,hd'⟩:=hv j hj;have oi:=hz i hi;have oj:=hz j hj;generalize zs i=z at hd hC oi;generalize zs j=z' at hd' hC oj;obtain⟨x,y⟩:=z;obtain⟨x',y'⟩:=z';unfold kx at hC;unfold Ll at oi oj;dsimp only at hd hd' hC oi oj;rw[e,e'];refine kat_lt ho hd ho' hd' ?_;show KatLex prog w A true _ C [(.int x t,.int x' t'),(.int y u,.int y' u')] 0 s;rw[KatLex.eq_2];refine wpAny_eqBool_int ?_
 by_cases ex:x=x'
 ·rw[show(x==x')=true by simpa using ex]
  rw[if_pos rfl,KatLex.eq_2];refine wpAny_eqBool_int ?_
  by_cases ey:y=y'
  ·rw[show(y==y')=true by simpa using ey]
   rw[if_pos rfl,KatLex.eq_1];rw[decide_eq_false (by lia)]at hC
   exact hC
  ·rw[show(y==y')=false by simpa using ey]
   rw[if_neg Bool.false_ne_true];refine kat_one _ _ (lt_int ?_);have e2:decide (y<y')=decide (x*1073741824+y<x'*1073741824+y'):=decide_eq_decide.mpr (by lia)
   rw[<-e2]at hC;exact hC
 ·rw[show(x==x')=false by simpa using ex]
  rw[if_neg Bool.false_ne_true];refine oneLt_int ?_;have e2:decide (x<x')=decide (x*1073741824+y<x'*1073741824+y'):=decide_eq_decide.mpr (by lia)
  rw[<-e2]at hC;exact hC
def O7(P:Addr)(q:Str)(lp:Pos)(ta:TA)(te:TE)(js:List Nat):TE:=fun σ H Q=>ta σ H fun vs H1=>∃(a:Addr) (ns:List Int) (kf:Int->Int×Int),vs=[.ref a]/\H1 a=some (.lst (ns.map V.int))/\ns.length<64/\(∀ n∈ns,Ll (kf n))/\H1 P=some (.jz (eF q lp))/\
 (∀ H3,(∀ b u,H1 b=some u->(∀ y,u≠.own y)->(∀ qs,u≠.jz qs)->H3 b=some u)->∀ n∈ns,te (some (.int n)::fj σ js) H3 fun v H4=>av H3 H4/\∃ d,v = .ref d/\H4 d=some (.tup [.int (kf n).1,.int (kf n).2]))/\
 ∀(l:Addr) (ns' : List Int) H4,H1 l=none->av H1 H4->H4 l=some (.lst (ns'.map V.int))->ns'.Perm ns->ns'.Pairwise (fun x y=>kx (kf x)<=kx (kf y))->Q (.ref l) H4
section
variable {X:Cx}{pins:aV}{σ:St}{H2:Hp}
theorem Gi{A:Around}{E:dw}{P:PySem.Fin->Shared->Prop}{s:Shared}{H3:Hp}{D kS:Addr}{e e1:Nat}{its:List Value}{ns:List Int}{ds:List Addr}{kf:Int->Int×Int}
 (I:Inv X ((kS,seqObj "list" (ds.map Value.ref).toArray e)::pins) σ H3 s) (oK:CK X kS) (pK:∀ p∈pins,p.1≠kS) (hD:H3 D=some (.kF (seqObj "list" #[] e1) (.lst []))) (rv:Vals (ns.map V.int) its) (hn:ns.length<64) (hdl:ds.length=ns.length)
 (hk:∀(j:Nat) d n,ds[j]?=some d->ns[j]?=some n->H3 d=some (.tup [.int (kf n).1,.int (kf n).2])) (hok:∀ n∈ns,Ll (kf n))
 {uV:aV} {σ0:St} {s0:Shared} {H0:Hp} (I0:Inv X uV σ0 H0 s0) (e0:H0 D=some (.lst []))
 (fin:∀(s' : Shared) (ns' : List Int),ns'.Perm ns->ns'.Pairwise (fun x y=>kx (kf x)<=kx (kf y))->Inv X pins σ (upd (upd H3 D (.lst [])) D (.lst (ns'.map V.int))) s'->P (.done (.ret .none)) s') :
 wpAny (model X.prog X.w) A (ksk_end D false its.toArray e1 (.ref kS) ((ds.map Value.ref).toArray)) P E s:=by
 have hl:its.length=ns.length:=by have:=rv.length;rw[List.length_map]at this;lia
 obtain⟨Z3,_⟩:=(show br X.prog X.w H3 s.heap D (.kF (seqObj "list" #[] e1) (.lst [])) from I.hok D _ hD)
 have CQ:=I.pin (kS,seqObj "list" (ds.map Value.ref).toArray e) (List.mem_append_right _ (.head _));have TQ:D≠kS:=fun z=>by
  have:=CQ.2.1;rw[<-z,hD]at this;cases this
 have tail:∀(st:SortSt) (ns' : List Int) (out:List Value),(arrOf st).map (·.2)=out.toArray->out.length<64->failedOf st=none->ns'.Perm ns->ns'.Pairwise (fun x y=>kx (kf x)<=kx (kf y))->Vals (ns'.map V.int) out->wpAny (model X.prog X.w) A (ksk_tail D false e1 (.ref kS) st) P E s:=by
  intro st ns' out hout hz hf hp hs hv;have s1:=Heap.SameBut.update s.heap kS (Obj.mapSeq fun _=>(#[]:Array Value))
  have qL:(s.heap.update kS (Obj.mapSeq fun _=>(#[]:Array Value))).get? D=some (seqObj "list" #[] e1):=(s1.2 D TQ).trans Z3
  have s2:=Heap.SameBut.update (s.heap.update kS (Obj.mapSeq fun _=>(#[]:Array Value))) D (Obj.mapSeq fun _=>out.toArray)
  obtain⟨c2,hc2⟩:∃ c2,((s.heap.update kS (Obj.mapSeq fun _=>(#[]:Array Value))).update D (Obj.mapSeq fun _=>out.toArray)).get? D=some (seqObj "list" out.toArray c2):=⟨_,get?_update_seq qL fun _=>out.toArray⟩
  unfold ksk_tail
  try dsimp only
  rw[hout];refine wpAny_bind (listUpdate_at CQ.1 rfl ?_ (by rw[List.size_toArray,List.length_map,sizeLine_eq];lia) (Nat.zero_le _))
  refine wpAny_bind (wpAny_letGo ?_);refine wpAny_bind (seqEpoch_at qL rfl ?_);refine wpAny_bind (listUpdate_at qL rfl ?_ (Nat.zero_le _) (by show out.toArray.size<=_;rw[List.size_toArray,sizeLine_eq];lia))
  rw[hf];simp only[bne_self_eq_false,Bool.false_eq_true,if_false];have J1:=I.jE (t':=s.toks) (h':=s.heap.update kS (Obj.mapSeq fun _=>(#[]:Array Value))) (pb:=pins) oK (.head _) (fun c u ne e=>(s1.2 c ne).trans e) (fun p hp=>.inr ⟨.tail _ hp,pK p hp⟩)
  have J2:=Inv.RU I0 e0 J1 hD;have J3:=J2.write (x:=D) (e:=D) (o:=.lst (ns'.map V.int)) (t':=s.toks) (h':=(s.heap.update kS (Obj.mapSeq fun _=>(#[]:Array Value))).update D (Obj.mapSeq fun _=>out.toArray)) (by rw[ae];trivial) (.inl rfl) (fun b u nb eb=>(s2.2 b nb).trans eb) ⟨_,hc2⟩
   ⟨by rw[List.length_map,hp.length_eq,sizeLine_eq];lia,out,c2,hv,hc2⟩
  exact wpAny_pure (fin _ ns' hp hs J3)
 by_cases h2:2<=ns.length
 ·have kv:∀ i,i<its.length->xV s.heap ((ds.map Value.ref).getD i Value.none) (kf (ns.getD i 0)):=fun i hi=>by
   have e1:ds[i]?=some (ds[i]'(by lia)):=List.getElem?_eq_getElem _
   have e2:ns[i]?=some (ns[i]'(by lia)):=List.getElem?_eq_getElem _
   have hd:=hk i _ _ e1 e2;obtain⟨ts,rt,⟨o,eo,hc,n,hdt⟩,_⟩:=I.tuple (aP.of hd);have g1:(ds.map Value.ref).getD i Value.none = .ref (ds[i]'(by lia)):=by rw[List.getD_eq_getElem?_getD,List.getElem?_map,e1];rfl
   have g2:ns.getD i 0=ns[i]'(by lia):=by rw[List.getD_eq_getElem?_getD,e2];rfl
   rw[g1,g2]
   match ts,rt with
   | [_,_],.cons ⟨t,rfl⟩ (.cons ⟨u,rfl⟩ .nil)=>exact⟨_,o,t,u,n,rfl,eo,hc,hdt⟩
  have kz:∀ i,i<its.length->Ll (kf (ns.getD i 0)):=fun i hi=>by
   have e2:ns[i]?=some (ns[i]'(by lia)):=List.getElem?_eq_getElem _
   rw[List.getD_eq_getElem?_getD,e2];exact hok _ (List.getElem_mem _)
  have hlk:(ds.map Value.ref).length=its.length:=by rw[List.length_map];lia
  have hn2 : ¬ its.toArray.size<2:=by rw[List.size_toArray];lia
  unfold ksk_end
  try dsimp only
  rw[if_neg Bool.false_ne_true,if_neg hn2,if_neg hn2,if_neg Bool.false_ne_true];refine wpAny_bind (xJ (by rw[List.length_map];lia) (fun v hv=>?_) ?_)
  ·obtain⟨i,hi,rfl⟩:=List.mem_iff_getElem.mp hv;have:=(kv i (by lia)).pair
   rw[List.getD_eq_getElem?_getD,List.getElem?_eq_getElem hi]at this;exact this
  refine wpAny_bind (wpAny_mono (kat_run (Q:=fun st' s'=>s' = s/\∃ p:Array Nat,dh its.length p/\Up (fun i=>kx (kf (ns.getD i 0))) p its.length/\(arrOf st').map (·.2)=(p.toList.map fun i=>its.getD i Value.none).toArray/\failedOf st' = none) (G:=fun p s'=>s' = s/\dh its.length p/\Up (fun i=>kx (kf (ns.getD i 0))) p its.length)
   hlk (by lia) (by lia) (fun p st' s' a1 a2 a3 a4=>⟨a4.1,p,a4.2.1,a4.2.2,kat_snds hlk a2,a3⟩) ?_) ?_ fun _ _ x=>x)
  ·exact yL (r:=fun i=>kx (kf (ns.getD i 0))) (n:=its.length) (xW kz kv) (EJ (by lia)) fun hg=>⟨rfl,hg,EM (by lia)⟩
  ·rintro⟨⟨⟩,st'⟩ s' ⟨rfl,p,hg,hu,har,hf⟩
   try dsimp only
   have hpl:p.toList.length=its.length:=by have:=hg.length_eq;rw[List.length_range]at this;exact this
   refine tail st' (p.toList.map fun i=>ns.getD i 0) _ har (by rw[List.length_map];lia) hf ?_ ?_ ?_
   ·have h1:=List.Perm.map (fun i=>ns.getD i 0) hg
    have h3:(List.range its.length).map (fun i=>ns.getD i 0)=ns:=by
     rw[hl];refine List.ext_getElem (by simp) fun i h1 h2=>?_
     simp[List.getD_eq_getElem?_getD,List.getElem?_eq_getElem h2]
    rw[h3]at h1;exact h1
   ·rw[List.pairwise_map,List.pairwise_iff_getElem];intro i j hi hj hij;have:=hu.le (Nat.le_of_lt hij) (by lia)
    have ga:∀ i (hi:i<p.toList.length),p.getD i 0=p.toList[i]:=fun i hi=>by
     rw[Array.getD_eq_getD_getElem?,<-Array.getElem?_toList,List.getElem?_eq_getElem hi];rfl
    unfold Kr at this;rw[ga i hi,ga j hj]at this;exact this
   ·have:∀ l:List Nat,(∀ i∈l,i<ns.length)->Vals ((l.map fun i=>ns.getD i 0).map V.int) (l.map fun i=>its.getD i Value.none):=fun l=>by
     induction l with
     | nil=>exact fun _=>.nil
     | cons i l ih =>
       intro h;refine .cons ?_ (ih fun j hj=>h j (List.mem_cons_of_mem _ hj))
       have hi:=h i List.mem_cons_self;have h1:(ns.map V.int)[i]?=some (.int (ns.getD i 0)):=by
        rw[List.getElem?_map,List.getD_eq_getElem?_getD,List.getElem?_eq_getElem hi];rfl
       obtain⟨u,hu,ru⟩:=rv.get h1;have gu:its.getD i Value.none=u:=by rw[List.getD_eq_getElem?_getD,hu];rfl
       show RelV (V.int (ns.getD i 0)) (its.getD i Value.none);rw[gu];exact ru
    refine this _ fun i hi=>?_
    have:=List.mem_range.mp (hg.mem_iff.mp hi)
    lia
 ·have hn2:its.toArray.size<2:=by rw[List.size_toArray];lia
  unfold ksk_end
  try dsimp only
  rw[if_neg Bool.false_ne_true,if_pos hn2,if_pos hn2,if_neg Bool.false_ne_true];refine wpAny_bind (wpAny_pure ?_);refine wpAny_bind (m:=pure ((),SortSt.mk' general' (((ds.map Value.ref).toArray).zip its.toArray) #[] 7 none)) (wpAny_pure ?_);refine tail _ ns its ?_ (by lia) rfl (List.Perm.refl _) ?_ rv
  ·show Array.map (fun x:Keyed=>x.snd) (((ds.map Value.ref).toArray).zip its.toArray)=its.toArray
   apply Array.toList_inj.mp;simp;exact List.map_snd_zip (by rw[List.length_map];lia)
  ·match ns,h2 with
   | [],_=>exact .nil
   | [x],_=>exact List.pairwise_singleton _ _
   | _::_::_,h2=>exact absurd (by simp:2<=_) h2
end
section
variable {X:Cx}{params:Arguments}{body e:Expr}{scope:Scope}{lp p pos kp:Pos}{frees:List Str}{js:List Nat}{x:Str}{ta:TA}{te:TE}{c0 P:Addr}{k:Nat}
theorem JX(hr:fh (k+3) X.A)(T:dI X scope [x] frees js)(hx:scope.names.lookup x=some .local)(hg:Gl X "sorted")(hm:X.mg "sorted"=none)(hcode:X.env.code = .ref c0)(hK:PySem.W.codeHdIn X.K c0 P=true)(ha:PA X [e] ta)
 (he:∀ f c s H,fh k (uW X ([x]++frees) scope f c X.A.in1.in1 s H).A->PE (uW X ([x]++frees) scope f c X.A.in1.in1 s H) body te)
 (hb:∀ c ctv u,bindArgs (AI X params body scope c ctv) ⟨[u],[]⟩=pure [(x,u)]:=by intro _ _ _;rfl) (hco:scope.isCoroutine=false:=by rfl) (hgen:scope.isGenerator=false:=by rfl)
 (hdef:defaultsOf params X.env=([],[]):=by rfl)
 (hs:backTo pos (starEach [e] X.env)=(false,eval e X.env)::backTo pos (starEach [] X.env):=by rfl) (hs2:(backTo pos (starEach [e] X.env)).any (·.1)=false:=by rfl) :
 PE X (.Call (.Name "sorted" p) [e] [⟨some (Str.ofString "key"),.Lambda params body scope lp,kp⟩] pos) (O7 P (X.env.qual ++ "<lambda>") lp ta te js):=by
 intro pins s σ H Q I h;refine wpAny_Call_Name_kw (kH I hg hm yN (callWith_kw (dB (ha pos pins s σ H _ I h) fun us s1 hq=>?_) hs hs2 rfl rfl))
 obtain⟨vs,H1,I1,r1,a,ns,kf,rfl,hda,h64,hok,hP,hturn,OX⟩:=hq;obtain⟨u,rfl,rx⟩:=vals1 r1;cases rx;refine kws_cons (AJ I1 T hcode hK hP hdef fun f c oc ctv s2 hc AK hoc J=>kws_nil ?_)
 show wpAny _ X.A (call (.builtin "sorted") [.ref a] [(Str.ofString "key",.ref f)]) _ _ s2;have hla:=tK (oc:=oc) hP hc hda (by intro y z;cases z) (by intro y z;cases z)
 have OY:fR H1 P c oc (X.env.qual ++ "<lambda>") lp P=some (.jz (eF (X.env.qual ++ "<lambda>") lp++nG lp c)):=ae;have Mt:fR H1 P c oc (X.env.qual ++ "<lambda>") lp c=some (.kF oc (.own P)):=by unfold fR;rw[aq AK,ae]
 have Nq:∀ b,fR H1 P c oc (X.env.qual ++ "<lambda>") lp b=none->H1 b=none:=fun b hb=>by
  have bP:b≠P:=fun z=>by rw[z,OY]at hb;cases hb
  have bc:b≠c:=fun z=>by rw[z,Mt]at hb;cases hb
  unfold fR at hb
  rwa [aq bP,aq bc]at hb
 have Xb:∀ b u,H1 b=some u->(∀ y,u≠.own y)->(∀ qs,u≠.jz qs)->fR H1 P c oc (X.env.qual ++ "<lambda>") lp b=some u:=fun b u eb n1 n2=>tK hP hc eb n1 n2
 generalize Z4:fR H1 P c oc (X.env.qual ++ "<lambda>") lp=HL at J hla OY Mt Nq Xb;obtain⟨its,rv,⟨o,n,ho,hcl,hdt,hd⟩,hz⟩:=J.list (aO.of hla);have hl:=rv.length;rw[List.length_map]at hl;have hsl:its.length<=sizeLine:=dl (Nat.ble_eq.mpr (by lia))
 refine call_function_entry_kw kind_sorted plain_sorted entry_sorted (ksk_s1 _ _) ?_;unfold Builtin.«sorted»;refine wpAny_bind (m:=checkCount "sorted" 1 1 _) (wpAny_pure ?_);refine wpAny_bind (wpAny_collect_seq a (T:="list") (.inl rfl) ho hcl hd (fun h1 hk=>?_) (by rw[List.size_toArray];exact hsl))
 have J1:=J.kept (t':=s2.toks) hk;have hfr:HL h1.objs.size=none:=J1.hok.fresh (Nat.le_refl _);refine wpAny_bind (wpAny_newList ?_ (by simpa using hsl))
 have e0:its.toArray.toList=its:=by simp
 rw[e0];have BP:(h1.push (seqObj "list" its.toArray 0)).get? h1.objs.size=some (seqObj "list" its.toArray 0):=Heap.get?_push_size _ rfl;have J2:Inv X ((f,dU X params body scope c ctv)::pins) σ (upd HL h1.objs.size (.lst (ns.map V.int))) { s2 with heap:=h1.push (seqObj "list" its.toArray 0)}:=by
  refine J1.laid (t':=s2.toks) (fun b o hb=>?_) (Nat.le_refl _) ⟨?_,its,0,rv,BP⟩
  ·rw[Heap.get?_push_ne _ _ _ (Nat.ne_of_lt (Heap.lt_size hb))];exact hb
  ·rw[List.length_map,hl];exact hsl
 generalize hDd:h1.objs.size=D at hfr BP J2;refine wpAny_bind (wpAny_holding (wpAny_call_entry_kw slot_list_sort ⟨_,BP,rfl⟩ entry_list_sort ?body (ksk_l1 _ _)));show wpAny (model X.prog X.w) X.A.in1.in1 (Builtin.«list.sort» ⟨[.ref D],[(Str.ofString "key",.ref f)]⟩) _ _ _;rw[ksk_t1];generalize h1.push (seqObj "list" its.toArray 0)=h2 at BP J2;have s1':=Heap.SameBut.update h2 D (Obj.mapSeq fun _=>(#[]:Array Value))
 obtain⟨e1,Ld⟩:∃ e1,(h2.update D (Obj.mapSeq fun _=>(#[]:Array Value))).get? D=some (seqObj "list" #[] e1):=⟨_,get?_update_seq BP fun _=>#[]⟩
 unfold ksk_tree;refine wpAny_bind (listItems_at BP rfl ?_);refine wpAny_bind (listUpdate_at BP rfl ?_ (by rw[List.size_toArray];exact hsl) (Nat.zero_le _))
 refine wpAny_bind (seqEpoch_at Ld rfl ?_);refine wpAny_bind (wpAny_newTuple ?_ (by show its.toArray.toList.length<=_;rw[e0];exact hsl))
 refine wpAny_bind (wpAny_newList ?_ (Nat.zero_le _));refine wpAny_holding ?_;have J3:=J2.write (x:=D) (e:=D) (o:=.lst []) (t':=s2.toks) (h':=h2.update D (Obj.mapSeq fun _=>(#[]:Array Value))) (by rw[ae];trivial) (.inl rfl) (fun b u nb eb=>(s1'.2 b nb).trans eb) ⟨_,Ld⟩ ⟨Nat.zero_le _,[],e1,.nil,Ld⟩
 have J4:=J3.My (a:=D) ae Ld;generalize LP:upd (upd (upd HL D (.lst (ns.map V.int))) D (.lst [])) D (.kF (seqObj "list" #[] e1) (.lst []))=H2 at J4;have at2:∀ b u,HL b=some u->H2 b=some u:=fun b u eb=>by
  have nb:b≠D:=fun z=>by rw[z,hfr]at eb;cases eb
  rw[<-LP,aq nb,aq nb,aq nb];exact eb
 have jx:H2 D=some (.kF (seqObj "list" #[] e1) (.lst [])):=by rw[<-LP,ae]
 generalize h2.update D (Obj.mapSeq fun _=>(#[]:Array Value))=h3 at J3 J4
 rw[e0];have hkk:∀ b u,h3.get? b=some u->((h3.push (seqObj "tuple" its.toArray 0)).push (seqObj "list" #[] 0)).get? b=some u:=fun b u eb=>Heap.get?_push_of_some _ (Heap.get?_push_of_some _ eb)
 have hS:(h3.push (seqObj "tuple" its.toArray 0)).objs.size=h3.objs.size+1:=size_push' ..;have oK:=J4.JF (b:=(h3.push (seqObj "tuple" its.toArray 0)).objs.size) (by show h3.objs.size<=_;rw[hS];exact Nat.le_succ _)
 have gK:((h3.push (seqObj "tuple" its.toArray 0)).push (seqObj "list" #[] 0)).get? (h3.push (seqObj "tuple" its.toArray 0)).objs.size=some (seqObj "list" #[] 0):=Heap.get?_push_size _ rfl;have Z5:H2 (h3.push (seqObj "tuple" its.toArray 0)).objs.size=none:=J4.hok.fresh (by show h3.objs.size<=_;rw[hS];exact Nat.le_succ _)
 have Mu:∀ q∈(f,dU X params body scope c ctv)::pins,q.1<h3.objs.size:=fun q hq=>Heap.lt_size (J4.pin q (List.mem_append_right _ hq)).1
 have J5:Inv X (((h3.push (seqObj "tuple" its.toArray 0)).objs.size,seqObj "list" #[] 0)::(f,dU X params body scope c ctv)::pins) σ H2 { s2 with heap:=(h3.push (seqObj "tuple" its.toArray 0)).push (seqObj "list" #[] 0)}:=by
  have K:=J4.kept (t':=s2.toks) hkk;refine K.gn fun q hq=>?_
  rcases List.mem_cons.mp hq with rfl|hq
  ·exact⟨gK,Z5,oK.2.1,oK.2.2.1,fun v z=>by cases z⟩
  ·exact K.pin q (List.mem_append_right _ hq)
 have pK:∀ q∈(f,dU X params body scope c ctv)::pins,q.1≠(h3.push (seqObj "tuple" its.toArray 0)).objs.size:=fun q hq=>by
  have:=Mu q hq;rw[hS];exact Nat.ne_of_lt (Nat.lt_succ_of_lt this)
 have Xc:its.toArray.size=its.length:=List.size_toArray ..;show wpAny (model X.prog X.w) X.A.in1.in1 (ksk_rest D (.ref f) false its.toArray e1 (.ref (h3.push (seqObj "tuple" its.toArray 0)).objs.size)) _ _ { s2 with heap:=(h3.push (seqObj "tuple" its.toArray 0)).push (seqObj "list" #[] 0)}
 generalize (h3.push (seqObj "tuple" its.toArray 0)).objs.size=kS at oK J5 pK;generalize (h3.push (seqObj "tuple" its.toArray 0)).push (seqObj "list" #[] 0)=h4 at J5;unfold ksk_rest;refine wpAny_bind (wpAny_rule ?_);rw[List.forIn_toArray];refine wpAny_bind (ksk_fold (fun i s'=>∃ H3 ds en,av H2 H3/\Inv X ((kS,seqObj "list" ((ds.map Value.ref).toArray) en)::(f,dU X params body scope c ctv)::pins) σ H3 s'/\ds.length=i/\∀(j:Nat) d n,ds[j]?=some d->ns[j]?=some n->H3 d=some (.tup [.int (kf n).1,.int (kf n).2]))
  its 0 _ ⟨H2,[],0,av.refl _,J5,rfl,fun j d n z=>by cases z⟩ ?_ ?_)
 ·rintro j y s' hy ⟨H3,ds,en,BU,I3,hdl,hkeys⟩;rw[Nat.zero_add]at hdl ⊢;have hj:j<its.length:=(List.getElem?_eq_some_iff.mp hy).1;have Xd:ns[j]?=some (ns[j]'(by lia)):=List.getElem?_eq_getElem _
  obtain⟨uu,hu,ru⟩:=rv.get (show(ns.map V.int)[j]?=some (.int (ns[j]'(by lia))) by rw[List.getElem?_map,Xd];rfl)
  rw[hy]at hu;cases hu;obtain⟨hct,_⟩:=(show br X.prog X.w H3 s'.heap c (.kF oc (.own P)) from I3.hok c _ (BU _ _ (at2 _ _ Mt)))
  have hroom:X.A.in1.in1.depth<recursionLimit:=((hr.in1).in1).depth;refine wpAny_bind (wpAny_attempt (wpAny_mono (AN (v:=.int (ns[j]'(by lia))) I3 T hx I3.ok.frames rfl hroom (List.Mem.tail _ (.head _)) (hoc.rec hct) (hb c ctv _) hco hgen (he f c s' H3 (((hr.in1).in1).deeper _)) ru
   (hturn H3 (fun b u eb n1 n2=>BU _ _ (at2 _ _ (Xb b u eb n1 n2))) _ (List.getElem_mem _))) (fun v s3 hv=>?_) fun _ _ z=>z))
  obtain⟨w',H4,I4,rw',Xe,d,rfl,Z6⟩:=hv;cases rw';have CQ:=I4.pin (kS,_) (List.mem_append_right _ (.head _));have sb:=Heap.SameBut.update s3.heap kS (Obj.mapSeq (·.push (.ref d)));have ea:((ds.map Value.ref).toArray).push (.ref d)=((ds++[d]).map Value.ref).toArray:=by simp
  obtain⟨c2,hc2⟩:∃ c2,(s3.heap.update kS (Obj.mapSeq (·.push (.ref d)))).get? kS=some (seqObj "list" (((ds++[d]).map Value.ref).toArray) c2):=⟨_,by rw[<-ea];exact get?_update_seq CQ.1 (·.push (.ref d))⟩
  try dsimp only
  refine wpAny_bind (listUpdate_at CQ.1 rfl ?_ (by rw[List.size_toArray,List.length_map,sizeLine_eq];lia) (Nat.le_trans (Nat.le_of_eq (Array.size_push ..)) (by rw[List.size_toArray,List.length_map,sizeLine_eq];lia)))
  refine wpAny_pure ⟨rfl,H4,ds++[d],c2,fun b u z=>Xe _ _ (BU _ _ z),?_,by rw[List.length_append,List.length_singleton,hdl],fun i d' n' e1 e2=>?_⟩
  ·exact I4.jE (t':=s3.toks) oK (.head _) (fun b u nb eb=>(sb.2 b nb).trans eb) fun q hq=>by
    rcases List.mem_cons.mp hq with rfl|hq
    ·exact .inl ⟨rfl,hc2,fun v z=>by cases z⟩
    ·exact .inr ⟨.tail _ hq,pK q hq⟩
  ·by_cases hi:i<ds.length
   ·rw[List.getElem?_append_left hi]at e1;exact Xe _ _ (hkeys i d' n' e1 e2)
   ·rw[List.getElem?_append_right (by lia)]at e1
    have hi2:i=j:=by
     have:=(List.getElem?_eq_some_iff.mp e1).1;rw[List.length_singleton]at this
     lia
    subst hi2;rw[hdl,Nat.sub_self]at e1;have e1:d=d':=by simpa using e1
    rw[Xd]at e2;cases e2;rw[<-e1];exact Z6
 ·rintro s' ⟨H3,ds,en,BU,I3,hdl,hkeys⟩;rw[Nat.zero_add]at hdl;have CQ:=I3.pin (kS,_) (List.mem_append_right _ (.head _))
  try dsimp only
  refine wpAny_bind (listItems_at CQ.1 rfl ?_);refine Gi I3 oK pK (BU _ _ jx) rv h64 (by lia) hkeys hok J3 ae fun s5 ns' hp Vu I5=>⟨_,rfl,wpAny_pure ⟨_,rfl,?_⟩⟩
  have I6:Inv X pins σ (upd (upd H3 D (.lst [])) D (.lst (ns'.map V.int))) s5:=I5.gn fun q hq=>I5.pin q (List.mem_append_right _ (.tail _ hq))
  have nD:∀ b u,HL b=some u->b≠D:=fun b u eb z=>by rw[z,hfr]at eb;cases eb
  have Vv:∀ b u,HL b=some u->upd (upd H3 D (.lst [])) D (.lst (ns'.map V.int)) b=some u:=fun b u eb=>by
   rw[aq (nD b u eb),aq (nD b u eb)];exact BU _ _ (at2 _ _ eb)
  have I7:=AL I1 hP hc AK hoc I6 (Vv _ _ OY) (Vv _ _ Mt);refine⟨.ref D,_,I7,rfl,OX D ns' _ (Nq D hfr) (AM hP hc AK (oc:=oc) fun b u eb=>Vv b u (by rw[<-Z4];exact eb)) ?_ hp Vu⟩
  unfold given;rw[aq (fun z=>nD _ _ OY z.symm),aq (fun z=>nD _ _ Mt z.symm),ae]
end
section
variable {X:Cx}{pins:aV}{σ:St}{H:Hp}{s:Shared}
theorem AW{a:Addr}{ps:List (Addr×Int×Int)}{its:List Value}{E:dw}{P:PySem.Fin->Shared->Prop}{A:Around}(I:Inv X pins σ (upd H a (.lst (ps.map fun q=>V.ref q.1))) s)(ha:H a=none)(ho:s.heap.get? a=some (seqObj "list" its.toArray 0))(rv:Vals (ps.map fun q=>V.ref q.1) its)
 (hp:∀ q∈ps,H q.1=some (.tup [.int q.2.1,.int q.2.2])) (hok:∀ q∈ps,Ll q.2) (h2:2<=ps.length) (hn:ps.length<64)
 (k:∀(h' : Heap) (c:Nat) (ps' : List (Addr×Int×Int)) (out:List Value),ps'.Perm ps->ps'.Pairwise (fun x y=>kx x.2<=kx y.2)->Vals (ps'.map fun q=>V.ref q.1) out->h'.get? a=some (listOf out.toArray c)->(∀ m,s.heap.Ns X.env.locals m->h'.Ns X.env.locals m)->(∀ b o,b≠X.env.locals->b≠a->s.heap.get? b=some o->h'.get? b=some o)->P (PySem.Fin.done (PySem.Flow.ret PySem.Value.none)) { s with heap:=h'}) :
 wpAny (model X.prog X.w) A (PySem.Builtin.«list.sort» { pos:=[PySem.Value.ref a]}) P E s:=by
 have hl:=rv.length;rw[List.length_map]at hl;obtain⟨m,F⟩:=I.fr;have hne:a≠X.env.locals:=fun z=>by
  have:=I.free;rw[<-z,ae]at this;cases this
 have hb:X.base.get? a=none:=by
  cases e:X.base.get? a with
  | none=>rfl
  | some o =>
    have:=(I.bs a o e).2;rw[ae]at this;cases this
 have N:News X.base X.env.locals s.heap (rest X.base s.heap X.env.locals a):=fun p hp=>HC p (List.mem_filter.mp hp).1
 have at_:∀ i,i<ps.length->its.getD i Value.none = .ref (ps.getD i (0,0,0)).1/\ps.getD i (0,0,0)∈ps:=fun i hi=>by
  have h1:(ps.map fun q=>V.ref q.1)[i]?=some (.ref (ps.getD i (0,0,0)).1):=by
   rw[List.getElem?_map,List.getD_eq_getElem?_getD,List.getElem?_eq_getElem hi];rfl
  obtain⟨u,hu,ru⟩:=rv.get h1;refine⟨?_,?_⟩
  ·rw[List.getD_eq_getElem?_getD,hu];exact ru
  ·rw[List.getD_eq_getElem?_getD,List.getElem?_eq_getElem hi];exact List.getElem_mem hi
 refine kat_list_sort F N ho hne hb DU (by lia) (by lia) fun e1 h' F' N'=>?_
 have kept:=oR (d:=a) I.bk F' fun p hp=>N' p (List.mem_cons_of_mem _ hp)
 have pv:∀ q∈ps,xV h' (.ref q.1) q.2:=fun q hq=>by
  have hH:=hp q hq;have ne1:q.1≠a:=fun z=>by
   rw[z,ha]at hH;cases hH
  have Xf:upd H a (.lst (ps.map fun q=>V.ref q.1)) q.1=some (.tup [.int q.2.1,.int q.2.2]):=by rw[aq ne1];exact hH
  have ne2:q.1≠X.env.locals:=fun z=>by
   have:=I.free;rw[<-z,Xf]at this;cases this
  obtain⟨ts,rt,⟨o,e,hc,n,hd⟩,_⟩:=I.tuple (aP.of Xf)
  match ts,rt with
  | [_,_],.cons ⟨t,rfl⟩ (.cons ⟨u,rfl⟩ .nil)=>exact⟨q.1,o,t,u,n,rfl,kept _ _ ne2 ne1 e,hc,hd⟩
 have Xg:∀ i,i<its.length->xV h' (its.getD i Value.none) (ps.getD i (0,0,0)).2:=fun i hi=>by
  obtain⟨e,hm⟩:=at_ i (by lia)
  rw[e];exact pv _ hm
 refine xJ (by lia) (fun v hv=>?_) (yL (r:=fun i=>kx (ps.getD i (0,0,0)).2) (n:=its.length) (xW (fun i hi=>hok _ (at_ i (by lia)).2) Xg) (EJ (by lia)) (fun Mz=>?_))
 ·obtain⟨i,hi,rfl⟩:=List.mem_iff_getElem.mp hv;have:=(Xg i hi).pair;rw[List.getD_eq_getElem?_getD,List.getElem?_eq_getElem hi]at this;exact this
 have hup:=EM (r:=fun i=>kx (ps.getD i (0,0,0)).2) (n:=its.length) (by lia)
 generalize SRun (fun i=>kx (ps.getD i (0,0,0)).2) (kas_sort its.length)=p' at Mz hup ⊢
 refine KasFin.intro F' N' (UpdF.head DU) fun h'' c Xh Xi=>?_
 have RV:∀ b o,b≠X.env.locals->b≠a->s.heap.get? b=some o->h''.get? b=some o:=oR (d:=a) I.bk Xh fun p hp=>Xi p (List.mem_cons_of_mem _ hp)
 have EN:(p'.toList.map fun i=>ps.getD i (0,0,0)).Perm ps:=by
  have h1:=List.Perm.map (fun i=>ps.getD i (0,0,0)) Mz
  have h2:(List.range its.length).map (fun i=>ps.getD i (0,0,0))=ps:=by
   rw[<-hl];refine List.ext_getElem (by simp) fun i h1 h2=>?_
   simp[List.getD_eq_getElem?_getD,List.getElem?_eq_getElem h2]
  rw[h2]at h1;exact h1
 have hpl:p'.toList.length=its.length:=by have:=Mz.length_eq;rw[List.length_range]at this;exact this
 have O8:(p'.toList.map fun i=>ps.getD i (0,0,0)).Pairwise (fun x y=>kx x.2<=kx y.2):=by
  rw[List.pairwise_map,List.pairwise_iff_getElem];intro i j hi hj hij;have:=hup.le (Nat.le_of_lt hij) (by lia)
  have ga:∀ i (hi:i<p'.toList.length),p'.getD i 0=p'.toList[i]:=fun i hi=>by
   rw[Array.getD_eq_getD_getElem?,<-Array.getElem?_toList,List.getElem?_eq_getElem hi];rfl
  unfold Kr at this;rw[ga i hi,ga j hj]at this;exact this
 refine k h'' c _ _ EN O8 ?_ (Xi _ List.mem_cons_self).1 (fun m' hm'=>?_) RV
 ·have:∀ l:List Nat,(∀ i∈l,i<ps.length)->Vals ((l.map fun i=>ps.getD i (0,0,0)).map fun q=>V.ref q.1) (l.map fun i=>its.getD i Value.none):=fun l=>by
   induction l with
   | nil=>exact fun _=>.nil
   | cons i l ih =>
     intro h;refine .cons ?_ (ih fun j hj=>h j (List.mem_cons_of_mem _ hj))
     exact(at_ i (h i List.mem_cons_self)).1
  refine this _ fun i hi=>?_
  have:=List.mem_range.mp (Mz.mem_iff.mp hi)
  lia
 ·rw[ON hm' F.ns];exact Xh.ns
end
section
variable {X:Cx}
theorem JY(K:bK)(hK:X.K=K:=by rfl):fC X (.builtin "sorted") (fun xs H Q=>∃(p:Addr) (ps:List (Addr×Int×Int)),xs=[.ref p]/\aO K H p (ps.map fun q=>V.ref q.1)/\(∀ q∈ps,H q.1=some (.tup [.int q.2.1,.int q.2.2]))/\(∀ q∈ps,Ll q.2)/\ps.length<64/\
 ∀(l:Addr) (ps' : List (Addr×Int×Int)),H l=none->ps'.Perm ps->ps'.Pairwise (fun x y=>kx x.2<=kx y.2)->Q (.ref l) (upd H l (.lst (ps'.map fun q=>V.ref q.1)))):=by
 subst hK;intro pins s σ H xs us Q I r h;obtain⟨p,ps,rfl,hq,hp,hok,hn,q⟩:=h;obtain⟨u,rfl,rx⟩:=vals1 r;cases rx;obtain⟨its,rv,⟨o,n,ho,hc,hdt,hd⟩,hz⟩:=I.list hq;have hl:=rv.length;rw[List.length_map]at hl;have hsl:its.length<=sizeLine:=dl (Nat.ble_eq.mpr (by lia))
 refine Calls.call_function_entry kind_sorted plain_sorted entry_sorted (args_sorted1 _) ?_;unfold Builtin.«sorted»;refine wpAny_bind (m:=checkCount "sorted" 1 1 _) (wpAny_pure ?_);refine wpAny_bind (wpAny_collect_seq p (T:="list") (.inl rfl) ho hc hd (fun h1 hk=>?_) (by rw[List.size_toArray];exact hsl))
 have I1:=I.kept (t':=s.toks) hk;have hfr:H h1.objs.size=none:=I1.hok.fresh (Nat.le_refl _);refine wpAny_bind (wpAny_newList ?_ (by simpa using hsl))
 have BP:(h1.push (seqObj "list" its.toArray.toList.toArray 0)).get? h1.objs.size=some (seqObj "list" its.toArray.toList.toArray 0):=Heap.get?_push_size _ rfl;have e0:its.toArray.toList=its:=by simp
 rw[e0]at BP;have I2:Inv X pins σ (upd H h1.objs.size (.lst (ps.map fun q=>V.ref q.1))) { s with heap:=h1.push (seqObj "list" its.toArray 0)}:=by
  refine I1.laid (t':=s.toks) (fun b o hb=>?_) (Nat.le_refl _) ⟨?_,its,0,rv,BP⟩
  ·rw[Heap.get?_push_ne _ _ _ (Nat.ne_of_lt (Heap.lt_size hb))];exact hb
  ·rw[List.length_map,hl];exact hsl
 rw[e0];refine wpAny_bind (wpAny_holding (wpAny_call_entry slot_list_sort ⟨_,BP,rfl⟩ entry_list_sort (?_) (args_list_sort _)));have RW:∀ ps' : List (Addr×Int×Int),ps'.Perm ps->(ps'.map fun q=>V.ref q.1).length<=sizeLine:=fun ps' Mz=>by
  rw[List.length_map,Mz.length_eq,hl];exact hsl
 have kp:∀ b u,h1.get? b=some u->(h1.push (seqObj "list" its.toArray 0)).get? b=some u:=fun b u e=>by
  rw[Heap.get?_push_ne _ _ _ (Nat.ne_of_lt (Heap.lt_size e))];exact e
 by_cases h2:2<=ps.length
 ·refine AW I2 hfr BP rv hp hok h2 hn fun h' c ps' out EN O8 Z7 hget hns RX=>⟨_,rfl,wpAny_pure ⟨_,rfl,?_⟩⟩
  refine⟨.ref h1.objs.size,_,I1.RH (t':=s.toks) (o:=.lst (ps'.map fun q=>V.ref q.1)) (fun b u hb e=>RX b u hb (Nat.ne_of_lt (Heap.lt_size e)) (kp b u e)) (fun m hm=>hns m ?_) (Nat.le_refl _) ⟨RW _ EN,out,c,Z7,hget⟩,rfl,q _ ps' hfr EN O8⟩
  obtain⟨o',es,ep,e,z⟩:=hm;exact⟨o',es,ep,kp _ _ e,z⟩
 ·have few:ps.Pairwise (fun x y=>kx x.2<=kx y.2):=by
   match ps,h2 with
   | [],_=>exact .nil
   | [x],_=>exact List.pairwise_singleton _ _
   | _::_::_,h2=>exact absurd (by simp:2<=_) h2
  refine Jk BP (by lia) ⟨_,rfl,wpAny_pure ⟨_,rfl,?_⟩⟩
  obtain⟨e,he⟩:=sortedHeap_at (out:=its.toArray) BP;refine⟨.ref h1.objs.size,_,I1.laid (t':=s.toks) (o:=.lst (ps.map fun q=>V.ref q.1)) (fun b o hb=>?_) (Nat.le_refl _) ⟨RW ps (List.Perm.refl _),its,e,rv,he⟩,rfl,q _ ps hfr (List.Perm.refl _) few⟩
  have hlt:=Heap.lt_size hb;show(sortedHeap (h1.push (seqObj "list" its.toArray 0)) h1.objs.size its its.toArray).get? b=some o;rw[sortedHeap_old (Nat.ne_of_lt hlt) (by rw[size_push'];exact Nat.lt_succ_of_lt hlt)]
  exact kp b o hb
end
end L2
namespace RM
section
variable {N:Net}{L:Nat->Int}
theorem AX(q m m' : Nat):N.par q (m^^^m')=(N.par q m^^N.par q m'):=by
 have e:∀ a b:Nat,N.par a b=N.par b a:=fun a b=>bN fun k _=>Bool.and_comm _ _
 rw[e,m6,e m,e m']
theorem tN{f:Nat->Bool}:∀{n i:Nat},i<n->(∀ k,k<n->k≠i->f k=false)->bz f n=f i
 | 0,i,h,_=>absurd h (Nat.not_lt_zero _)
 | n+1,i,h,hz=>by
   show(bz f n^^f n)=f i
   by_cases e:i=n
   ·subst e;rw[gQ fun k hk=>hz k (by lia) (by lia),Bool.false_xor]
   ·rw[tN (show i<n by lia) fun k hk ne=>hz k (by lia) ne,hz n (by lia) (fun z=>e z.symm),Bool.xor_false]
theorem xX{f:Nat->Bool}:∀{n:Nat},bz f n=true->∃ i,i<n/\f i=true
 | 0,h=>by cases h
 | n+1,h=>by
   have h:(bz f n^^f n)=true:=h;cases hf:f n with
   | true=>exact⟨n,by lia,hf⟩
   | false =>
     rw[hf,Bool.xor_false]at h;obtain⟨i,h1,h2⟩:=xX h;exact⟨i,by lia,h2⟩
theorem ve(f:Nat->Bool):∀ n,bz f (n+1)=(f 0^^bz (fun i=>f (i+1)) n)
 | 0=>by
   show(false^^f 0)=(f 0^^false);rw[Bool.false_xor,Bool.xor_false]
 | n+1=>by
   show(bz f (n+1)^^f (n+1))=(f 0^^(bz (fun i=>f (i+1)) n^^f (n+1)))
   rw[ve f n,Bool.xor_assoc]
theorem pQ(m:Nat):∀(B:List Nat) (z:Nat),N.par (comb B z) m=bz (fun i=>z.testBit i&&N.par (B.getD i 0) m) B.length
 | [],z=>kj m
 | b::B,z=>by
   show N.par ((if z.testBit 0=true then b else 0)^^^comb B (z/2)) m=bz _ (B.length+1)
   rw[m6,pQ m B (z/2),ve];have e1:N.par (if z.testBit 0=true then b else 0) m=(z.testBit 0&&N.par b m):=by
    cases z.testBit 0 with
    | true=>simp
    | false=>simp[kj]
   rw[e1];have e2:bz (fun i=>(z/2).testBit i&&N.par (B.getD i 0) m) B.length=bz (fun i=>z.testBit (i+1)&&N.par ((b::B).getD (i+1) 0) m) B.length:=bN fun i _=>by
    rw[Nat.testBit_succ];rfl
   rw[e2];rfl
def len(N:Net)(L:Nat->Int)(r:Nat):Int:=lsum L (fun k=>r.testBit k) N.n
structure DP(N:Net)(L:Nat->Int)(bs us:List Nat):Prop where
 lens:bs.length=us.length
 ring:∀ b∈bs,N.Ring b/\b<2^N.n
 own:∀(i b w:Nat),bs[i]?=some b->us[i]?=some w->N.par b w=true/\∀ r,N.Ring r->r<2^N.n->N.par r w=true->len N L b<=len N L r
 Lh:∀(i j b w:Nat),i<j->bs[i]?=some b->us[j]?=some w->N.par b w=false
theorem DP.start:DP N L [] []:=⟨rfl,fun b h=>(List.not_mem_nil h).elim,fun i b w h=>(by simp at h),fun i j b w _ h=>(by simp at h)⟩
theorem DP.snoc{bs us:List Nat}{b w:Nat}(h:DP N L bs us)(hr:N.Ring b)(hl:b<2^N.n)(ho:N.par b w=true)(hm:∀ r,N.Ring r->r<2^N.n->N.par r w=true->len N L b<=len N L r)(he:∀ b'∈bs,N.par b' w=false):DP N L (bs++[b]) (us++[w]):=by
 have at_:∀{l:List Nat} {x i y:Nat},(l++[x])[i]?=some y->(i<l.length/\l[i]?=some y)\/(i=l.length/\y=x):=fun {l x i y} e=>by
  by_cases hi:i<l.length
  ·rw[List.getElem?_append_left hi]at e;exact .inl ⟨hi,e⟩
  ·have h2:=(List.getElem?_eq_some_iff.mp e).1;rw[List.length_append,List.length_singleton]at h2;have h3:i=l.length:=by lia
   rw[List.getElem?_append_right (by lia),h3,Nat.sub_self]at e
   exact .inr ⟨h3,(Option.some.inj e).symm⟩
 refine⟨by rw[List.length_append,List.length_append,h.lens];rfl,fun b' hb=>?_,fun i b' w' h1 h2=>?_,fun i j b' w' hij h1 h2=>?_⟩
 ·rcases List.mem_append.mp hb with z|z
  ·exact h.ring b' z
  ·rw[List.mem_singleton.mp z];exact⟨hr,hl⟩
 ·have hl:=h.lens;rcases at_ h1 with⟨l1,e1⟩|⟨l1,e1⟩<;>rcases at_ h2 with⟨l2,e2⟩|⟨l2,e2⟩
  ·exact h.own i b' w' e1 e2
  ·lia
  ·lia
  ·rw[e1,e2];exact⟨ho,hm⟩
 ·have hl:=h.lens;rcases at_ h1 with⟨l1,e1⟩|⟨l1,e1⟩<;>rcases at_ h2 with⟨l2,e2⟩|⟨l2,e2⟩
  ·exact h.Lh i j b' w' hij e1 e2
  ·rw[e2];exact he b' (List.mem_of_getElem? e1)
  ·lia
  ·lia
section
variable {bs us:List Nat}
theorem DP.at(h:DP N L bs us){i:Nat}(hi:i<bs.length):∃ w,us[i]?=some w/\bs[i]?=some (bs.getD i 0):=by
 have h1:i<us.length:=by rw[<-h.lens];exact hi
 exact⟨us[i],List.getElem?_eq_getElem h1,by rw[List.getD_eq_getElem?_getD,List.getElem?_eq_getElem hi];rfl⟩
theorem yO{f:Nat->Prop}:∀{n i:Nat},i<n->f i->∃ l,l<n/\f l/\∀ j,l<j->j<n->¬ f j
 | 0,i,h,_=>absurd h (Nat.not_lt_zero _)
 | n+1,i,h,hf=>by
   by_cases hn:f n
   ·exact⟨n,by lia,hn,fun j h1 h2=>by lia⟩
   ·have hi:i<n:=by
     rcases Nat.lt_or_ge i n with z|z
     ·exact z
     ·have e:i=n:=by lia
      rw[e]at hf;exact absurd hf hn
    obtain⟨l,h1,h2,h3⟩:=yO hi hf;refine⟨l,by lia,h2,fun j h4 h5=>?_⟩
    by_cases e:j=n
    ·rw[e];exact hn
    ·exact h3 j h4 (by lia)
theorem DP.parts(h:DP N L bs us){z:Nat}(hr:N.Ring (comb bs z))(hl:comb bs z<2^N.n):∀ i,i<bs.length->z.testBit i=true->len N L (bs.getD i 0)<=len N L (comb bs z):=by
 intro i hi hz;apply Classical.byContradiction;intro hc;obtain⟨l,h1,⟨h2,h3⟩,h4⟩:=yO (f:=fun i=>z.testBit i=true/\¬ len N L (bs.getD i 0)<=len N L (comb bs z)) hi ⟨hz,hc⟩
 obtain⟨w,hw,hb⟩:=h.at h1;obtain⟨o1,o2⟩:=h.own l _ w hb hw;have hp:=pQ (N:=N) w bs z
 by_cases hx:∃ j,l<j/\j<bs.length/\z.testBit j=true/\N.par (bs.getD j 0) w=true
 ·obtain⟨j,j1,j2,j3,j4⟩:=hx;obtain⟨_,_,RY⟩:=h.at j2;obtain⟨rj,lj⟩:=h.ring _ (List.mem_of_getElem? RY);have k1:=o2 _ rj lj j4;have k2:len N L (bs.getD j 0)<=len N L (comb bs z):=Classical.byContradiction fun hn=>h4 j j1 j2 ⟨j3,hn⟩
  lia
 ·rw[tN (i:=l) h1 (fun j hj ne=>?_),h2,o1]at hp
  ·exact h3 (o2 _ hr hl hp)
  ·cases Vw:z.testBit j with
   | false=>rfl
   | true =>
     rcases Nat.lt_or_ge j l with hlt|hge
     ·obtain⟨_,_,RY⟩:=h.at hj;rw[h.Lh j l _ w hlt RY hw];rfl
     ·cases Z8:N.par (bs.getD j 0) w with
      | false=>rfl
      | true=>exact absurd ⟨j,by lia,hj,Vw,Z8⟩ hx
theorem DP.ind(h:DP N L bs us):BR bs:=by
 intro z hz hc;apply Classical.byContradiction;intro hne;obtain⟨i,hi⟩:=Nat.exists_testBit_of_ne_zero hne;have Z9:=my hz hi;obtain⟨l,h1,h2,h4⟩:=yO (f:=fun i=>z.testBit i=true) Z9 hi
 obtain⟨w,hw,hb⟩:=h.at h1;obtain⟨o1,_⟩:=h.own l _ w hb hw;have hp:=pQ (N:=N) w bs z;rw[hc,kj,tN (i:=l) h1 (fun j hj ne=>?_),h2,o1]at hp
 ·cases hp
 ·cases Vw:z.testBit j with
  | false=>rfl
  | true =>
    have hlt:j<l:=by
     rcases Nat.lt_or_ge j l with z|z
     ·exact z
     ·exact absurd Vw (h4 j (by lia) hj)
    obtain⟨_,_,RY⟩:=h.at hj;rw[h.Lh j l _ w hlt RY hw];rfl
end
theorem Base.span{rs:List Nat}(h:Base N rs){e:Nat}(he:N.fk e)(hl:e<2^N.n):∃ z,z<2^rs.length/\comb rs z=e:=by
 apply yG;apply Classical.byContradiction;intro hn;have h1:BR (rs++[e]):=pO.mpr ⟨h.ind,hn⟩;have h2:=OQ (N:=N) h1 (fun b hb=>by
  rcases List.mem_append.mp hb with z|z
  ·exact⟨(h.ring b z).1.2.1,(h.ring b z).2⟩
  ·rw[List.mem_singleton.mp z];exact⟨he,hl⟩)
 rw[List.length_append,List.length_singleton,h.len]at h2
 lia
def LB(N:Net)(L:Nat->Int)(rs:List Nat):Prop:=Base N rs/\∀ r m,N.Ring r->r<2^N.n->N.par r m=true->∃ b∈rs,N.par b m=true/\len N L b<=len N L r
theorem LB.perm{rs rs' : List Nat}(h:LB N L rs)(p:rs'.Perm rs):LB N L rs':=⟨h.1.perm p,fun r m h1 h2 h3=>let⟨b,hb,q⟩:=h.2 r m h1 h2 h3;⟨b,p.mem_iff.mpr hb,q⟩⟩
theorem DP.least{bs us:List Nat}(h:DP N L bs us)(hl:bs.length=N.aU.length):LB N L bs:=by
 have bb:Base N bs:=⟨hl,h.ring,h.ind⟩;refine⟨bb,fun r m hr hlt ho=>?_⟩
 obtain⟨z,hz,rfl⟩:=bb.span hr.2.1 hlt;rw[pQ]at ho;obtain⟨i,hi,h1⟩:=xX ho;have h1:=Bool.and_eq_true_iff.mp h1;obtain⟨_,_,hb⟩:=h.at hi;exact⟨_,List.mem_of_getElem? hb,h1.2,h.parts hr hlt i hi h1.1⟩
structure Wt(N:Net)(bs ws cs:List Nat):Prop where
 lens:ws.length=cs.length
 sum:bs.length+ws.length=N.aU.length
 ch:∀ c∈cs,c<N.n/\N.l9 c=false
 lt:∀ w∈ws,w<2^N.n
 bits:∀ w∈ws,∀ k,w.testBit k=true->N.l9 k=false
 own:∀(i j w c:Nat),ws[i]?=some w->cs[j]?=some c->w.testBit c=decide (i=j)
 gU:∀ w∈ws,∀ b∈bs,N.par b w=false
theorem Wt.odd{bs ws cs:List Nat}{w:Nat}(h:Wt N bs (w::ws) cs):∃ r,N.Ring r/\r<2^N.n/\N.par r w=true:=by
 have hl:=h.lens
 match cs,hl,h with
 | c::cs,hl,h =>
   obtain⟨c1,c2⟩:=h.ch c List.mem_cons_self;refine⟨N.ring c,xM c1 c2,tD c1,?_⟩;have e:N.par (N.ring c) w=((N.ring c).testBit c&&w.testBit c):=tN (f:=fun k=>(N.ring c).testBit k&&w.testBit k) c1 fun k hk ne=>by
    cases hw:w.testBit k with
    | false=>exact Bool.and_false _
    | true =>
      have:=nZ c2 (h.bits w List.mem_cons_self k hw);rw[this,decide_eq_false (fun z=>ne z.symm)]
      rfl
   rw[e,uw c2,h.own 0 0 w c rfl rfl];rfl
theorem Wt.next{bs ws cs:List Nat}{w b:Nat}(h:Wt N bs (w::ws) cs)(ho:N.par b w=true):∃ c cs',cs=c::cs'/\Wt N (bs++[b]) (ws.map fun v=>if N.par b v=true then v^^^w else v) cs':=by
 have hl:=h.lens
 match cs,hl,h with
 | c::cs,hl,h =>
   refine⟨c,cs,rfl,?_⟩;have hw:=h.lt w List.mem_cons_self;have hv:∀ v∈ws,v∈w::ws:=fun v z=>List.mem_cons_of_mem _ z
   refine⟨by rw[List.length_map];simpa using hl,?_,fun d hd=>h.ch d (List.mem_cons_of_mem _ hd),fun v' Jj=>?_,fun v' Jj k hk=>?_,fun i j v' d h1 h2=>?_,fun v' Jj b' hb'=>?_⟩
   ·have:=h.sum;rw[List.length_cons]at this;rw[List.length_append,List.length_singleton,List.length_map]
    lia
   ·obtain⟨v,m,rfl⟩:=List.mem_map.mp Jj
    split
    ·exact Nat.xor_lt_two_pow (h.lt v (hv v m)) hw
    ·exact h.lt v (hv v m)
   ·obtain⟨v,m,rfl⟩:=List.mem_map.mp Jj
    split at hk
    ·rw[Nat.testBit_xor]at hk;cases h1:v.testBit k with
     | true=>exact h.bits v (hv v m) k h1
     | false =>
       rw[h1,Bool.false_xor]at hk;exact h.bits w List.mem_cons_self k hk
    ·exact h.bits v (hv v m) k hk
   ·rw[List.getElem?_map]at h1;obtain⟨v,M4,rfl⟩:=Option.map_eq_some_iff.mp h1;have e1:=h.own (i+1) (j+1) v d (by simpa using M4) (by simpa using h2)
    have e2:=h.own 0 (j+1) w d rfl (by simpa using h2)
    have e3:decide (i+1=j+1)=decide (i=j):=decide_eq_decide.mpr (by lia)
    rw[e3]at e1
    split
    ·rw[Nat.testBit_xor,e1,e2];simp
    ·exact e1
   ·obtain⟨v,m,rfl⟩:=List.mem_map.mp Jj;rcases List.mem_append.mp hb' with z|z
    ·have z1:=h.gU v (hv v m) b' z;have z2:=h.gU w List.mem_cons_self b' z
     split
     ·rw[AX,z1,z2];rfl
     ·exact z1
    ·rw[List.mem_singleton.mp z]
     split
     ·rename_i hp
      rw[AX,hp,ho];rfl
     ·rename_i hp
      cases hq:N.par b v with
      | false=>rfl
      | true=>exact absurd hq hp
theorem Wt.start(nd:N.aU.Nodup):Wt N [] (N.aU.map fun c=>2^c) N.aU:=by
 refine⟨List.length_map ..,by rw[List.length_map];simp,fun c hc=>dF.mp hc,fun w hw=>?_,fun w hw k hk=>?_,fun i j w c h1 h2=>?_,fun w _ b hb=>by cases hb⟩
 ·obtain⟨c,hc,rfl⟩:=List.mem_map.mp hw;exact Nat.pow_lt_pow_right (by decide) (dF.mp hc).1
 ·obtain⟨c,hc,rfl⟩:=List.mem_map.mp hw;rw[Nat.testBit_two_pow]at hk;rw[<-of_decide_eq_true hk];exact(dF.mp hc).2
 ·rw[List.getElem?_map]at h1;obtain⟨d,hd,rfl⟩:=Option.map_eq_some_iff.mp h1;rw[Nat.testBit_two_pow];refine decide_eq_decide.mpr ⟨fun z=>?_,fun z=>?_⟩
  ·subst z;obtain⟨a1,a2⟩:=List.getElem?_eq_some_iff.mp hd;obtain⟨b1,b2⟩:=List.getElem?_eq_some_iff.mp h2;exact(List.getElem_inj nd).mp (a2.trans b2.symm)
  ·subst z;rw[hd]at h2;exact Option.some.inj h2
inductive CS(N:Net)(L:Nat->Int)(O9:List Nat):List Nat->List Nat->Prop
 | start:CS N L O9 [] O9
 | step {bs ws:List Nat} {w e:Nat} {z:Int} (h:CS N L O9 bs (w::ws)) (lo:Lo N L w z e):CS N L O9 (bs++[e]) (ws.map fun v=>if N.par e v=true then v^^^w else v)
theorem CS.uniq(hL:∀ k,k<N.n->0<L k){O9 bs ws:List Nat}(h:CS N L O9 bs ws):∀{bs' CT:List Nat},CS N L O9 bs' CT->bs.length=bs'.length->bs=bs'/\ws=CT:=by
 induction h with
 | start =>
   intro bs' CT h' hl;cases h' with
   | start=>exact⟨rfl,rfl⟩
   | step h lo=>rw[List.length_append]at hl;simp at hl
 | step h lo ih =>
   intro bs' CT h' hl;cases h' with
   | start=>rw[List.length_append]at hl;simp at hl
   | step h2 lo2 =>
     rw[List.length_append,List.length_append]at hl;obtain⟨e1,e2⟩:=ih h2 (by simpa using hl)
     obtain⟨rfl,rfl⟩:=List.cons.inj e2;obtain⟨_,rfl⟩:=lo.uniq hL lo2;rw[e1];exact⟨rfl,rfl⟩
end
def fq(B:List Nat):Nat->List Row3
 | 0=>[]
 | i+1=>if(cO (fq B i) (B.getD i 0) 0).1=0 then fq B i else vZ (fq B i) ((cO (fq B i) (B.getD i 0) 0).1.log2,(cO (fq B i) (B.getD i 0) 0).1,(cO (fq B i) (B.getD i 0) 0).2^^^2^i)
theorem CU{B:List Nat}{i b:Nat}{rows:List Row3}(e:rows=fq B i)(hb:B[i]?=some b)(h:(cO rows b 0).1≠0):vZ rows ((cO rows b 0).1.log2,(cO rows b 0).1,(cO rows b 0).2^^^2^i)=fq B (i+1):=by
 subst e;have eb:B.getD i 0=b:=by rw[List.getD_eq_getElem?_getD,hb];rfl
 show _=if _ then _ else _
 rw[eb,if_neg h]
theorem AY{B:List Nat}{i b:Nat}{rows:List Row3}(e:rows=fq B i)(hb:B[i]?=some b)(h:(cO rows b 0).1=0):rows=fq B (i+1):=by
 subst e;have eb:B.getD i 0=b:=by rw[List.getD_eq_getElem?_getD,hb];rfl
 show _=if _ then _ else _
 rw[eb,if_pos h]
end RM
namespace L2
open PySem
theorem c5{lo:Int}{n:Nat}{g:TG}{tb:TS}{D:Ends}{σ:St}{H:Hp}(Pv:Nat->St->Hp->Prop)(h0:Pv 0 σ H)
 (hs:∀ i,let D' : Ends:={ D with nx:=Pv (i+1),ct:=Pv (i+1),bk:=D.nx};∀ σ H,i<n->Pv i σ H->g (.int (lo+i)) σ H fun σ2 H2=>tb D' σ2 H2) (hd:∀ σ H,Pv n σ H->D.nx σ H) :
 ∃ W:Nat->Nat->St->Hp->Prop,(∃ m,W 0 m σ H)/\∀ i m σ H,W i m σ H->
   ((Lb lo n).stop i H/\D.nx σ H)\/((Lb lo n).go i H/\∃ N:St->Hp->Prop,(∀ σ' H',N σ' H'->∃ m',m'<m/\W (i+1) m' σ' H')/\∀ x H',(Lb lo n).HJ i H x H'->g x σ H' fun σ2 H2=>tb { D with nx:=N,ct:=N,bk:=D.nx} σ2 H2) :=
 Fd Pv h0 (fun i σ H hi p=>hs i σ H hi p) hd
theorem fZ{K:bK}{a:Addr}{xs:List V}{g:TG}{tb:TS}{D:Ends}{σ:St}{H:Hp}(Pv:Nat->St->Hp->Prop)(h0:Pv 0 σ H)(hl:∀ i σ H,i<=xs.length->Pv i σ H->aO K H a xs)
 (hs:∀ i x,let D' : Ends:={ D with nx:=Pv (i+1),ct:=Pv (i+1),bk:=D.nx};∀ σ H,xs[i]?=some x->Pv i σ H->g x σ H fun σ2 H2=>tb D' σ2 H2) (hd:∀ σ H,Pv xs.length σ H->D.nx σ H) :
 ∃ W:Nat->Nat->St->Hp->Prop,(∃ m,W 0 m σ H)/\∀ i m σ H,W i m σ H->
   ((Lw K a).stop i H/\D.nx σ H)\/((Lw K a).go i H/\∃ N:St->Hp->Prop,(∀ σ' H',N σ' H'->∃ m',m'<m/\W (i+1) m' σ' H')/\∀ x H',(Lw K a).HJ i H x H'->g x σ H' fun σ2 H2=>tb { D with nx:=N,ct:=N,bk:=D.nx} σ2 H2) :=
 tV Pv h0 hl (fun i x σ H hi p=>hs i x σ H hi p) hd
theorem JZ{X:Cx}{e:Expr}{T:String}{r:V->List V->Hp->VK->Prop}{to:TE}{t:TA}(K:bK)(p:PE X e (UM X.K T r to t))(h:X.K=K:=by rfl):PE X e (UM K T r to t):=by subst h;exact p
theorem bX{K:bK}{H:Hp}{a:Addr}{xs:List V}{k:Int}{v:V}{R:V->Prop}(hs:aP K H a xs)(ha:Ht xs k=some v)(q:R v):∃ p ys k' w,V.ref a = .ref p/\V.int k = .int k'/\aP K H p ys/\Ht ys k' = some w/\R w:=⟨a,xs,k,v,rfl,rfl,hs,ha,q⟩
theorem jP{K:bK}{H:Hp}{a:Addr}{xs:List V}{k:Int}{v:V}{R:V->Prop}(hs:aO K H a xs)(ha:Ht xs k=some v)(q:R v):∃ p ys k' w,V.ref a = .ref p/\V.int k = .int k'/\aO K H p ys/\Ht ys k' = some w/\R w:=⟨a,xs,k,v,rfl,rfl,hs,ha,q⟩
theorem b7{i j:Int}{R:Int->Int->Prop}(h:R i j):∃ i' j',V.int i = .int i'/\V.int j = .int j'/\R i' j':=⟨i,j,rfl,rfl,h⟩
theorem lJ{K:bK}{H:Hp}{a:Addr}{xs:List V}{E:Addr->Prop}{R:List V->Prop}(e:E a)(h:aO K H a xs\/aP K H a xs)(q:R xs):∃ p ys,E p/\(aO K H p ys\/aP K H p ys)/\R ys:=⟨a,xs,e,h,q⟩
theorem ao{α:Type}{A R:α->Prop}{x:α}(h:A x)(r:R x):∃ x,A x/\R x:=⟨x,h,r⟩
open PySem PySem.Spec PyProof.Rows
section
variable {K:bK}{mg:lT}{x:Str}{st:Stmt}{f c0 p0:Addr}{fd:FuncData}{ps:List Str}{h:Heap}
structure Dc(K:bK)(mg:lT)(x:Str)(f:Addr)(fd:FuncData)(ps:List Str):Prop where
 m:mg x=some (.ref f)
 k:PySem.W.keepIn K (.ref f)=true
 b:Binds K fd ps []
structure Dk(K:bK)(x:Str)(st:Stmt)(f:Addr)(fd:FuncData):Prop where
 F:LN K x x st f fd
 n:PySem.W.nsIn K mainGlobals x=some (some (.ref f))
structure Pa(K:bK)(x:Str)(st:Stmt)(f:Addr)(fd:FuncData)(c0 p0:Addr):Prop where
 F:CM K x x st f fd c0 p0
 n:PySem.W.nsIn K mainGlobals x=some (some (.ref f))
structure Dn(K:bK)(mg:lT)(x:Str)(st:Stmt)(f:Addr)(fd:FuncData)(ps:List Str):Prop where
 F:LN K x x st f fd
 c:Dc K mg x f fd ps
structure Nr(K:bK)(mg:lT)(x:Str)(st:Stmt)(f:Addr)(fd:FuncData)(ps:List Str)(c0 p0:Addr):Prop where
 F:CM K x x st f fd c0 p0
 c:Dc K mg x f fd ps
theorem dk{oc:Value}{od an:Option Addr}{osl:Array (Option Value)}{kV doc pm cdv ct:Value}(a:PySem.W.nsIn K mainGlobals x=some (some (.ref f)))
 (l:K.lookup f=some ⟨oc,od,.func (PySem.W.fnOf x x (dY st) (cy st) (aj st) .none kV doc pm an cdv ct),osl⟩) (c:PySem.W.codeIn K cdv x=true) (k:PySem.W.keepIn K (.ref f)=true) :
 Dk K x st f (PySem.W.fnOf x x (dY st) (cy st) (aj st) .none kV doc pm an cdv ct):=⟨N9 l c k,a⟩
theorem dkL{oc:Value}{od an:Option Addr}{osl:Array (Option Value)}{kV doc pm ct:Value}(a:PySem.W.nsIn K mainGlobals x=some (some (.ref f)))
 (l:K.lookup f=some ⟨oc,od,.func (PySem.W.fnOf x x (dY st) (cy st) (aj st) .none kV doc pm an (.ref c0) ct),osl⟩) (c:PySem.W.codeIn K (.ref c0) x=true) (k:PySem.W.keepIn K (.ref f)=true) (d:PySem.W.codeHdIn K c0 p0=true) :
 Pa K x st f (PySem.W.fnOf x x (dY st) (cy st) (aj st) .none kV doc pm an (.ref c0) ct) c0 p0:=⟨Mw l c k d,a⟩
structure Ng(K:bK)(x:Str):Prop where
 n:PySem.W.nsIn K mainGlobals x=some none
def Bn(x:Str)(st:Stmt)(ps:List Str)(us:List Value):Prop:=∀(kV doc pm:Value) (an:Option Addr) (cdv ct:Value),bindArgs (PySem.W.fnOf x x (dY st) (cy st) (aj st) .none kV doc pm an cdv ct) ⟨us,[]⟩=pure (ps.zip us)
theorem Nt(h:∀ us:List Value,us.length=ps.length->Bn x st ps us)(kV doc pm:Value)(an:Option Addr)(cdv ct:Value)(us:List Value)(hl:us.length=ps.length):
 bindArgs (PySem.W.fnOf x x (dY st) (cy st) (aj st) .none kV doc pm an cdv ct) ⟨us,[]⟩=pure (ps.zip us):=h us hl kV doc pm an cdv ct
theorem Dk.dn(X:K.In h)(G:h.Ns mainGlobals mg)(D:Dk K x st f fd)(hb:∀ us:List Value,us.length=ps.length->Bn x st ps us):Dn K mg x st f fd ps:=⟨D.F,PySem.W.mg_of X G D.n,D.F.kp,D.F.binds (Nt hb)⟩
theorem Pa.dn(X:K.In h)(G:h.Ns mainGlobals mg)(D:Pa K x st f fd c0 p0)(hb:∀ us:List Value,us.length=ps.length->Bn x st ps us):Nr K mg x st f fd ps c0 p0:=⟨D.F,PySem.W.mg_of X G D.n,D.F.kp,D.F.binds (Nt hb)⟩
theorem bn1{y:Str}(h:∀ a,Bn x st [y] [a])(us:List Value)(hl:us.length=[y].length):Bn x st [y] us:=by obtain⟨_,rfl⟩:=U3 us hl;exact h _
theorem Xj{y z:Str}(h:∀ a b,Bn x st [y,z] [a,b])(us:List Value)(hl:us.length=[y,z].length):Bn x st [y,z] us:=by obtain⟨_,_,rfl⟩:=U4 us hl;exact h _ _
theorem Xk{y z u:Str}(h:∀ a b c,Bn x st [y,z,u] [a,b,c])(us:List Value)(hl:us.length=[y,z,u].length):Bn x st [y,z,u] us:=by obtain⟨_,_,_,rfl⟩:=U5 us hl;exact h _ _ _
theorem bn4{y z u v:Str}(h:∀ a b c d,Bn x st [y,z,u,v] [a,b,c,d])(us:List Value)(hl:us.length=[y,z,u,v].length):Bn x st [y,z,u,v] us:=by obtain⟨_,_,_,_,rfl⟩:=U6 us hl;exact h _ _ _ _
theorem AZ{y:Str}(X:K.In h)(G:h.Ns mainGlobals mg)(D:Dk K x st f fd)(e:∀ a,Bn x st [y] [a]:=by intros;exact fun _ _ _ _ _ _=>rfl):Dn K mg x st f fd [y]:=D.dn X G (bn1 e)
theorem lS{y z:Str}(X:K.In h)(G:h.Ns mainGlobals mg)(D:Dk K x st f fd)(e:∀ a b,Bn x st [y,z] [a,b]:=by intros;exact fun _ _ _ _ _ _=>rfl):Dn K mg x st f fd [y,z]:=D.dn X G (Xj e)
theorem Qi{y z u:Str}(X:K.In h)(G:h.Ns mainGlobals mg)(D:Dk K x st f fd)(e:∀ a b c,Bn x st [y,z,u] [a,b,c]:=by intros;exact fun _ _ _ _ _ _=>rfl):Dn K mg x st f fd [y,z,u]:=D.dn X G (Xk e)
theorem dn4{y z u v:Str}(X:K.In h)(G:h.Ns mainGlobals mg)(D:Dk K x st f fd)(e:∀ a b c d,Bn x st [y,z,u,v] [a,b,c,d]:=by intros;exact fun _ _ _ _ _ _=>rfl):Dn K mg x st f fd [y,z,u,v]:=D.dn X G (bn4 e)
theorem dl2{y z:Str}(X:K.In h)(G:h.Ns mainGlobals mg)(D:Pa K x st f fd c0 p0)(e:∀ a b,Bn x st [y,z] [a,b]:=by intros;exact fun _ _ _ _ _ _=>rfl):Nr K mg x st f fd [y,z] c0 p0:=D.dn X G (Xj e)
theorem dl3{y z u:Str}(X:K.In h)(G:h.Ns mainGlobals mg)(D:Pa K x st f fd c0 p0)(e:∀ a b c,Bn x st [y,z,u] [a,b,c]:=by intros;exact fun _ _ _ _ _ _=>rfl):Nr K mg x st f fd [y,z,u] c0 p0:=D.dn X G (Xk e)
theorem Dn.ok{P:Program}{w:World}{base:Heap}{N:List Str}{k:Nat}{sp:Sp}(D:Dn K mg x st f fd ps)(S:aD N ps (aj st))
 (hbody:∀(cdv:Value) (A:Around) (outer:List Env) (s:Shared) (H:Hp) (vs:List V) (Q:VK) (E:XK),fh k (A.deeper (envOfC x (aj st) s.heap.objs.size f cdv))->sp vs H Q E->
  ∃ t,wQ (sH Eg P w K mg base N x (aj st) f cdv A outer s H E).BQ (cy st) t/\t { nx:=fun _ H'=>Q .eM H',rt:=Q} (start N vs) H)
 (len:∀ vs H Q E,sp vs H Q E->vs.length=ps.length:=by
  intro vs H Q E h
  first
  | (obtain⟨_,rfl,_⟩:=h;rfl)
  | (obtain⟨_,_,rfl,_⟩:=h;rfl)
  | (obtain⟨_,_,_,rfl,_⟩:=h;rfl)
  | (obtain⟨_,_,_,_,rfl,_⟩:=h;rfl)
  | (obtain⟨_,_,_,_,_,rfl,_⟩:=h;rfl)
  | (obtain⟨_,_,_,_,_,_,rfl,_⟩:=h;rfl)
  | (obtain⟨_,_,_,_,_,_,_,rfl,_⟩:=h;rfl)
  | (obtain⟨_,_,_,_,_,_,_,_,rfl,_⟩:=h;rfl)
  | (obtain⟨_,_,_,_,_,_,_,_,_,rfl,_⟩:=h;rfl)):lX P w K mg base Eg (k+1) f fd ps sp:=D.F.ok S len hbody
theorem Nr.ok{P:Program}{w:World}{base:Heap}{N:List Str}{k:Nat}{sp:Sp}(D:Nr K mg x st f fd ps c0 p0)(S:aD N ps (aj st))
 (hbody:∀(A:Around) (outer:List Env) (s:Shared) (H:Hp) (vs:List V) (Q:VK) (E:XK),fh k (A.deeper (envOfC x (aj st) s.heap.objs.size f (.ref c0)))->sp vs H Q E->
  ∃ t,wQ (sH Eg P w K mg base N x (aj st) f (.ref c0) A outer s H E).BQ (cy st) t/\t { nx:=fun _ H'=>Q .eM H',rt:=Q} (start N vs) H)
 (len:∀ vs H Q E,sp vs H Q E->vs.length=ps.length:=by
  intro vs H Q E h
  first
  | (obtain⟨_,rfl,_⟩:=h;rfl)
  | (obtain⟨_,_,rfl,_⟩:=h;rfl)
  | (obtain⟨_,_,_,rfl,_⟩:=h;rfl)
  | (obtain⟨_,_,_,_,rfl,_⟩:=h;rfl)
  | (obtain⟨_,_,_,_,_,rfl,_⟩:=h;rfl)
  | (obtain⟨_,_,_,_,_,_,rfl,_⟩:=h;rfl)
  | (obtain⟨_,_,_,_,_,_,_,rfl,_⟩:=h;rfl)
  | (obtain⟨_,_,_,_,_,_,_,_,rfl,_⟩:=h;rfl)
  | (obtain⟨_,_,_,_,_,_,_,_,_,rfl,_⟩:=h;rfl)):lX P w K mg base Eg (k+1) f fd ps sp:=D.F.ok S len hbody
theorem Dn.Ft{P:Program}{w:World}{base:Heap}{N:List Str}{k:Nat}{sp:Sp}(D:Dn K mg x st f fd ps)(S:aD N ps (aj st))
 (hbody:∀(cdv:Value) (A:Around) (outer:List Env) (s:Shared) (H:Hp) (vs:List V) (Q:VK) (E:XK),fh k (A.deeper (envOfC x (aj st) s.heap.objs.size f cdv))->sp vs H Q E->
  ∃ t,wQ (sH (Ip P w) P w K mg base N x (aj st) f cdv A outer s H E) (cy st) t/\t { nx:=fun _ H'=>Q .eM H',rt:=Q} (start N vs) H)
 (len:∀ vs H Q E,sp vs H Q E->vs.length=ps.length:=by
  intro vs H Q E h
  first
  | (obtain⟨_,rfl,_⟩:=h;rfl)
  | (obtain⟨_,_,rfl,_⟩:=h;rfl)
  | (obtain⟨_,_,_,rfl,_⟩:=h;rfl)
  | (obtain⟨_,_,_,_,rfl,_⟩:=h;rfl)
  | (obtain⟨_,_,_,_,_,rfl,_⟩:=h;rfl)
  | (obtain⟨_,_,_,_,_,_,rfl,_⟩:=h;rfl)
  | (obtain⟨_,_,_,_,_,_,_,rfl,_⟩:=h;rfl)
  | (obtain⟨_,_,_,_,_,_,_,_,rfl,_⟩:=h;rfl)
  | (obtain⟨_,_,_,_,_,_,_,_,_,rfl,_⟩:=h;rfl)):lX P w K mg base (Ip P w) (k+1) f fd ps sp:=D.F.Ft S len hbody
theorem Pb{y:Str}(D:Dk K x st f fd)(e:∀ a,Bn x st [y] [a]:=by intros;exact fun _ _ _ _ _ _=>rfl)(s:Shared)(v:Value):BindsTo s fd ⟨[v],[]⟩ [(y,v)]:=by
 obtain⟨oc,od,kV,doc,pm,an,cdv,ct,osl,rfl,lk,hcd⟩:=D.F.ex;exact .of_eq (e v kV doc pm an cdv ct)
end
section
variable {X:Cx}
theorem aK{CX:Hs}{k r:Nat}{f:Addr}{fd:FuncData}{ps:List Str}{sp:Sp}{x:Str}{E:XK}{e:Expr}{es:List Expr}{t:TA}{p pos:Pos}
 (F:lX X.prog X.w X.K X.mg X.base CX k f fd ps sp) (hr:fh r X.A) (D:Dc X.K X.mg x f fd ps) (hx:Passes CX X E) (ha:PA X (e::es) t) (hk:k<=r:=by decide) (hg:Gl X x:=by rfl)
 (hdb:(x==("__debug__":Str))=false:=by decide) (he:starEach (e::es) X.env=(false,eval e X.env)::starEach es X.env:=by rfl) (hpl:(backTo pos (starEach es X.env)).any (·.1)=false:=by rfl) :
 PE X (.Call (.Name x p) (e::es) [] pos) (M0 sp [] E t):=LC F (hr.mono hk) hg D.m D.k D.b .nil hx ha hdb he hpl
theorem aG{a b:Expr}{ta tb:TE}{pos:Pos}{r:R2}(hr:P9 X r)(ha:PE X a ta)(hb:PE X b tb)(hs:Ef b:=by exact fun _ _=>rfl):PE X (.Subscript a b pos) (QV r ta tb):=Q2 hr ha hb hs
theorem aX{x:Str}{pos:Pos}(i:Nat)(hN:X.N.Nodup)(hi:X.N[i]?=some x:=by exact rfl)(hx:Loc X.env.scope x:=by exact Or.inl rfl)(hf:X.fn x=true\/X.env.scope.names.lookup x=some .local:=by first | exact .inl rfl | exact .inr rfl | assumption):PG X (.Name x pos) (HH i):=oX hN hi hx hf
end
end L2
set_option maxHeartbeats 4000000
namespace K28
open PySem L2 Ring
local macro_rules | `(tactic| trivial)=>`(tactic| exact⟨rfl,rfl,rfl,by decide +kernel,rfl,by decide +kernel,by decide +kernel⟩)
def top(i:Nat):Stmt:=PySem.Challenge.pw_ringbase_k28_least_bases_told.main.body.getD i (.Pass ⟨0,0,0,0⟩)
section
variable {gb gm gH jy oO zP BW Lm Nu TR RZ R0 R1 R3 R4 R5:TS}{iM BX Lc TU TV:TT}{lK Qj TX Xl:TI}{lM Qk TY Xm:TG}{D:Ends}{σ:St}{H:Hp}
abbrev qM:Stmt:=top 7
theorem CV:aD ["tie_set","tie"] ["tie_set","tie"] (aj qM):=by trivial
abbrev nh:Stmt:=top 8
theorem CW:aD ["tie_set"] ["tie_set"] (aj nh):=by trivial
abbrev vf:Stmt:=top 9
theorem ni:aD ["web","ties","found","tie"] ["web","ties"] (aj vf):=by trivial
theorem xY(h:let cA:=gb;let cP:=gm;let dm:=gH;let eO:=(ay (bh iM dm aQ) cP);let fF:=(ay (cu lK lM eO) cA);(ay jy fF) D σ H):(ay jy (ay (cu lK lM (ay (bh iM gH aQ) gm)) gb)) D σ H:=h
abbrev oh:Stmt:=top 10
theorem A1:aD ["web"] ["web"] (aj oh):=by trivial
abbrev vg:Stmt:=top 11
theorem Gj:aD ["web","number"] ["web","number"] (aj vg):=by trivial
abbrev mE:Stmt:=top 12
theorem yP:aD ["web","tie_set"] ["web","tie_set"] (aj mE):=by trivial
theorem yQ(h:let cA:=gb;(bh iM cA aQ) D σ H):(bh iM gb aQ) D σ H:=h
abbrev iQ:Stmt:=top 13
theorem wc:aD ["web","tie_set"] ["web","tie_set"] (aj iQ):=by trivial
theorem jQ(h:let cA:=gb;(ay gm cA) D σ H):(ay gm gb) D σ H:=h
abbrev jF:Stmt:=top 14
theorem yR:aD ["web","tie_set"] ["web","tie_set"] (aj jF):=by trivial
abbrev iR:Stmt:=top 15
theorem fG:aD ["web","tie_set","ends","one","other","length"] ["web","tie_set"] (aj iR):=by trivial
theorem we(h:let cA:=gb;let cP:=gm;let dm:=(ay gH cP);let eO:=(ay (cu lK lM dm) cA);(ay jy eO) D σ H):(ay jy (ay (cu lK lM (ay gH gm)) gb)) D σ H:=h
abbrev eV:Stmt:=top 16
theorem gx:aD ["leasts","one","other","low","high"] ["leasts","one","other"] (aj eV):=by trivial
theorem gy(h:let cA:=gb;let cP:=(ay gm cA);(ay gH cP) D σ H):(ay gH (ay gm gb)) D σ H:=h
abbrev pR:Stmt:=top 17
theorem gf:aD ["web","tie_set","leasts","one","other","length","found","start"] ["web","tie_set"] (aj pR):=by trivial
theorem Gk(h:let cA:=gb;let cP:=gm;let dm:=(bh iM cP aQ);let eO:=(ay (cu lK lM dm) cA);let fF:=(ay gH eO);let lN:=jy;let sE:=(ay (cu Qj Qk lN) fF);(ay oO sE) D σ H):(ay oO (ay (cu Qj Qk jy) (ay gH (ay (cu lK lM (bh iM gm aQ)) gb)))) D σ H:=h
abbrev CY:Stmt:=top 18
theorem MA:aD ["web"] ["web"] (aj CY):=by trivial
abbrev qN:Stmt:=top 20
theorem CZ:aD ["web","tie_set"] ["web","tie_set"] (aj qN):=by trivial
abbrev fL:Stmt:=top 21
theorem bq:aD ["web","leasts","trails","tie","one","other","bridge","moved"] ["web"] (aj fL):=by trivial
theorem qO(h:let cA:=gb;let cP:=gm;let dm:=(ay gH cP);let eO:=(ay jy dm);let fF:=(ay oO eO);let lN:=(bh iM fF aQ);let sE:=(ay zP lN);let xZ:=(ay BW sE);let x6:=(ay (cu lK lM xZ) cA);let x8:=(ay Lm x6);(ay Nu x8) D σ H):(ay Nu (ay Lm (ay (cu lK lM (ay BW (ay zP (bh iM (ay oO (ay jy (ay gH gm))) aQ)))) gb))) D σ H:=h
abbrev vh:Stmt:=top 22
theorem nj:aD ["web","found","trail"] ["web"] (aj vh):=by trivial
theorem Gm(h:let cA:=gb;let cP:=gm;let dm:=(ay (cu lK lM cP) cA);(ay gH dm) D σ H):(ay gH (ay (cu lK lM gm) gb)) D σ H:=h
abbrev vj:Stmt:=top 23
theorem Gn:aD ["web"] ["web"] (aj vj):=by trivial
abbrev jR:Stmt:=top 24
theorem mF:aD ["web","trails","chord","tie"] ["web","trails","chord"] (aj jR):=by trivial
abbrev kP:Stmt:=top 25
theorem wg:aD ["web","tie"] ["web","tie"] (aj kP):=by trivial
theorem fH(h:let cA:=gb;let cP:=gm;(ay (bh iM cP aQ) cA) D σ H):(ay (bh iM gm aQ) gb) D σ H:=h
abbrev nk:Stmt:=top 27
theorem vm:aD ["web","tie_set","touched"] ["web","tie_set"] (aj nk):=by trivial
theorem C1(h:let cA:=gb;let cP:=(ay gm cA);let dm:=gH;(ay (bh iM dm aQ) cP) D σ H):(ay (bh iM gH aQ) (ay gm gb)) D σ H:=h
abbrev gY:Stmt:=top 28
theorem pU:aD ["web","number"] ["web","number"] (aj gY):=by trivial
abbrev jG:Stmt:=top 29
theorem yS:aD ["web","rings"] ["web","rings"] (aj jG):=by trivial
def eW:Pos:=⟨95,29,95,70⟩
abbrev vn:Stmt:=top 31
theorem Gp:aD ["one","other"] ["one","other"] (aj vn):=by trivial
abbrev jS:Stmt:=top 32
theorem vo:aD ["tie_set","marks"] ["tie_set","marks"] (aj jS):=by trivial
abbrev qP:Stmt:=top 33
theorem kQ:aD ["web","side","ahead","point"] ["web","side"] (aj qP):=by trivial
abbrev pV:Stmt:=top 34
theorem Gq:aD ["web","side"] ["web","side"] (aj pV):=by trivial
abbrev nq:Stmt:=top 35
theorem kR:aD ["web","tie_set","trails","side","amiss"] ["web","tie_set"] (aj nq):=by trivial
theorem C3(h:let cA:=gb;let cP:=gm;let dm:=(ay (bh iM cP aQ) cA);let eO:=(ay gH dm);let fF:=(ay jy eO);let lN:=(ay oO fF);(ay zP lN) D σ H):(ay zP (ay oO (ay jy (ay gH (ay (bh iM gm aQ) gb))))) D σ H:=h
abbrev eX:Stmt:=top 37
theorem cW:aD ["web","marks","steps","tie","ends","turn"] ["web","marks"] (aj eX):=by trivial
theorem pW(h:let cA:=gb;let cP:=gm;let dm:=(ay gH cP);let eO:=(ay jy dm);let fF:=(ay (cu lK lM eO) cA);(ay oO fF) D σ H):(ay oO (ay (cu lK lM (ay jy (ay gH gm))) gb)) D σ H:=h
abbrev gz:Stmt:=top 38
theorem bI:aD ["web","marks","start","steps","found","waiting","nearest","way","tie","point","turn","part","further"] ["web","marks","start"] (aj gz):=by trivial
theorem wj(h:let cA:=gb;let cP:=gm;let dm:=(bh BX cP aQ);let eO:=(ay gH dm);let fF:=(ay jy eO);let lN:=(cu lK lM fF);let sE:=(ay oO lN);let xZ:=(ay zP sE);let x6:=(ay BW xZ);let x8:=(ay (nU iM x6) cA);let mG:=(ay Lm x8);let lR:=(ay Nu mG);(ay TR lR) D σ H):(ay TR (ay Nu (ay Lm (ay (nU iM (ay BW (ay zP (ay oO (cu lK lM (ay jy (ay gH (bh BX gm aQ)))))))) gb)))) D σ H:=h
def cj:Pos:=⟨133,35,133,63⟩
abbrev iI:Stmt:=top 39
theorem qQ:aD ["way"] ["way"] (aj iI):=by trivial
abbrev eY:Stmt:=top 40
theorem pX:aD ["ways"] ["ways"] (aj eY):=by trivial
abbrev eZ:Stmt:=top 42
theorem pY:aD ["web","marks"] ["web","marks"] (aj eZ):=by trivial
abbrev fM:Stmt:=top 43
theorem qR:aD ["ways"] ["ways"] (aj fM):=by trivial
abbrev kT:Stmt:=top 44
theorem wk:aD ["web","marks"] ["web","marks"] (aj kT):=by trivial
abbrev jH:Stmt:=top 45
theorem kU:aD ["web","marks","ways","rounds"] ["web","marks"] (aj jH):=by trivial
theorem yT(h:let cA:=gb;let cP:=gm;let dm:=(ay (bh iM cP aQ) cA);let eO:=(ay gH dm);let fF:=(ay jy eO);(ay oO fF) D σ H):(ay oO (ay jy (ay gH (ay (bh iM gm aQ) gb)))) D σ H:=h
abbrev qS:Stmt:=top 47
theorem eG:aD ["rows","tie_set","left","used","lead","row","places"] ["rows","tie_set"] (aj qS):=by trivial
theorem C4(h:let cA:=gb;let cP:=gm;let dm:=(ay gH cP);let eO:=(bh iM dm aQ);let fF:=(ay (cu lK lM eO) cA);let lN:=(ay jy fF);(ay oO lN) D σ H):(ay oO (ay jy (ay (cu lK lM (bh iM (ay gH gm) aQ)) gb))) D σ H:=h
abbrev om:Stmt:=top 48
theorem mH:aD ["rows","added","found","old"] ["rows","added"] (aj om):=by trivial
theorem A2(h:let cA:=gb;let cP:=gm;let dm:=gH;let eO:=(bh iM cP dm);let fF:=(ay (cu lK lM eO) cA);(ay jy fF) D σ H):(ay jy (ay (cu lK lM (bh iM gm gH)) gb)) D σ H:=h
abbrev qT:Stmt:=top 49
theorem gZ:aD ["sets","rows","place","tie_set","rest"] ["sets"] (aj qT):=by trivial
theorem C5(h:let cA:=gb;let cP:=gm;let dm:=(bh iM cP aQ);let eO:=(ay gH dm);let fF:=(ay (cu lK lM eO) cA);(ay jy fF) D σ H):(ay jy (ay (cu lK lM (ay gH (bh iM gm aQ))) gb)) D σ H:=h
abbrev nu:Stmt:=top 50
theorem C6:aD ["web","rings"] ["web","rings"] (aj nu):=by trivial
abbrev jI:Stmt:=top 51
theorem iS:aD ["web","rings","rows","found","place"] ["web","rings"] (aj jI):=by trivial
theorem yU(h:let cA:=gb;let cP:=gm;let dm:=(ay (cu lK lM cP) cA);let eO:=(ay gH dm);let fF:=(ay jy eO);let lN:=oO;(ay (bh iM lN aQ) fF) D σ H):(ay (bh iM oO aQ) (ay jy (ay gH (ay (cu lK lM gm) gb)))) D σ H:=h
abbrev fJ:Stmt:=top 52
theorem di:aD ["web","waiting","found","marks","ring"] ["web"] (aj fJ):=by trivial
theorem vp(h:let cA:=gb;let cP:=gm;let dm:=(ay gH cP);let eO:=(ay jy dm);let fF:=(ay oO eO);let lN:=(ay (nU iM fF) cA);let sE:=(ay zP lN);(ay BW sE) D σ H):(ay BW (ay zP (ay (nU iM (ay oO (ay jy (ay gH gm)))) gb))) D σ H:=h
abbrev iT:Stmt:=top 53
theorem jT:aD ["web","rings","marks"] ["web"] (aj iT):=by trivial
abbrev nv:Stmt:=top 54
theorem C7:aD ["web"] ["web"] (aj nv):=by trivial
abbrev jU:Stmt:=top 56
theorem vq:aD ["script","k"] ["script","k"] (aj jU):=by trivial
abbrev mJ:Stmt:=top 57
theorem kW:aD ["cell","k","near","stir"] ["cell","k"] (aj mJ):=by trivial
abbrev kX:Stmt:=top 58
theorem wm:aD ["cell","way"] ["cell","way"] (aj kX):=by trivial
theorem wq(h:let cA:=gb;let cP:=gm;let dm:=(ay (bh iM cP aQ) cA);let eO:=gH;(ay (bh BX eO aQ) dm) D σ H):(ay (bh BX gH aQ) (ay (bh iM gm aQ) gb)) D σ H:=h
abbrev qU:Stmt:=top 59
theorem kY:aD ["cell","points","way","one","other"] ["cell","points","way"] (aj qU):=by trivial
theorem C8(h:let cA:=gb;let cP:=(ay gm cA);let dm:=(ay gH cP);(ay jy dm) D σ H):(ay jy (ay gH (ay gm gb))) D σ H:=h
abbrev g7:Stmt:=top 60
theorem bO:aD ["script","most","ranked","head","points","way","cells","ties","marks","free","cell","tie","joined","old"] ["script","most","ranked"] (aj g7):=by trivial
theorem C9(h:let cA:=gb;let cP:=gm;let dm:=(ay gH cP);let eO:=(ay jy dm);let fF:=(ay oO eO);let lN:=(bh iM fF aQ);let sE:=(ay zP lN);let xZ:=(ay BW sE);let x6:=(ay (cu lK lM xZ) cA);let x8:=(ay Lm x6);let mG:=(ay Nu x8);let lR:=(ay TR mG);let A3:=RZ;let J0:=(ay R0 A3);let J7:=(ay (bh BX J0 aQ) lR);let R6:=(ay R1 J7);let R7:=(ay R3 R6);let R8:=(ay R4 R7);(ay R5 R8) D σ H):(ay R5 (ay R4 (ay R3 (ay R1 (ay (bh BX (ay R0 RZ) aQ) (ay TR (ay Nu (ay Lm (ay (cu lK lM (ay BW (ay zP (bh iM (ay oO (ay jy (ay gH gm))) aQ)))) gb))))))))) D σ H:=h
abbrev mK:Stmt:=top 61
theorem yV:aD ["found"] ["found"] (aj mK):=by trivial
abbrev kZ:Stmt:=top 62
theorem jV:aD ["web","some","counts","k"] ["web","some"] (aj kZ):=by trivial
theorem nQ(h:let cA:=gb;let cP:=gm;let dm:=(ay gH cP);let eO:=(bh iM dm aQ);let fF:=(ay (cu lK lM eO) cA);(ay jy fF) D σ H):(ay jy (ay (cu lK lM (bh iM (ay gH gm) aQ)) gb)) D σ H:=h
abbrev gA:Stmt:=top 63
theorem fK:aD ["web","some","marks","k","old"] ["web","some"] (aj gA):=by trivial
abbrev oq:Stmt:=top 64
theorem A4:aD ["web"] ["web"] (aj oq):=by trivial
abbrev jt:Stmt:=top 66
theorem sF:aD ["web","some","counts"] ["web","some"] (aj jt):=by trivial
theorem A5(h:let cA:=gb;let cP:=gm;let dm:=(ay (bh iM cP aQ) cA);(ay gH dm) D σ H):(ay gH (ay (bh iM gm aQ) gb)) D σ H:=h
abbrev k6:Stmt:=top 67
theorem A6:aD ["web","some"] ["web","some"] (aj k6):=by trivial
abbrev qV:Stmt:=top 68
theorem ju:aD ["one","other","both","odd"] ["one","other"] (aj qV):=by trivial
theorem Dd(h:let cA:=gb;let cP:=gm;let dm:=(ay gH cP);let eO:=(ay (nU iM dm) cA);let fF:=(ay jy eO);(ay oO fF) D σ H):(ay oO (ay jy (ay (nU iM (ay gH gm)) gb))) D σ H:=h
abbrev mL:Stmt:=top 69
theorem k7:aD ["kept","some","one"] ["kept","some"] (aj mL):=by trivial
theorem yW(h:let cA:=gb;let cP:=(ay gm cA);let dm:=gH;let eO:=(ay (bh iM dm aQ) cP);let fF:=jy;(ay (cu lK lM fF) eO) D σ H):(ay (cu lK lM jy) (ay (bh iM gH aQ) (ay gm gb))) D σ H:=h
abbrev iU:Stmt:=top 70
theorem nR:aD ["sets","kept"] ["sets"] (aj iU):=by trivial
abbrev iJ:Stmt:=top 71
theorem qW:aD ["first","second","length"] ["first","second","length"] (aj iJ):=by trivial
abbrev fT:Stmt:=top 72
theorem aZ:aD ["web","marks","worths","point","k","one","other","length","turn","part","first"] ["web","marks","worths"] (aj fT):=by trivial
theorem nH(h:let cA:=gb;let cP:=gm;let dm:=(bh iM cP aQ);let eO:=(ay gH dm);let fF:=(cu TX TY eO);let lN:=(ay jy fF);let sE:=(ay oO lN);let xZ:=(cu Qj Qk sE);let x6:=zP;let x8:=(ay (bh BX x6 aQ) xZ);let mG:=(ay (cu lK lM x8) cA);let lR:=BW;(ay (bh Lc lR aQ) mG) D σ H):(ay (bh Lc BW aQ) (ay (cu lK lM (ay (bh BX zP aQ) (cu Qj Qk (ay oO (ay jy (cu TX TY (ay gH (bh iM gm aQ)))))))) gb)) D σ H:=h
abbrev gB:Stmt:=top 73
theorem fU:aD ["web","ring","marks","worths","point","own"] ["web","ring","marks","worths"] (aj gB):=by trivial
theorem ou(h:let cA:=gb;let cP:=gm;let dm:=(bh iM cP aQ);let eO:=(ay gH dm);let fF:=(ay (cu lK lM eO) cA);let lN:=jy;(ay (bh BX lN aQ) fF) D σ H):(ay (bh BX jy aQ) (ay (cu lK lM (ay gH (bh iM gm aQ))) gb)) D σ H:=h
abbrev gh:Stmt:=top 74
theorem e7:aD ["web","base","triple","some","row","pair","parts"] ["web","base"] (aj gh):=by trivial
theorem yX(h:let cA:=gb;let cP:=gm;let dm:=(bh iM cP aQ);let eO:=(ay gH dm);let fF:=(cu TX TY eO);let lN:=jy;let sE:=(ay (bh BX lN aQ) fF);let xZ:=(cu Qj Qk sE);let x6:=oO;let x8:=(bh Lc x6 aQ);let mG:=(ay (cu Xl Xm x8) xZ);let lR:=zP;let A3:=(ay (bh TU lR aQ) mG);let J0:=(ay (cu lK lM A3) cA);let J7:=BW;(ay (bh TV J7 aQ) J0) D σ H):(ay (bh TV BW aQ) (ay (cu lK lM (ay (bh TU zP aQ) (ay (cu Xl Xm (bh Lc oO aQ)) (cu Qj Qk (ay (bh BX jy aQ) (cu TX TY (ay gH (bh iM gm aQ)))))))) gb)) D σ H:=h
abbrev eI:Stmt:=top 75
theorem e8:aD ["web","base","rings","pairs","ring","marks","worths"] ["web","base"] (aj eI):=by trivial
theorem yY(h:let cA:=gb;let cP:=gm;let dm:=(bh iM cP aQ);let eO:=gH;let fF:=(ay (bh BX eO aQ) dm);let lN:=(ay (cu lK lM fF) cA);let sE:=jy;let xZ:=(ay (bh Lc sE aQ) lN);let x6:=(ay oO xZ);let x8:=zP;let mG:=(ay (bh TU x8 aQ) x6);let lR:=BW;let A3:=(ay (bh TV lR aQ) mG);(ay Lm A3) D σ H):(ay Lm (ay (bh TV BW aQ) (ay (bh TU zP aQ) (ay oO (ay (bh Lc jy aQ) (ay (cu lK lM (ay (bh BX gH aQ) (bh iM gm aQ))) gb)))))) D σ H:=h
abbrev A7:Stmt:=top 76
theorem qX:aD ["script","web","base","due","turn","found"] ["script"] (aj A7):=by trivial
theorem Pc(h:let cA:=gb;let cP:=gm;let dm:=gH;let eO:=(ay (bh iM dm aQ) cP);let fF:=jy;let lN:=(ay (bh BX fF aQ) eO);let sE:=(ay oO lN);let xZ:=(ay (cu lK lM sE) cA);let x6:=(ay zP xZ);let x8:=BW;let mG:=(ay (bh Lc x8 aQ) x6);let lR:=(ay Lm mG);(ay Nu lR) D σ H):(ay Nu (ay Lm (ay (bh Lc BW aQ) (ay zP (ay (cu lK lM (ay oO (ay (bh BX jy aQ) (ay (bh iM gH aQ) gm)))) gb))))) D σ H:=h
end
set_option genInjectivity false
set_option genSizeOf false
structure Vx where
 Gr:Addr
 Gs:FuncData
 Gu:Addr
 Gv:FuncData
 J8:Addr
 J9:FuncData
 De:Addr
 Df:FuncData
 Ka:Addr
 Kc:FuncData
 A8:Addr
 A9:FuncData
 yZ:Addr
 y9:FuncData
 Ba:Addr
 Bb:FuncData
 za:Addr
 zb:FuncData
 qY:Addr
 qZ:FuncData
 Kd:Addr
 Ke:FuncData
 Pd:Addr
 Pe:FuncData
 Gw:Addr
 Gx:FuncData
 sO:Addr
 sP:FuncData
 Kf:Addr
 Kg:FuncData
 Kh:Addr
 Kl:FuncData
 wu:Addr
 wA:FuncData
 zc:Addr
 zd:FuncData
 Gy:Addr
 Gz:FuncData
 q9:Addr
 rf:FuncData
 Bc:Addr
 Bd:FuncData
 Km:Addr
 Kn:FuncData
 wB:Addr
 wC:FuncData
 GA:Addr
 GB:FuncData
 Ko:Addr
 Kq:FuncData
 GC:Addr
 GD:FuncData
 rg:Addr
 rh:FuncData
 ze:Addr
 zf:FuncData
 sQ:Addr
 sR:FuncData
 rm:Addr
 rq:FuncData
 rA:Addr
 rB:FuncData
 sS:Addr
 sU:FuncData
 zg:Addr
 zh:FuncData
 Be:Addr
 Bf:FuncData
 GF:Addr
 GG:FuncData
 Dg:Addr
 Dh:FuncData
 GH:Addr
 GI:FuncData
 GJ:Addr
 GK:FuncData
 Bg:Addr
 Bh:FuncData
 wF:Addr
 wG:FuncData
 zj:Addr
 zk:FuncData
 GL:Addr
 GN:FuncData
 wH:Addr
 wI:FuncData
 Bj:Addr
 Bk:FuncData
 zm:Addr
 zo:FuncData
 GO:Addr
 GP:FuncData
 GQ:Addr
 GR:FuncData
 Bl:Addr
 Bm:FuncData
 zp:Addr
 zq:FuncData
 zu:Addr
 zw:FuncData
 Di:Addr
 Dl:FuncData
 Dm:Addr
 Dp:FuncData
 Dq:Addr
 Dr:FuncData
 GS:Addr
 GU:FuncData
 Bo:Addr
 Bp:FuncData
 zx:Addr
 zy:FuncData
 sV:Addr
 sW:FuncData
 oz:Addr
 oA:FuncData
 pZ:Addr
 p5:FuncData
 Bq:Addr
 Br:FuncData
 Bs:Addr
 Bt:FuncData
 R9:Addr
 Sa:FuncData
 eJ:Addr
 Dt:Addr
 rC:Addr
 vt:Addr
 Bu:Addr
 gi:Addr
 zz:Addr
 cG:Addr
structure Txt(P:Program)(w:World)(base:Heap)(K:bK)(mg:lT)(a:Vx):Prop where
 g8:Dn K mg "has_tie" qM a.Gr a.Gs ["tie_set","tie"]
 g9:Dn K mg "ties_in" nh a.Gu a.Gv ["tie_set"]
 p7:Dn K mg "set_of" vf a.J8 a.J9 ["web","ties"]
 jv:Dn K mg "all_ties" oh a.De a.Df ["web"]
 p8:Dn K mg "is_set" vg a.Ka a.Kc ["web","number"]
 iC:Dn K mg "check_set" mE a.A8 a.A9 ["web","tie_set"]
 gC:Dn K mg "triples_in" iQ a.yZ a.y9 ["web","tie_set"]
 jJ:Dn K mg "length_of" jF a.Ba a.Bb ["web","tie_set"]
 k8:Dn K mg "odd_points" iR a.za a.zb ["web","tie_set"]
 fb:Dn K mg "drawn_together" eV a.qY a.qZ ["leasts","one","other"]
 p9:Dn K mg "pieces" pR a.Kd a.Ke ["web","tie_set"]
 Du:Dn K mg "rank" CY a.Pd a.Pe ["web"]
 rD:Dn K mg "is_even" qN a.Gw a.Gx ["web","tie_set"]
 dN:Dn K mg "forest_trails" fL a.sO a.sP ["web"]
 vy:Dn K mg "forest" vh a.Kf a.Kg ["web"]
 qa:Dn K mg "chords" vj a.Kh a.Kl ["web"]
 jW:Dn K mg "ring_closed" jR a.wu a.wA ["web","trails","chord"]
 k9:Dn K mg "chord_ring" kP a.zc a.zd ["web","tie"]
 rE:Dn K mg "is_ring" nk a.Gy a.Gz ["web","tie_set"]
 hU:Dn K mg "is_ring_number" gY a.q9 a.rf ["web","number"]
 jK:Nr K mg "by_length" jG a.Bc a.Bd ["web","rings"] a.Bu a.gi
 vz:Dn K mg "common" vn a.Km a.Kn ["one","other"]
 ik:Dn K mg "bears_oddly" jS a.wB a.wC ["tie_set","marks"]
 rF:Dn K mg "is_side" qP a.GA a.GB ["web","side"]
 vA:Dn K mg "cut_of" pV a.Ko a.Kq ["web","side"]
 rG:Dn K mg "side_of" nq a.GC a.GD ["web","tie_set"]
 h8:Dn K mg "steps_by_point" eX a.rg a.rh ["web","marks"]
 iV:Nr K mg "least_ways" gz a.ze a.zf ["web","marks","start"] a.zz a.cG
 fN:Dn K mg "length_of_way" iI a.sQ a.sR ["way"]
 ia:Dn K mg "worths_of_ways" eY a.rm a.rq ["ways"]
 fc:Dn K mg "all_least_ways" eZ a.rA a.rB ["web","marks"]
 fO:Dn K mg "worths_of_all" fM a.sS a.sU ["ways"]
 lg:Dn K mg "worths_for" kT a.zg a.zh ["web","marks"]
 mO:Dn K mg "least_odd" jH a.Be a.Bf ["web","marks"]
 rH:Dn K mg "reduced" qS a.GF a.GG ["rows","tie_set"]
 oB:Dn K mg "with_row" om a.Dg a.Dh ["rows","added"]
 ny:Dn K mg "rows_of" qT a.GH a.GI ["sets"]
 rJ:Dn K mg "is_base" nu a.GJ a.GK ["web","rings"]
 mP:Dn K mg "marks_for" jI a.Bg a.Bh ["web","rings"]
 iq:Dn K mg "least_rings" fJ a.wF a.wG ["web"]
 iW:Dn K mg "least_base" iT a.zj a.zk ["web"]
 rK:Dn K mg "lengths" nv a.GL a.GN ["web"]
 jX:Dn K mg "_law_cell_at" jU a.wH a.wI ["script","k"]
 jL:Dn K mg "_law_mixed" mJ a.Bj a.Bk ["cell","k"]
 lq:Dn K mg "_law_length" kX a.zm a.zo ["cell","way"]
 rL:Dn K mg "_law_tie" qU a.GO a.GP ["cell","points","way"]
 rM:Dn K mg "_law_web" g7 a.GQ a.GR ["script","most","ranked"]
 iD:Dn K mg "_law_whole" mK a.Bl a.Bm ["found"]
 ly:Dn K mg "_law_counts" kZ a.zp a.zq ["web","some"]
 iX:Dn K mg "_law_pieces" gA a.zu a.zw ["web","some"]
 oE:Dn K mg "_law_rank" oq a.Di a.Dl ["web"]
 oF:Dn K mg "_law_ring" jt a.Dm a.Dp ["web","some"]
 jw:Dn K mg "_law_long" k6 a.Dq a.Dr ["web","some"]
 nA:Dn K mg "_law_odd" qV a.GS a.GU ["one","other"]
 mQ:Dn K mg "_law_added" mL a.Bo a.Bp ["kept","some"]
 lz:Dn K mg "_law_chosen" iU a.zx a.zy ["sets"]
 iK:Dn K mg "_law_pair_fits" iJ a.sV a.sW ["first","second","length"]
 fV:Dn K mg "_law_worths_stand" fT a.oz a.oA ["web","marks","worths"]
 gD:Dn K mg "_law_least_shown" gB a.pZ a.p5 ["web","ring","marks","worths"]
 mR:Dn K mg "_law_kinds" gh a.Bq a.Br ["web","base"]
 mS:Dn K mg "_law_right" eI a.Bs a.Bt ["web","base"]
 Nv:Dn K mg "law" A7 a.R9 a.Sa ["script"]
 MB:mg "ValueError"=none
 Sb:mg "abs"=none
 Sd:mg "all"=none
 Pf:mg "bool"=none
 jM:mg "enumerate"=none
 EO:mg "int"=none
 cX:mg "isinstance"=none
 b8:mg "len"=none
 Dv:mg "list"=none
 Nx:mg "max"=none
 ER:mg "min"=none
 bV:mg "range"=none
 Se:mg "set"=none
 Bv:mg "sorted"=none
 Ny:mg "sum"=none
 iY:mg "tuple"=none
 Nz:mg "zip"=none
 Sf:mg "BadSet"=some (.ref a.eJ)
 Pg:mg "BadPoint"=some (.ref a.Dt)
 Ql:mg "NoChord"=some (.ref a.rC)
 Sg:mg "NoBase"=some (.ref a.vt)
 Ks:∀ h:Heap,K.In h->h.Ns mainGlobals mg->PyProof.Rows.OwnCls "BadSet" a.eJ [.type "ValueError",.type "Exception",.type "BaseException",.type "object"] "ValueError.__new__" mg h
 GV:∀ h:Heap,K.In h->h.Ns mainGlobals mg->PyProof.Rows.OwnCls "NoChord" a.rC [.type "ValueError",.type "Exception",.type "BaseException",.type "object"] "ValueError.__new__" mg h
 Ku:∀ h:Heap,K.In h->h.Ns mainGlobals mg->PyProof.Rows.OwnCls "NoBase" a.vt [.type "ValueError",.type "Exception",.type "BaseException",.type "object"] "ValueError.__new__" mg h
section
variable {P:Program}{w:World}{K:bK}{mg:lT}{base:Heap}{a:Vx}{x:Str}{st:Stmt}{f c0 p0:Addr}{fd:FuncData}{ps:List Str}
abbrev Ok(_:Txt P w base K mg a)(_:Dn K mg x st f fd ps)(k:Nat)(sp:Sp):=lX P w K mg base Eg k f fd ps sp
abbrev Kv(_:Txt P w base K mg a)(_:Dn K mg x st f fd ps)(k:Nat)(sp:Sp):=lX P w K mg base (Ip P w) k f fd ps sp
abbrev Xn(_:Txt P w base K mg a)(_:Nr K mg x st f fd ps c0 p0)(k:Nat)(sp:Sp):=lX P w K mg base Eg k f fd ps sp
end
def Dw:Sp:=fun vs H Q _=>∃(S:Int) (k:Nat),vs=[.int S,.int (k:Int)]/\Q (.bl (bit S k)) H
def Dy:Sp:=fun vs H Q _=>∃ m:Nat,vs=[.int (m:Int)]/\Builtin.Int.intBits (m:Int)<=1000/\∀ D H',H D=none->av H H'->H' D=some (.lst (aA (bE (m:Int))))->Q (.ref D) H'
def Bw:Sp:=fun vs H Q _=>∃ w p ts,vs=[.ref w]/\bu H w p ts/\LX p ts/\Q (.int (2^ts.length-1)) H
def GW:Sp:=fun vs H Q _=>∃ w p ts S,vs=[.ref w,.int S]/\bu H w p ts/\LX p ts/\Q (.bl (decide (0<=S/\S<2^ts.length))) H
def qb(ts:List dJ)(S:Int)(bad:Prop)(R:Nat->Prop):Prop:=(∃ m:Nat,S=(m:Int)/\m<2^ts.length/\R m)\/((S<0\/2^ts.length<=S)/\bad)
def zA(C:Addr):Sp:=fun vs H Q E=>∃ w p ts S,vs=[.ref w,.int S]/\bu H w p ts/\LX p ts/\qb ts S (E (.ref C) none H) fun _=>Q .eM H
def wJ(C:Addr):Sp:=fun vs H Q E=>∃ w p ts S,vs=[.ref w,.int S]/\bu H w p ts/\LX p ts/\qb ts S (E (.ref C) none H) fun m =>
 ∀ D ys H',H D=none->av H H'->H' D=some (.lst ys)->Paired (TupAt H') ys ((bE (m:Int)).map (bL ts))->Q (.ref D) H'
def wK(C:Addr):Sp:=fun vs H Q E=>∃ w p ts S,vs=[.ref w,.int S]/\bu H w p ts/\LX p ts/\qb ts S (∀ H',av H H'->E (.ref C) none H') fun m =>
 ∀ D H',av H H'->H' D=some (.lst (aA (uh p ts (m:Int))))->Q (.ref D) H'
def Dz(C:Addr):Sp:=fun vs H Q E=>∃ w p ts S,vs=[.ref w,.int S]/\bu H w p ts/\LX p ts/\qb ts S (∀ H',av H H'->E (.ref C) none H') fun m=>∀ H',av H H'->Q (.bl (decide (uh p ts (m:Int)=[]))) H'
section
variable {P:Program}{w:World}{K:bK}{mg:lT}{base:Heap}{a:Vx}(T:Txt P w base K mg a)
theorem cf:Ok T T.g8 1 Dw:=by
 refine T.g8.ok CV fun cdv A outer s H vs Q E hr h=>?_
 ·obtain⟨S,k,rfl,q⟩:=h;refine⟨_,(au (aB (cQ ee (aL yl (aL tW (pv 0) (pv 1)) ai) ai (aJ _)))),?_⟩;refine(ao rfl (ao rfl (b7 ⟨(by lia),b7 ⟨rfl,?_⟩⟩)))
  rw[Int.toNat_natCast,Ot];exact q
theorem cg:Ok T T.g9 2 Dy:=by
 have cf:=cf T;refine T.g9.ok CW fun cdv A outer s H vs Q E hr h=>?_
 ·obtain⟨m,rfl,hm,k⟩:=h;refine⟨_,(au (aB (bx (own:=["tie"]) (frees:=["tie_set"]) (js:=[0]) (az (aj nh) ["tie_set"]) rfl (bf (by rfl) T.bV (aa (Ia PySem.F.plainAttrs_int PyProof.Rows.slot_int_bit_length PyProof.Rows.type_int_bit_length Ek (pv 0)) af)) (fun _ _ _ _=>(aX 0 (show(["tie","tie_set"]:List Str).Nodup by decide +kernel))) (fun _ _ _ _=>(cR (bM (aK cf hr T.g8.c aN (aa (pv 1) (aa (pv 0) af)))))) (fun _ _ _ _=>(pv 0))))),?_⟩
  refine(ao rfl ⟨rfl,ao rfl ⟨rfl,ao rfl ⟨(by lia),(by lia),fun D hD=>cz (lo:=0) (m:=Builtin.Int.intBits (m:Int)) (nF (bit (m:Int)) H D) (.start hD) (fun i acc H2 _ p=>p.len) (dl (Nat.ble_eq.mpr hm)) ?_ ?_⟩⟩⟩)
  ·intro i acc H2 hi p;rw[Int.zero_add];refine⟨rfl,ao rfl (ao rfl ⟨(m:Int),i,rfl,ao rfl (?_)⟩)⟩;cases hb:bit (m:Int) i with
   | true=>exact(ao rfl (p.yes hD (av.refl _) hb))
   | false=>exact p.no (av.refl _) hb
  ·intro acc H2 p;exact k D H2 hD p.1 (by rw[p.2.1,p.2.2];rfl)
theorem dG:Ok T T.jv 1 Bw:=by
 refine T.jv.ok A1 fun cdv A outer s H vs Q E hr h=>?_
 ·obtain⟨wb,p,ts,rfl,hw,W,q⟩:=h;refine⟨_,(au (aB (aL jg (aL kI ai (aF (ez K) (by rfl) T.b8 PySem.boot_len (aa (aG (bW K) (pv 0) ai) af))) ai))),?_⟩
  obtain⟨b,xs,h1,h2,h3⟩:=hw.ex;have hl:=h3.length;have wl:=W.len;refine(ao rfl (bX (aP.of h1) (ak (j:=1) rfl) (lJ rfl (.inr (aP.of h2)) (b7 ⟨⟨by lia,by lia,by decide⟩,b7 (?_)⟩))))
  rw[Int.toNat_natCast,hl,Int.one_mul];exact q
theorem kA:Ok T T.p8 2 GW:=by
 have dG:=dG T;refine T.p8.ok Gj fun cdv A outer s H vs Q E hr h=>?_
 ·obtain⟨wb,p,ts,S,rfl,hw,W,q⟩:=h;refine⟨_,(au (aB (tS (cQ D9 (pv 1) ai (aJ _)) (tR (cQ D8 (pv 1) (aK dG hr T.jv.c aN (aa (pv 0) af)) (aJ _)))))),?_⟩;refine(ao rfl (b7 (ao rfl (jh (fun hlt=>?_) (fun hlt=>?_)))))
  ·have hlt:0<=S:=of_decide_eq_true hlt;refine(ao rfl (ao rfl ⟨wb,p,ts,rfl,hw,W,_,_,rfl,rfl,?_⟩));have e:decide (S<=2^ts.length-1)=decide (0<=S/\S<2^ts.length):=decide_eq_decide.mpr ⟨fun z=>⟨hlt,by lia⟩,fun z=>by lia⟩
   rw[<-e]at q;exact q
  ·have hlt : ¬ 0<=S:=fun z=>hlt (decide_eq_true z)
   rw[decide_eq_false (fun z=>hlt z.1)]at q
   exact q
theorem cY:Kv T T.iC 3 (zA a.eJ):=by
 have kA:=kA T;refine T.iC.Ft yP fun cdv A outer s H vs Q E hr h=>?_
 ·obtain⟨wb,p,ts,S,rfl,hw,W,q⟩:=h;refine⟨_,(au (bF (cZ (bM (aK kA hr T.p8.c aN (aa (pv 0) (aa (pv 1) af))))) (au (ug gr.U1 rfl (by rfl) T.Ks PySem.F.excBase_ValueError (aa qh af))) aR)),?_⟩
  refine yQ ?_;intro cA;refine(ao rfl (ao rfl ⟨wb,p,ts,S,rfl,hw,W,?_⟩));have h2:((2:Int)^ts.length)=((2^ts.length:Nat):Int):=by simp
  rcases q with⟨m,rfl,hm,q⟩|⟨hS,q⟩
  ·rw[decide_eq_true ⟨by lia,by lia⟩]
   exact(ao rfl (cC q))
  ·rw[decide_eq_false (by lia)]
   exact(ao rfl (ir ⟨dl rfl,q⟩))
theorem cH:Kv T T.gC 4 (wJ a.eJ):=by
 have cY:=cY T;have cg:=cg T;refine T.gC.Ft wc fun cdv A outer s H vs Q E hr h=>?_
 ·obtain⟨wb,p,ts,S,rfl,hw,W,q⟩:=h;refine⟨_,(ah (dW (aK cY hr T.iC.c gr.passes (aa (pv 0) (aa (pv 1) af))))
   (au (aB (bx (own:=["tie"]) (frees:=["web"]) (js:=[0]) (az (aj iQ) ["web","tie_set"]) rfl (nX K (aK cg hr T.g9.c aN (aa (pv 1) af))) (fun _ _ _ _=>(aX 0 (show(["tie","web"]:List Str).Nodup by decide +kernel))) (fun _ _ _ _=>bY) (fun _ _ _ _=>(aG (bW K) (aG (bW K) (pv 1) ai) (pv 0))))))),?_⟩
  refine jQ ?_;intro cA;refine(ao rfl (ao rfl ⟨wb,p,ts,S,rfl,hw,W,?_⟩));rcases q with⟨m,rfl,hm,q⟩|⟨hS,q⟩
  ·refine .inl ⟨m,rfl,hm,?_⟩;have wl:=W.len;have hb:Builtin.Int.intBits (m:Int)<=ts.length:=bits_le hm;refine(ao rfl ⟨m,rfl,by lia,fun L H1 _ s1 hL=>⟨L,rfl,⟨_,aO.of hL⟩,fun D hD=>?_⟩⟩)
   obtain⟨b,xs,h1,h2,h3⟩:=(hw.same s1).ex;have vB:=h3.length;refine bj (xs:=aA (bE (m:Int))) (fun i acc H2=>av H1 H2/\H2 D=some (.lst acc)/\Paired (TupAt H2) acc (((bE (m:Int)).take i).map (bL ts))/\acc.length=i) ⟨av.new hD,ae,.nil,rfl⟩ ?_ ?_ ?_ ?_
   ·rintro i acc H2 _ ⟨s2,hd,pr,hac⟩;exact⟨aO.of (s2 _ _ hL),hd,Nat.le_of_eq hac⟩
   ·rw[aC];refine dl (Nat.ble_eq.mpr (Nat.le_trans (List.length_filter_le _ _) ?_));rw[List.length_range]
    lia
   ·rintro i x acc H2 hx ⟨s2,hd,pr,hac⟩;obtain⟨k,hk,rfl⟩:=gP hx;have lP:k<ts.length:=tw hm (List.mem_of_getElem? hk);have hkx:k<xs.length:=by lia
    obtain⟨t,ht,c,hc,hct⟩:=Paired.kc h3 (i:=k) (x:=xs[k]) (by simp[hkx])
    have RG:bL ts k=t:=by
     unfold bL;rw[List.getD_eq_getElem?_getD,ht];rfl
    refine⟨rfl,ao rfl (bX (aP.of (s2 _ _ h1)) (ak (j:=1) rfl) (ao rfl (bX (v:=xs[k]) (aP.of (s2 _ _ h2)) (ak (j:=k) (by simp[hkx])) (?_))))⟩
    rw[hc];refine⟨hd,s2.put hD,ae,?_,by rw[List.length_append,List.length_singleton,hac]⟩
    rw[List.take_add_one,hk,List.map_append];refine Paired.snoc (Paired.imp' (fun _ _ z=>z.tups (c6.put hd)) pr) ?_
    rw[RG];exact⟨c,rfl,c6.put hd _ _ (s2 _ _ hct)⟩
   ·rintro acc H2 ⟨s2,hd,pr,hac⟩;rw[aC,List.take_length]at pr;exact q D acc H2 (s1.free hD) (s1.trans s2) hd pr
  ·exact .inr ⟨hS,q⟩
theorem lA:Kv T T.k8 5 (wK a.eJ):=by
 have cH:=cH T;refine T.k8.Ft fG fun cdv A outer s H vs Q E hr h=>?_
 ·obtain⟨wb,p,ts,S,rfl,hw,W,q⟩:=h;refine⟨_,(ah (aI (i:=2) fG.nd rfl (Or.inr rfl) (aL Cj (eg (aa ai af)) (aG (bW K) (pv 0) ai)))
   (ah (tu rfl (nX K (aK cH hr T.gC.c gr.passes (aa (pv 0) (aa (pv 1) af)))) (Fq K (n:=3) rfl (aS (aX 3 fG.nd) (aS (aX 4 fG.nd) (aS (aX 5 fG.nd) dX))))
   (ah (DY (pv 2) (pv 3) (getL K) ai DZ set_list)
   (au (DY (pv 2) (pv 4) (getL K) ai DZ set_list))))
   (au (aB (bx (own:=["point"]) (frees:=["ends"]) (js:=[2]) (az (aj iR) ["web","tie_set","ends","one","other","length"]) rfl (bf (by rfl) T.bV (aa (aG (bW K) (pv 0) ai) af)) (fun _ _ _ _=>(aX 0 (show(["point","ends"]:List Str).Nodup by decide +kernel))) (fun _ _ _ _=>(cR (aH ee (aL dD (aG (j7 K) (pv 1) (pv 0)) ai) ai (aJ _)))) (fun _ _ _ _=>(pv 0))))))),?_⟩
  refine we ?_;intro cA cP dm eO;obtain⟨b,xs,h1,h2,h3⟩:=id hw.ex;have wp:=W.WU;refine⟨dl rfl,fun l0 Ei=>?_⟩
  have s0:av H (upd H l0 (.lst [.int 0])):=av.new Ei;refine(ao rfl (bX (aP.of (s0 _ _ h1)) (ak (j:=0) rfl) ⟨l0,(p:Int),ao rfl ⟨rfl,ae,by lia,by lia,(by rw[Int.toNat_natCast];show 1*p<=sizeLine;exact dl (Nat.ble_eq.mpr (by lia))),fun e he=>?_⟩⟩))
  have s1:=s0.trans (av.new (o:=.lst (List.replicate (p:Int).toNat [V.int 0]).flatten) he);have TZ:upd (upd H l0 (.lst [.int 0])) e (.lst (List.replicate (p:Int).toNat [V.int 0]).flatten) e=some (.lst (l6 (List.replicate p 0))):=by
   rw[ae,Int.toNat_natCast,IC]
  generalize upd (upd H l0 (.lst [.int 0])) e (.lst (List.replicate (p:Int).toNat [V.int 0]).flatten)=H1 at s1 TZ;have Sh:H e=none:=s0.free he;refine(ao rfl (ao rfl ⟨wb,p,ts,S,rfl,hw.same s1,W,?_⟩));rcases q with⟨m,rfl,hm,q⟩|⟨hS,q⟩
  ·refine .inl ⟨m,rfl,hm,fun L ys H2 Xo s2 hL pr=>⟨L,rfl,⟨_,aO.of hL⟩,?_⟩⟩
   have s12:=s1.trans s2;have heL:e≠L:=bg TZ Xo;have Si:ys.length<=24:=by
    rw[pr.length,List.length_map];have hb:Builtin.Int.intBits (m:Int)<=ts.length:=bits_le hm;have wl:=W.len;have:=List.length_filter_le (bit (m:Int)) (List.range (Builtin.Int.intBits (m:Int)));rw[List.length_range]at this;exact Nat.le_trans this (by lia)
   refine fZ (K:=K) (a:=L) (xs:=ys) (fun i σ H3=>∃ v1 v2 v3,σ=[some (.ref wb),some (.int (m:Int)),some (.ref e),v1,v2,v3]/\(∀ x o,H2 x=some o->x≠e->H3 x=some o)/\H3 e=some (.lst (l6 ((((bE (m:Int)).map (bL ts)).take i).foldl stepT (List.replicate p 0)))))
    ⟨none,none,none,rfl,fun _ _ z _=>z,s2 _ _ TZ⟩ (fun i σ H3 _ ⟨_,_,_,_,z,_⟩=>aO.of (z _ _ hL (Ne.symm heL))) ?_ ?_
   ·rintro i y D' σ H3 hi ⟨v1,v2,v3,rfl,z3,GX⟩;obtain⟨t,ht,c,rfl,hc⟩:=Paired.kc pr hi;have hce:c≠e:=aW hc (s2 _ _ TZ) (by intro z;cases z)
    have hc3:=z3 _ _ hc hce;have htm:t∈ts:=by
     obtain⟨k,hk,rfl⟩:=List.mem_map.mp (List.mem_of_getElem? ht);unfold bL;have lP:=tw hm hk;rw[List.getD_eq_getElem?_getD];simp[lP]
    obtain⟨a0,a1,b0,b1⟩:=W.WT.ends t htm;obtain⟨t1,t2,t3⟩:=t;dsimp only at a0 a1 b0 b1;obtain⟨j1,rfl⟩:=Int.eq_ofNat_of_zero_le a0;obtain⟨j2,rfl⟩:=Int.eq_ofNat_of_zero_le b0;generalize hE:(((bE (m:Int)).map (bL ts)).take i).foldl stepT (List.replicate p 0)=EE at GX;have Xp:EE.length=p:=by rw[<-hE,qt,List.length_replicate]
    have Xq:j1<EE.length:=by lia
    have Li:j2<(bump EE (j1:Int)).length:=by rw[kg];lia
    refine⟨c,_,rfl,aP.of hc3,rfl,_,_,rfl,_,_,rfl,_,_,rfl,rfl,?_⟩;refine(ao rfl (ao rfl ⟨e,_,j1,_,rfl,rfl,aO.of GX,qu Xq,_,_,rfl,rfl,e,_,_,j1,rfl,rfl,GX,pq (by rw[l6,List.length_map];exact Xq),?_⟩))
    rw[uo];refine(ao rfl (ao rfl ⟨e,_,j2,_,rfl,rfl,aO.of ae,qu Li,_,_,rfl,rfl,e,_,_,j2,rfl,rfl,ae,pq (by rw[l6,List.length_map];exact Li),?_⟩))
    rw[uo];refine⟨_,_,_,rfl,fun x o z hx=>by rw[aq hx,aq hx];exact z3 x o z hx,?_⟩
    rw[ae,List.take_add_one,ht,List.foldl_append,hE];rfl
   ·rintro σ H3 ⟨v1,v2,v3,rfl,z3,GX⟩;have hwe:wb≠e:=bg h1 Sh;have vC:av H H3:=fun x o z=>z3 x o (s12 x o z) (bg z Sh)
    have hE:H3 e=some (.lst (l6 (jO p ts (m:Int)))):=by
     rw[GX,List.take_of_length_le (by rw[<-pr.length];exact Nat.le_refl _),xn hm]
    have Xp:(jO p ts (m:Int)).length=p:=by rw[xn hm,qt,List.length_replicate]
    refine(ao rfl (bX (aP.of (vC _ _ h1)) (ak (j:=0) rfl) (ao rfl ⟨(by lia),(by lia),fun D hD=>cz (lo:=0) (m:=p) (nF (fun i=>decide ((jO p ts (m:Int)).getD i 0%2=1)) H3 D) (.start hD) (fun i acc H4 _ p=>p.len) (dl (Nat.ble_eq.mpr (by lia))) ?_ ?_⟩)))
    ·intro i acc H4 hi pk;rw[Int.zero_add];refine⟨rfl,ao rfl (ao rfl (jP (aO.of (pk.1 _ _ hE)) (ak (j:=i) (qu (by rw[Xp];exact hi))) (b7 ⟨(nC rfl),rfl,ao rfl (?_)⟩)))⟩
     rw[LZ];cases hb:decide ((jO p ts (m:Int)).getD i 0%2=1) with
     | true=>exact(ao rfl (pk.yes hD (av.refl _) hb))
     | false=>exact pk.no (av.refl _) hb
    ·intro acc H4 pk;exact q D H4 (vC.trans pk.1) (by rw[pk.2.1,pk.2.2];rfl)
  ·exact .inr ⟨hS,q _ s1⟩
theorem rN:Kv T T.rD 6 (Dz a.eJ):=by
 have lA:=lA T;refine T.rD.Ft CZ fun cdv A outer s H vs Q E hr h=>?_
 ·obtain⟨wb,p,ts,S,rfl,hw,W,q⟩:=h;refine⟨_,(au (aB (cQ (Ij K hr.units) (aK lA hr T.k8.c gr.passes (aa (pv 0) (aa (pv 1) af))) (eg af) (aJ _)))),?_⟩;refine(ao rfl (ao rfl ⟨wb,p,ts,S,rfl,hw,W,?_⟩));rcases q with⟨m,rfl,hm,q⟩|⟨hS,q⟩
  ·refine .inl ⟨m,rfl,hm,fun D H1 s1 hD=>⟨dl rfl,fun l hl=>?_⟩⟩
   have s2:av H1 (upd H1 l (.lst [])):=av.new hl;refine⟨_,_,.lst (aO.of (s2 _ _ hD)) (kh _),.lst (aO.of ae) .nil,iy _,rfl,?_⟩;rw[LY];exact q _ (s1.trans s2)
  ·exact .inr ⟨hS,q⟩
def Kw:Sp:=fun vs H Q _=>∃(l:Addr) (L:Nat->Nat) (p u v:Nat),vs=[.ref l,.int (u:Int),.int (v:Int)]/\H l=some (.lst (cE L p))/\p<=10/\u<p/\v<p/\
 ∀ D H',H D=none->av H H'->H' D=some (.lst (cE (RM.join L u v) p))->Q (.ref D) H'
def GY(C:Addr):Sp:=fun vs H Q E=>∃ w p ts,∃ g:aE p ts,∃ S,vs=[.ref w,.int S]/\bu H w p ts/\qb ts S (∀ H',av H H'->E (.ref C) none H') fun m =>
 ∀ D ys H',H D=none->av H H'->H' D=some (.lst ys)->Paired (Nc D H H') ys ((dZ (bT p ts g m) p).map (pieceOf (bT p ts g m) p))->Q (.ref D) H'
def MC:Sp:=fun vs H Q _=>∃ w p ts,∃ g:aE p ts,vs=[.ref w]/\bu H w p ts/\∀ H',av H H'->Q (.int (g.N.aU.length:Int)) H'
theorem cI:Ok T T.fb 1 Kw:=by
 refine T.fb.ok gx fun cdv A outer s H vs Q E hr h=>?_
 ·obtain⟨l,L,p,u,v,rfl,hl,hp,hu,hv,q⟩:=h;refine⟨_,(ah (aI (i:=3) gx.nd rfl (Or.inr rfl) (aF (wY rfl) (by rfl) T.ER PyProof.Rows.boot_min (aa (aG (j7 K) (pv 0) (pv 1)) (aa (aG (j7 K) (pv 0) (pv 2)) af))))
   (ah (aI (i:=4) gx.nd rfl (Or.inr rfl) (aF (wX rfl) (by rfl) T.Nx PyProof.Rows.boot_max (aa (aG (j7 K) (pv 0) (pv 1)) (aa (aG (j7 K) (pv 0) (pv 2)) af))))
   (au (aB (bx (own:=["least"]) (frees:=["low","high"]) (js:=[3,4]) (az (aj eV) ["leasts","one","other","low","high"]) rfl (nX K (pv 0)) (fun _ _ _ _=>(aX 0 (show(["least","low","high"]:List Str).Nodup by decide +kernel))) (fun _ _ _ _=>bY) (fun _ _ _ _=>(lW (aH ee (pv 0) (pv 2) (aJ _)) (pv 1) (pv 0)))))))),?_⟩
  refine gy ?_;intro cA cP;refine(ao rfl (ao rfl (jP (aO.of hl) (ak (j:=u) (bS hu)) (ao rfl (ao rfl (jP (aO.of hl) (ak (j:=v) (bS hv)) ⟨_,_,rfl,?_⟩))))));refine(ao rfl (ao rfl (jP (aO.of hl) (ak (j:=u) (bS hu)) (ao rfl (ao rfl (jP (aO.of hl) (ak (j:=v) (bS hv)) ⟨_,_,rfl,?_⟩))))));refine(ao rfl ⟨l,rfl,⟨_,aO.of hl⟩,fun D hD=>bj (xs:=cE L p) (uA (RM.join L u v) H D) (.start hD) (fun i acc H2 _ pd=>⟨aO.of (pd.1 _ _ hl),pd.len⟩) (by rw[ck];exact dl (Nat.ble_eq.mpr (by lia))) ?_ ?_⟩)
  ·intro i x acc H2 hx pd;obtain⟨hi,rfl⟩:=kN hx;refine⟨rfl,ao rfl (ao rfl ⟨rfl,ao rfl (?_)⟩)⟩;rw[Ex,jC]
   by_cases hm:L i=max (L u) (L v)
   ·rw[decide_eq_true hm];refine ir (ao rfl (pd.next hD (av.refl _) ?_));rw[Ew];unfold RM.join;rw[if_pos hm]
   ·rw[decide_eq_false hm];refine cC (ao rfl (pd.next hD (av.refl _) ?_));unfold RM.join;rw[if_neg hm]
  ·intro acc H2 pd;rw[ck]at pd;exact q D H2 hD pd.1 (by rw[pd.2.1,pd.2.2])
theorem kB:Kv T T.p9 5 (GY a.eJ):=by
 have cH:=cH T;have cI:=cI T;refine T.p9.Ft gf fun cdv A outer s H vs Q E hr h=>?_
 ·obtain⟨wb,p,ts,g,S,rfl,hw,q⟩:=h;refine⟨_,(ah (aI (i:=2) gf.nd rfl (Or.inr rfl) (cT (Na rfl) (by rfl) T.Dv PyProof.Rows.boot_list (aa (cT Aa (by rfl) T.bV PyProof.Rows.boot_range (aa (aG (bW K) (pv 0) ai) af)) af)))
   (ah (tu rfl (nX K (aK cH hr T.gC.c gr.passes (aa (pv 0) (aa (pv 1) af)))) (Fq K (n:=3) rfl (aS (aX 3 gf.nd) (aS (aX 4 gf.nd) (aS (aX 5 gf.nd) dX))))
   (au (aI (i:=2) gf.nd rfl (Or.inr rfl) (aK cI hr T.fb.c aN (aa (pv 2) (aa (pv 3) (aa (pv 4) af)))))))
   (ah (aI (i:=6) gf.nd rfl (Or.inl rfl) (eg af))
   (ah (tu rfl (bf (by rfl) T.bV (aa (aG (bW K) (pv 0) ai) af)) (oX (i:=7) gf.nd rfl (Or.inr rfl))
   (au (bF (aH ee (aG (j7 K) (pv 2) (pv 7)) (pv 7) (aJ _)) (au (dW (JZ K (lZ PySem.F.plainAttrs_list PySem.F.slot_list_append PySem.F.type_list_append c8 (pv 6) (aa (bx (own:=["point"]) (frees:=["leasts","start"]) (js:=[2,7]) (az (aj pR) ["web","tie_set","leasts","one","other","length","found","start"]) rfl (bf (by rfl) T.bV (aa (aG (bW K) (pv 0) ai) af)) (fun _ _ _ _=>(aX 0 (show(["point","leasts","start"]:List Str).Nodup by decide +kernel))) (fun _ _ _ _=>(cR (aH ee (aG (j7 K) (pv 1) (pv 0)) (pv 2) (aJ _)))) (fun _ _ _ _=>(pv 0))) af))))) aR)))
   (au (aB (pv 6))))))),?_⟩
  refine Gk ?_;intro cA cP dm eO fF lN sE;obtain⟨b,xs,h1,h2,h3⟩:=id hw.ex;have W:=g.Hv;have wp:=W.WU;have wl:=W.len;refine(ao rfl (bX (aP.of h1) (ak (j:=0) rfl) (ao rfl (fun r hr=>⟨r,p,rfl,ae,by lia,fun l hl=>?_⟩))))
  have s1:av H (upd (upd H r (.E7 0 (p:Int))) l (.lst (vV p))):=(av.new hr).trans (av.new hl);have hl1:upd (upd H r (.E7 0 (p:Int))) l (.lst (vV p)) l=some (.lst (cE (fun x=>x) p)):=ae
  generalize upd (upd H r (.E7 0 (p:Int))) l (.lst (vV p))=H1 at s1 hl1;refine(ao rfl (ao rfl ⟨wb,p,ts,S,rfl,hw.same s1,W,?_⟩));rcases q with⟨m,rfl,hm,q⟩|⟨hS,q⟩
  ·refine .inl ⟨m,rfl,hm,fun T0 ys H2 WQ s2 hT pr=>⟨T0,rfl,⟨_,aO.of hT⟩,?_⟩⟩
   have Si:ys.length<=24:=by
    rw[pr.length,List.length_map];have hb:Builtin.Int.intBits (m:Int)<=ts.length:=bits_le hm;have:=List.length_filter_le (bit (m:Int)) (List.range (Builtin.Int.intBits (m:Int)));rw[List.length_range]at this;exact Nat.le_trans this (by lia)
   refine fZ (K:=K) (a:=T0) (xs:=ys) (fun i σ H3=>∃ la v3 v4 v5,σ=[some (.ref wb),some (.int (m:Int)),some (.ref la),v3,v4,v5,none,none]/\av H2 H3/\H3 la=some (.lst (cE (se p ts g ((bE (m:Int)).take i)) p)))
    ⟨l,none,none,none,rfl,av.refl _,s2 _ _ hl1⟩ (fun i σ H3 _ ⟨_,_,_,_,_,z,_⟩=>aO.of (z _ _ hT)) ?_ ?_
   ·rintro i y D' σ H3 hi ⟨la,v3,v4,v5,rfl,s3,hla⟩;obtain⟨t,ht,c,rfl,hc⟩:=Paired.kc pr hi;have hc3:=s3 _ _ hc;rw[List.getElem?_map]at ht;obtain⟨k,hk,hkt⟩:=Option.map_eq_some_iff.mp ht;have lP:=tw hm (List.mem_of_getElem? hk);have ea:=Er (g:=g) lP;have eb:=Es (g:=g) lP;rw[hkt]at ea eb;have la':=g.N.al k lP;have lb':=g.N.bl k lP;refine⟨c,_,rfl,aP.of hc3,rfl,_,_,rfl,_,_,rfl,_,_,rfl,rfl,?_⟩;refine(ao rfl (ao rfl (ao rfl ⟨la,se p ts g ((bE (m:Int)).take i),p,g.N.a k,g.N.b k,?_,hla,wp,la',lb',fun D H4 Kx s4 hD=>?_⟩)))
    ·rw[<-ea,<-eb];rfl
    ·refine⟨D,_,_,_,rfl,s3.trans s4,?_⟩;rw[hD,List.take_add_one,hk];show _=some (HO.lst (cE (se p ts g ((bE (m:Int)).take i++[k])) p));rw[Co]
   ·rintro σ H3 ⟨la,v3,v4,v5,rfl,s3,hla⟩;have hys:ys.length=(bE (m:Int)).length:=by rw[pr.length,List.length_map]
    rw[hys,List.take_length,Cp hm]at hla;have vC:av H H3:=(s1.trans s2).trans s3;refine⟨dl rfl,fun D hD=>?_⟩
    have t0:uC (bT p ts g m) p H3 D 0 (upd H3 D (.lst [])):=uC.start hD;generalize upd H3 D (.lst [])=H4 at t0;refine(ao rfl (bX (aP.of (t0.1 _ _ (vC _ _ h1))) (ak (j:=0) rfl) (ao rfl ⟨(by lia),(by lia),?_⟩)))
    refine c5 (lo:=0) (n:=(p:Int).toNat) (fun i σ H5=>∃ v7,σ=[some (.ref wb),some (.int (m:Int)),some (.ref la),v3,v4,v5,some (.ref D),v7]/\uC (bT p ts g m) p H3 D i H5) ⟨none,rfl,t0⟩ ?_ ?_
    ·rintro i D' σ H5 hi ⟨v7,rfl,t5⟩;rw[Int.toNat_natCast]at hi;rw[Int.zero_add];have Sj:=t5.1 _ _ hla;refine(ao rfl (ao rfl (jP (aO.of Sj) (ak (j:=i) (bS hi)) (ao rfl ⟨rfl,ao rfl (?_)⟩))));rw[jC]
     by_cases hr:bT p ts g m i=i
     ·rw[decide_eq_true hr];obtain⟨ys0,NB⟩:∃ ys,H5 D=some (.lst ys):=let⟨_,ys,z,_⟩:=t5;⟨ys,z⟩;refine ir (ao rfl ⟨.inl ⟨rfl,_,aO.of NB⟩,ao rfl (bX (aP.of (t5.1 _ _ (vC _ _ h1))) (ak (j:=0) rfl) (ao rfl ⟨(by lia),(by lia),fun B hB=>cz (lo:=0) (m:=(p:Int).toNat) (nF (fun x=>decide (bT p ts g m x=i)) H5 B) (.start hB) (fun i acc H6 _ pk=>pk.len) (dl (Nat.ble_eq.mpr (by lia))) ?_ ?_⟩))⟩)
      ·intro x acc H6 hx pk;rw[Int.toNat_natCast]at hx;rw[Int.zero_add];refine⟨rfl,ao rfl (ao rfl (jP (aO.of (pk.1 _ _ Sj)) (ak (j:=x) (bS hx)) (ao rfl ⟨rfl,ao rfl (?_)⟩)))⟩;rw[jC];cases hb:decide (bT p ts g m x=i) with
       | true=>exact(ao rfl (pk.yes hB (av.refl _) hb))
       | false=>exact pk.no (av.refl _) hb
      ·intro acc H6 pk;have hB6:H6 B=some (.lst (aA (pieceOf (bT p ts g m) p i))):=by rw[pk.2.1,pk.2.2,Int.toNat_natCast];rfl
       obtain⟨ys1,Ph,hl1,t7⟩:=t5.push hD hr pk.1 hB hB6;exact⟨D,ys1,_,rfl,rfl,Ph,iF (by lia),ao rfl (t7)⟩
     ·rw[decide_eq_false hr];exact cC (ao rfl (t5.skip hr))
    ·rintro σ H5 ⟨v7,rfl,t5⟩;rw[Int.toNat_natCast]at t5;obtain⟨s5,ys5,NB,pr5,hl5⟩:=t5;exact(ao rfl (q D ys5 H5 (vC.free hD) (vC.trans s5) NB (Paired.imp' (fun _ _ ⟨e,he,hn,h0,z⟩=>⟨e,he,hn,vC.free h0,z⟩) pr5)))
  ·exact .inr ⟨hS,q _ s1⟩
theorem DA:Ok T T.Du 6 MC:=by
 have kB:=kB T;have dG:=dG T;refine T.Du.ok MA fun cdv A outer s H vs Q E hr h=>?_
 ·obtain⟨wb,p,ts,g,rfl,hw,q⟩:=h;refine⟨_,(au (aB (aL dS (aL jg (aF (ez K) (by rfl) T.b8 PySem.boot_len (aa (aG (bW K) (pv 0) ai) af)) (aG (bW K) (pv 0) ai)) (aF (ez K) (by rfl) T.b8 PySem.boot_len (aa (aK kB hr T.p9.c xj (aa (pv 0) (aa (aK dG hr T.jv.c aN (aa (pv 0) af)) af))) af))))),?_⟩
  obtain⟨b,xs,h1,h2,h3⟩:=id hw.ex;have vB:=h3.length;have e2:((2:Int)^ts.length-1)=((2^ts.length-1:Nat):Int):=by
   have h:((2:Int)^ts.length)=((2^ts.length:Nat):Int):=by simp
   have:=Nat.two_pow_pos ts.length
   lia
  have hlt:2^ts.length-1<2^ts.length:=by have:=Nat.two_pow_pos ts.length;lia
  refine(ao rfl (bX (aP.of h1) (ak (j:=1) rfl) (lJ rfl (.inr (aP.of h2)) (ao rfl (bX (aP.of h1) (ak (j:=0) rfl) (b7 (?_)))))));refine(ao rfl (ao rfl ⟨wb,p,ts,rfl,hw,g.Hv,wb,p,ts,g,_,rfl,hw,.inl ⟨2^ts.length-1,e2,hlt,fun D ys H' Kx s' hD pr=>(lJ rfl (.inl (aO.of hD)) (b7 (?_)))⟩⟩))
  have hv:=Eu (g:=g);have hy:ys.length=(dZ (bT p ts g (2^ts.length-1)) p).length:=by rw[pr.length,List.length_map]
  show Q (.int ((xs.length:Int)-(p:Int)+(ys.length:Int))) H';rw[vB,hy,hv];exact q H' s'
def DB(C:Addr):Sp:=fun vs H Q E=>∃ w p ts,∃ g:aE p ts,∃ S,vs=[.ref w,.int S]/\bu H w p ts/\qb ts S (∀ H',av H H'->E (.ref C) none H') fun m=>∀ H',av H H'->Q (.bl (sr p ts g m)) H'
theorem rO:Kv T T.rE 7 (DB a.eJ):=by
 have rN:=rN T;have kB:=kB T;have cg:=cg T;refine T.rE.Ft vm fun cdv A outer s H vs Q E hr h=>?_
 ·obtain⟨wb,p,ts,g,S,rfl,hw,q⟩:=h;refine⟨_,(ah (bF (cZ (bM (aK rN hr T.rD.c gr.passes (aa (pv 0) (aa (pv 1) af))))) (au (aB cS)) aR)
   (ah (eR (i:=2) vm.nd rfl rfl (own:=["piece"]) (frees:=[]) (js:=[]) (az (aj nk) ["web","tie_set","touched"]) rfl (nX K (aK kB hr T.p9.c gr.passes (aa (pv 0) (aa (pv 1) af)))) (fun _ _ _ _=>(aX 0 (show(["piece"]:List Str).Nodup by decide +kernel))) (fun _ _ _ _=>(cR (aH nK (aF (ez K) (by rfl) T.b8 PySem.boot_len (aa (pv 0) af)) ai (aJ _)))) (fun _ _ _ _=>(pv 0)))
   (au (aB (tS (cQ ee (aF (ez K) (by rfl) T.b8 PySem.boot_len (aa (pv 2) af)) ai (aJ _)) (tR (cQ ee (aF (ez K) (by rfl) T.b8 PySem.boot_len (aa (aG (j7 K) (pv 2) ai) af)) (aF (ez K) (by rfl) T.b8 PySem.boot_len (aa (aK cg hr T.g9.c aN (aa (pv 1) af)) af)) (aJ _)))))))),?_⟩
  refine C1 ?_;intro cA cP dm;have W:=g.Hv;have wp:=g.p2;have wl:=g.len;refine(ao rfl (ao rfl ⟨wb,p,ts,S,rfl,hw,W,?_⟩));rcases q with⟨m,rfl,hm,q⟩|⟨hS,q⟩
  ·refine .inl ⟨m,rfl,hm,fun H1 s1=>(ao rfl (?_))⟩
   by_cases ev:uh p ts (m:Int)=[]
   ·rw[decide_eq_true ev];rw[Cv ev]at q;refine cC (ao rfl (ao rfl ⟨wb,p,ts,g,_,rfl,hw.same s1,.inl ⟨m,rfl,hm,fun D ys H2 Kx s2 hD pr=>⟨D,rfl,⟨_,aO.of hD⟩,fun C hC=>?_⟩⟩⟩))
    have Si:ys.length<=10:=by
     rw[pr.length,List.length_map];unfold dZ;have:=List.length_filter_le (fun x=>decide (bT p ts g m x=x)) (List.range p)
     rw[List.length_range]at this;exact Nat.le_trans this wp
    refine bj (xs:=ys) (uJ (fun l=>decide (1<l.length)) ((dZ (bT p ts g m) p).map (pieceOf (bT p ts g m) p)) H2 C) (.start hC) (fun i acc H3 _ sf=>⟨aO.of (sf.1 _ _ hD),sf.len⟩) (bU (by lia)) ?_ ?_
    ·intro i x acc H3 hx sf;obtain⟨l,hl,b,rfl,hbn,hb0,hb⟩:=Paired.kc pr hx;refine⟨rfl,ao rfl (lJ rfl (.inl (aO.of (sf.1 _ _ hb))) (b7 (ao rfl (?_))))⟩;cases GZ:decide (1<l.length) with
     | true =>
       have e:decide ((1:Int)<((aA l).length:Int))=true:=decide_eq_true (by have:=of_decide_eq_true GZ;rw[aC];lia)
       show if decide ((1:Int)<((aA l).length:Int))=true then _ else _
       rw[e];exact ir (ao rfl (sf.yes hC hl GZ ⟨b,rfl,hb⟩))
     | false =>
       have e:decide ((1:Int)<((aA l).length:Int))=false:=decide_eq_false (by have:=of_decide_eq_false GZ;rw[aC];lia)
       show if decide ((1:Int)<((aA l).length:Int))=true then _ else _
       rw[e];exact cC (sf.no hl GZ)
    ·intro acc H3 sf;have pa:Paired (OB H2) acc ((dO (bT p ts g m) p).map (pieceOf (bT p ts g m) p)):=by
      have h:=sf.2.2;rw[pr.length,List.take_length,List.filter_map]at h;exact h
     have hal:=pa.length;rw[List.length_map]at hal;refine(ao rfl (lJ rfl (.inl (aO.of sf.2.1)) ⟨rfl,ao rfl (?_)⟩));have vC:=(s1.trans s2).trans sf.1;have aal:Builtin.Int.intBits (m:Int)<=ts.length:=bits_le hm;generalize dO (bT p ts g m) p=tl at q pa hal;cases tl with
     | nil =>
       have hal:acc.length=0:=hal;rw[hal];exact cC (q H3 vC)
     | cons s r =>
       cases r with
       | nil =>
         cases pa with
         | cons hy pn =>
           cases pn;obtain⟨b,rfl,hb⟩:=hy;refine ir (ao rfl (jP (aO.of sf.2.1) (ak (j:=0) rfl) (lJ rfl (.inl (aO.of (sf.1 _ _ hb))) (ao rfl ⟨m,rfl,by lia,fun D4 H4 hn4 s4 BY=>(lJ rfl (.inl (aO.of BY)) ⟨rfl,?_⟩)⟩))))
           rw[aC,aC,jC];exact q H4 (vC.trans s4)
       | cons t r =>
         have hal:acc.length=r.length+2:=hal;have e:decide (V.int ((acc.length:Nat):Int)=V.int 1)=false:=decide_eq_false fun z=>by
          have:=V.int.inj z
          lia
         rw[e];exact cC (q H3 vC)
   ·rw[decide_eq_false ev];have er:sr p ts g m=false:=by
     unfold sr;rw[decide_eq_false ev,Bool.false_and]
    rw[er]at q;exact ir (q H1 s1)
  ·exact .inr ⟨hS,q⟩
def qf:Sp:=fun vs H Q _=>∃ w p ts,∃ g:aE p ts,∃ S:Int,vs=[.ref w,.int S]/\bu H w p ts/\∀ H' (d:Bool),av H H'->(d=true↔∃ m:Nat,S=(m:Int)/\m<2^ts.length/\g.N.Ring m)->Q (.bl d) H'
theorem ic:Ok T T.hU 8 qf:=by
 have kA:=kA T;have rO:=rO T;refine T.hU.ok pU fun cdv A outer s H vs Q E hr h=>?_
 ·obtain⟨wb,p,ts,g,S,rfl,hw,q⟩:=h;refine⟨_,(au (aB (tS (aK kA hr T.p8.c aN (aa (pv 0) (aa (pv 1) af))) (tR (aK rO hr T.rE.c xj (aa (pv 0) (aa (pv 1) af))))))),?_⟩;have h2n:((2:Int)^ts.length)=((2^ts.length:Nat):Int):=by simp
  refine(ao rfl (ao rfl ⟨wb,p,ts,S,rfl,hw,g.Hv,_,rfl,?_⟩))
  by_cases hs:0<=S/\S<2^ts.length
  ·rw[decide_eq_true hs];obtain⟨m,rfl⟩:=Int.eq_ofNat_of_zero_le hs.1;have hm:m<2^ts.length:=by lia
   refine ir (ao rfl (ao rfl ⟨wb,p,ts,g,_,rfl,hw,.inl ⟨m,rfl,hm,fun H1 s1=>q H1 _ s1 ?_⟩⟩))
   rw[FJ g hm];exact⟨fun r=>⟨m,rfl,hm,r⟩,fun⟨m',e,_,r⟩=>by
    have:m=m':=by lia
    rw[this];exact r⟩
  ·rw[decide_eq_false hs];refine cC (q H false (av.refl _) ⟨fun z=>(Bool.false_ne_true z).elim,fun⟨m',e,hm,_⟩=>absurd ⟨by lia,by lia⟩ hs⟩)
def G0:Sp:=fun vs H Q _=>∃ w p ts,∃ g:aE p ts,vs=[.ref w]/\bu H w p ts/\∀ D H',H D=none->av H H'->H' D=some (.lst (cE (g.N.trail ts.length) p))->Q (.ref D) H'
def G3:Sp:=fun vs H Q _=>∃ w p ts,∃ g:aE p ts,vs=[.ref w]/\bu H w p ts/\∀ H',av H H'->Q (.int ((jD p ts g:Nat):Int)) H'
def G4:Sp:=fun vs H Q _=>∃ w p ts,∃ g:aE p ts,vs=[.ref w]/\bu H w p ts/\∀ D H',H D=none->av H H'->H' D=some (.lst (aA g.N.aU))->Q (.ref D) H'
def vD:Sp:=fun vs H Q _=>∃ w p ts,∃ g:aE p ts,∃(D:Addr) (c:Nat),vs=[.ref w,.ref D,.int (c:Int)]/\bu H w p ts/\H D=some (.lst (cE (g.N.trail ts.length) p))/\c<ts.length/\Q (.int ((g.N.ring c:Nat):Int)) H
theorem DC{H:Hp}{xs:List V}{p:Nat}{ts:List dJ}{g:aE p ts}{k:Nat}(h3:Paired (TupAt H) xs ts)(hk:k<ts.length):∃ c,xs[k]?=some (.ref c)/\H c=some (.tup [.int ((g.N.a k:Nat):Int),.int ((g.N.b k:Nat):Int),.int (bL ts k).2.2]):=by
 have hkx:k<xs.length:=by rw[h3.length];exact hk
 obtain⟨t,ht,c,hc,hct⟩:=Paired.kc h3 (i:=k) (x:=xs[k]) (by simp[hkx])
 have RG:t=bL ts k:=by
  have z:=qw hk;rw[ht]at z;exact Option.some.inj z
 refine⟨c,by rw[<-hc];simp[hkx],?_⟩
 rw[hct,<-Er hk,<-Es hk,RG];rfl
theorem bJ:Ok T T.dN 2 G0:=by
 have cI:=cI T;refine T.dN.ok bq fun cdv A outer s H vs Q E hr h=>?_
 ·obtain⟨wb,p,ts,g,rfl,hw,q⟩:=h;refine⟨_,(ah (aI (i:=1) bq.nd rfl (Or.inl rfl) (cT (Na rfl) (by rfl) T.Dv PyProof.Rows.boot_list (aa (cT Aa (by rfl) T.bV PyProof.Rows.boot_range (aa (aG (bW K) (pv 0) ai) af)) af)))
   (ah (aI (i:=2) bq.nd rfl (Or.inl rfl) (aL Cj (eg (aa ai af)) (aG (bW K) (pv 0) ai)))
   (ah (cK PassesOwn.never rfl (bf (by rfl) T.bV (aa (aF (ez K) (by rfl) T.b8 PySem.boot_len (aa (aG (bW K) (pv 0) ai) af)) af)) (aX 3 bq.nd)
   (ah (aI (i:=4) bq.nd rfl (Or.inl rfl) (aG (bW K) (aG (bW K) (aG (bW K) (pv 0) ai) (pv 3)) ai))
   (ah (aI (i:=5) bq.nd rfl (Or.inl rfl) (aG (bW K) (aG (bW K) (aG (bW K) (pv 0) ai) (pv 3)) ai))
   (au (bF (aH nJ (aG (j7 K) (pv 1) (pv 4)) (aG (j7 K) (pv 1) (pv 5)) (aJ _)) (ah (aI (i:=6) bq.nd rfl (Or.inr rfl) (aL gp (aL gp (aG (j7 K) (pv 2) (pv 4)) (aG (j7 K) (pv 2) (pv 5))) (aL kI ai (pv 3))))
   (ah (aI (i:=7) bq.nd rfl (Or.inr rfl) (aF (wX rfl) (by rfl) T.Nx PyProof.Rows.boot_max (aa (aG (j7 K) (pv 1) (pv 4)) (aa (aG (j7 K) (pv 1) (pv 5)) af))))
   (ah (eR (i:=2) bq.nd rfl rfl (own:=["trail","least"]) (frees:=["bridge","moved"]) (js:=[6,7]) (az (aj fL) ["web","leasts","trails","tie","one","other","bridge","moved"]) rfl (Iv K (by rfl) T.Nz (aa (pv 2) (aa (pv 1) af))) (fun _ _ _ _=>(Fq K (n:=2) rfl (aS (aX 0 (show(["trail","least","bridge","moved"]:List Str).Nodup by decide +kernel)) (aS (aX 1 (show(["trail","least","bridge","moved"]:List Str).Nodup by decide +kernel)) dX)))) (fun _ _ _ _=>bY) (fun _ _ _ _=>(lW (aH ee (pv 1) (pv 3) (aJ _)) (aL gp (pv 0) (pv 2)) (pv 0))))
   (au (aI (i:=1) bq.nd rfl (Or.inl rfl) (aK cI hr T.fb.c aN (aa (pv 1) (aa (pv 4) (aa (pv 5) af))))))))) aR)))))
   (au (aB (pv 2)))))),?_⟩
  refine qO ?_;intro cA cP dm eO fF lN sE xZ x6 x8;obtain⟨bt,xs,h1,h2,h3⟩:=id hw.ex;have wp:=g.p2;have wl:=g.len;have vB:=h3.length;refine(ao rfl (bX (aP.of h1) (ak (j:=0) rfl) (ao rfl (fun r hr=>⟨r,p,rfl,ae,by lia,fun l hl=>?_⟩))))
  have s1:av H (upd (upd H r (.E7 0 (p:Int))) l (.lst (vV p))):=(av.new hr).trans (av.new hl);have hl1:upd (upd H r (.E7 0 (p:Int))) l (.lst (vV p)) l=some (.lst (cE (g.N.fu 0) p)):=ae;generalize upd (upd H r (.E7 0 (p:Int))) l (.lst (vV p))=H1 at s1 hl1;refine⟨dl rfl,fun l0 Ei=>?_⟩
  have s0:av H1 (upd H1 l0 (.lst [.int 0])):=av.new Ei;refine(ao rfl (bX (aP.of (s0 _ _ (s1 _ _ h1))) (ak (j:=0) rfl) ⟨l0,(p:Int),ao rfl ⟨rfl,ae,by lia,by lia,(by rw[Int.toNat_natCast];show 1*p<=sizeLine;exact dl (Nat.ble_eq.mpr (by lia))),fun e he=>?_⟩⟩))
  have s2:=s0.trans (av.new (o:=.lst (List.replicate (p:Int).toNat [V.int 0]).flatten) he);have LV:upd (upd H1 l0 (.lst [.int 0])) e (.lst (List.replicate (p:Int).toNat [V.int 0]).flatten) e=some (.lst (cE (g.N.trail 0) p)):=by
   rw[ae,Int.toNat_natCast,Ah];rfl
  generalize upd (upd H1 l0 (.lst [.int 0])) e (.lst (List.replicate (p:Int).toNat [V.int 0]).flatten)=H2 at s2 LV;refine(ao rfl (bX (aP.of ((s1.trans s2) _ _ h1)) (ak (j:=1) rfl) (lJ rfl (.inr (aP.of ((s1.trans s2) _ _ h2))) (ao rfl ⟨(by lia),(by lia),?_⟩))))
  refine c5 (lo:=0) (n:=(xs.length:Int).toNat) (fun k σ H3=>∃ la ta v3 v4 v5 v6 v7,σ=[some (.ref wb),some (.ref la),some (.ref ta),v3,v4,v5,v6,v7]/\av H H3/\H3 la=some (.lst (cE (g.N.fu k) p))/\H3 ta=some (.lst (cE (g.N.trail k) p))/\H ta=none)
   ⟨l,e,none,none,none,none,none,rfl,s1.trans s2,s2 _ _ hl1,LV,s1.free (s0.free he)⟩ ?_ ?_
  ·rintro k D' σ H3 hk ⟨la,ta,v3,v4,v5,v6,v7,rfl,s3,hla,NC,Qf⟩;rw[Int.toNat_natCast,vB]at hk;rw[Int.zero_add];obtain⟨c,hxc,hct⟩:=DC (g:=g) h3 hk;have hA:=g.N.al k hk;have hB:=g.N.bl k hk;have hls:=RM.Ae (N:=g.N) k;have MD:g.N.l9 k = !decide (g.N.fu k (g.N.a k)=g.N.fu k (g.N.b k)):=rfl;have htr:g.N.trail (k+1)=if g.N.l9 k=true then fun v=>if g.N.fu k v=max (g.N.fu k (g.N.a k)) (g.N.fu k (g.N.b k)) then g.N.trail k v^^^(g.N.trail k (g.N.a k)^^^g.N.trail k (g.N.b k)^^^2^k) else g.N.trail k v else g.N.trail k:=rfl
   generalize g.N.a k=A0 at *;generalize g.N.b k=B0 at *;refine(ao rfl (bX (aP.of (s3 _ _ h1)) (ak (j:=1) rfl) (ao rfl (bX (aP.of (s3 _ _ h2)) (ak (j:=k) hxc) (bX (aP.of (s3 _ _ hct)) (ak (j:=0) rfl) (?_))))));refine(ao rfl (bX (aP.of (s3 _ _ h1)) (ak (j:=1) rfl) (ao rfl (bX (aP.of (s3 _ _ h2)) (ak (j:=k) hxc) (bX (aP.of (s3 _ _ hct)) (ak (j:=1) rfl) (?_))))));refine(ao rfl (ao rfl (jP (aO.of hla) (ak (j:=A0) (bS hA)) (ao rfl (ao rfl (jP (aO.of hla) (ak (j:=B0) (bS hB)) ⟨rfl,ao rfl (?_)⟩))))));rw[jC]
   by_cases he:g.N.fu k A0=g.N.fu k B0
   ·rw[decide_eq_true he]at MD;rw[MD,if_neg (by decide)]at hls htr
    rw[decide_eq_true he];exact cC ⟨la,ta,_,_,_,_,_,rfl,s3,by rw[hls];exact hla,by rw[htr];exact NC,Qf⟩
   ·rw[decide_eq_false he]at MD;rw[MD,if_pos (by rfl)]at hls htr
    rw[decide_eq_false he];have hbr:Builtin.bitXor (Builtin.bitXor ((g.N.trail k A0:Nat):Int) ((g.N.trail k B0:Nat):Int)) (1*2^(k:Int).toNat)=((g.N.trail k A0^^^g.N.trail k B0^^^2^k:Nat):Int):=by
     rw[kM,xor_int,xor_int]
    refine ir (ao rfl (ao rfl (jP (aO.of NC) (ak (j:=A0) (bS hA)) (ao rfl (ao rfl (jP (aO.of NC) (ak (j:=B0) (bS hB)) (b7 (ao rfl (b7 ⟨⟨by lia,by lia,by decide⟩,b7 (?_)⟩)))))))))
    refine(ao rfl (ao rfl (jP (aO.of hla) (ak (j:=A0) (bS hA)) (ao rfl (ao rfl (jP (aO.of hla) (ak (j:=B0) (bS hB)) ⟨_,_,rfl,?_⟩))))));refine(ao rfl (ao rfl ⟨ta,la,rfl,⟨_,aO.of NC⟩,⟨_,aO.of hla⟩,fun D hD=>z9 (xs:=cE (g.N.trail k) p) (ys:=cE (g.N.fu k) p) (by rw[ck,ck]) (uA (g.N.trail (k+1)) H3 D) (.start hD) (fun i acc H4 _ pd=>⟨aO.of (pd.1 _ _ NC),aO.of (pd.1 _ _ hla),pd.len⟩) (by rw[ck];exact dl (Nat.ble_eq.mpr (by lia))) ?_ ?_⟩))
    ·intro i x y T0 acc H4 hx hy pd hT;obtain⟨hi,rfl⟩:=kN hx;obtain⟨_,rfl⟩:=kN hy;refine⟨T0,_,rfl,aP.of ae,rfl,_,_,rfl,_,_,rfl,rfl,rfl,ao rfl (ao rfl ⟨rfl,ao rfl (?_)⟩)⟩;rw[Ex,jC]
     by_cases hm:g.N.fu k i=max (g.N.fu k A0) (g.N.fu k B0)
     ·rw[decide_eq_true hm];refine ir (ao rfl (ao rfl (b7 (pd.next hD (av.new hT) ?_))));show V.int (Builtin.bitXor _ (Builtin.bitXor (Builtin.bitXor _ _) _))=_;rw[hbr,xor_int,htr];show _=V.int (((if _ then _ else _:Nat)):Int)
      rw[if_pos hm]
     ·rw[decide_eq_false hm];refine cC (ao rfl (pd.next hD (av.new hT) ?_));rw[htr];show _=V.int (((if _ then _ else _:Nat)):Int)
      rw[if_neg hm]
    ·intro acc H4 pd;rw[ck]at pd;have BY:H4 D=some (.lst (cE (g.N.trail (k+1)) p)):=by rw[pd.2.1,pd.2.2]
     refine(ao rfl (ao rfl (ao rfl ⟨la,g.N.fu k,p,A0,B0,rfl,pd.1 _ _ hla,wp,hA,hB,fun D2 H5 hn5 s5 jx=>?_⟩)))
     exact⟨D2,D,_,_,_,_,_,rfl,(s3.trans pd.1).trans s5,by rw[hls];exact jx,s5 _ _ BY,s3.free hD⟩
  ·rintro σ H3 ⟨la,ta,v3,v4,v5,v6,v7,rfl,s3,hla,NC,Qf⟩;rw[Int.toNat_natCast,vB]at NC;exact(ao rfl (q ta H3 Qf s3 NC))
theorem vE:Ok T T.vy 3 G3:=by
 have bJ:=bJ T;refine T.vy.ok nj fun cdv A outer s H vs Q E hr h=>?_
 ·obtain⟨wb,p,ts,g,rfl,hw,q⟩:=h;refine⟨_,(ah (aI (i:=1) nj.nd rfl (Or.inl rfl) ai)
   (ah (cK PassesOwn.never rfl (nX K (aK bJ hr T.dN.c aN (aa (pv 0) af))) (aX 2 nj.nd)
   (au (yk (i:=1) nj.nd rfl (Or.inl rfl) (pv 2) HP)))
   (au (aB (pv 1))))),?_⟩
  refine Gm ?_;intro cA cP dm;refine(ao rfl ⟨wb,p,ts,g,rfl,hw,fun D H1 Kx s1 hD=>⟨D,rfl,⟨_,aO.of hD⟩,?_⟩⟩)
  refine fZ (K:=K) (a:=D) (xs:=cE (g.N.trail ts.length) p) (fun i σ H2=>∃ v2,σ=[some (.ref wb),some (.int ((Qd (g.N.trail ts.length) i:Nat):Int)),v2]/\H2=H1) ⟨none,rfl,rfl⟩ (fun i σ H2 _ ⟨_,_,z⟩=>by rw[z];exact aO.of hD) ?_ ?_
  ·rintro i x D' σ H2 hx ⟨v2,rfl,rfl⟩;obtain⟨hi,rfl⟩:=kN hx;refine(ao rfl (ao rfl (b7 ⟨some (.int ((g.N.trail ts.length i:Nat):Int)),?_,rfl⟩)));show[_,some (V.int (Builtin.bitOr _ _)),_]=_;rw[or_int];rfl
  ·rintro σ H2 ⟨v2,rfl,rfl⟩;rw[ck,Cr];exact(ao rfl (q _ s1))
theorem kC:Ok T T.qa 4 G4:=by
 have vE:=vE T;have dG:=dG T;have cg:=cg T;refine T.qa.ok Gn fun cdv A outer s H vs Q E hr h=>?_
 ·obtain⟨wb,p,ts,g,rfl,hw,q⟩:=h;refine⟨_,(au (aB (aK cg hr T.g9.c aN (aa (aL gp (aK dG hr T.jv.c aN (aa (pv 0) af)) (aK vE hr T.vy.c aN (aa (pv 0) af))) af)))),?_⟩;have wl:=g.len;refine(ao rfl ⟨wb,p,ts,rfl,hw,g.Hv,_,rfl,wb,p,ts,g,rfl,hw,fun H1 s1=>(b7 ⟨(2^ts.length-1)^^^jD p ts g,?_,?_,fun D H2 Kx s2 hD=>?_⟩)⟩)
  ·show[V.int (Builtin.bitXor _ _)]=_;rw[L5,xor_int]
  ·exact Nat.le_trans (bits_le xA) (by lia)
  ·rw[Ai]at hD;exact q D H2 (s1.free Kx) (s1.trans s2) hD
theorem jY:Ok T T.jW 1 vD:=by
 refine T.jW.ok mF fun cdv A outer s H vs Q E hr h=>?_
 ·obtain⟨wb,p,ts,g,D,c,rfl,hw,hD,hc,q⟩:=h;refine⟨_,(ah (aI (i:=3) mF.nd rfl (Or.inl rfl) (aG (bW K) (aG (bW K) (pv 0) ai) (pv 2)))
   (au (aB (aL gp (aL gp (aG (j7 K) (pv 1) (aG (bW K) (pv 3) ai)) (aG (j7 K) (pv 1) (aG (bW K) (pv 3) ai))) (aL kI ai (pv 2)))))),?_⟩
  refine jQ ?_;intro cA;obtain⟨bt,xs,h1,h2,h3⟩:=id hw.ex;have wl:=g.len;obtain⟨b,hxc,hct⟩:=DC (g:=g) h3 hc;have hA:=g.N.al c hc;have hB:=g.N.bl c hc;refine(ao rfl (bX (aP.of h1) (ak (j:=1) rfl) (ao rfl (bX (aP.of h2) (ak (j:=c) hxc) (?_)))));refine(ao rfl (ao rfl (bX (aP.of hct) (ak (j:=0) rfl) (jP (aO.of hD) (ak (j:=g.N.a c) (bS hA)) (ao rfl (ao rfl (bX (aP.of hct) (ak (j:=1) rfl) (jP (aO.of hD) (ak (j:=g.N.b c) (bS hB)) (b7 (ao rfl (b7 ⟨⟨by lia,by lia,by decide⟩,b7 (?_)⟩)))))))))))
  show Q (V.int (Builtin.bitXor (Builtin.bitXor _ _) _)) H;rw[kM,xor_int,xor_int];exact q
def wL(C:Addr):Sp:=fun vs H Q E=>∃ w p ts,∃ g:aE p ts,∃ S,vs=[.ref w,.int S]/\bu H w p ts/\
 ((∃ c:Nat,S=(c:Int)/\c∈g.N.aU/\∀ H',av H H'->Q (.int ((g.N.ring c:Nat):Int)) H')\/((∀ c∈g.N.aU,S≠((c:Nat):Int))/\∀ H',av H H'->E (.ref C) none H'))
theorem lB:Kv T T.k9 5 (wL a.rC):=by
 have kC:=kC T;have bJ:=bJ T;have jY:=jY T;refine T.k9.Ft wg fun cdv A outer s H vs Q E hr h=>?_
 ·obtain⟨wb,p,ts,g,S,rfl,hw,q⟩:=h;refine⟨_,(ah (bF (aH (Ik K) (pv 1) (aK kC hr T.qa.c aN (aa (pv 0) af)) (by with_unfolding_all rfl)) (au (ug gr.U1 rfl (by rfl) T.GV PySem.F.excBase_ValueError (aa qh af))) aR)
   (au (aB (aK jY hr T.jW.c aN (aa (pv 0) (aa (aK bJ hr T.dN.c aN (aa (pv 0) af)) (aa (pv 1) af))))))),?_⟩
  refine fH ?_;intro cA cP;refine(ao rfl (ao rfl ⟨wb,p,ts,g,rfl,hw,fun D H1 Kx s1 hD=>(lJ rfl (.inl (aO.of hD)) ⟨rfl,qx _,_,rfl,?_⟩)⟩))
  rcases q with⟨c,rfl,hc,q⟩|⟨hS,q⟩
  ·rw[pG,decide_eq_true hc];refine cC (ao rfl (ao rfl ⟨wb,p,ts,g,rfl,hw.same s1,fun D2 H2 hn2 s2 jx=>(ao rfl ⟨wb,p,ts,g,D2,c,rfl,hw.same (s1.trans s2),jx,(RM.dF.mp hc).1,q _ (s1.trans s2)⟩)⟩))
  ·rw[Oz hS];exact ir ⟨dl rfl,q _ s1⟩
def G5:Sp:=fun vs H Q _=>∃ S1 S2,∃ a b:Nat,vs=[.int S1,.int S2]/\S1=(a:Int)/\S2=(b:Int)/\Builtin.Int.intBits ((a&&&b:Nat):Int)<=1000/\∀ H',av H H'->Q (.int (((bE ((a&&&b:Nat):Int)).length:Nat):Int)) H'
def Ky:Sp:=fun vs H Q _=>∃ S1 S2,∃ a b:Nat,vs=[.int S1,.int S2]/\S1=(a:Int)/\S2=(b:Int)/\Builtin.Int.intBits ((a&&&b:Nat):Int)<=1000/\∀ H',av H H'->Q (.bl (decide ((bE ((a&&&b:Nat):Int)).length%2=1))) H'
structure Pj(p:Nat)(xs:List Nat):Prop where
 up:xs.Pairwise (· < ·)
 lt:∀ x∈xs,x<p
def DE:Sp:=fun vs H Q _=>∃ w p ts,∃(l:Addr) (xs:List Nat),vs=[.ref w,.ref l]/\bu H w p ts/\H l=some (.lst (aA xs))/\Pj p xs/\Q (.bl true) H
def G6:Sp:=fun vs H Q _=>∃ w p ts,∃(l:Addr) (ks:List Nat),vs=[.ref w,.ref l]/\bu H w p ts/\LX p ts/\H l=some (.lst (aA ks))/\(∀ k∈ks,k<ts.length)/\Q (.int ((orM ks:Nat):Int)) H
def G7:Sp:=fun vs H Q _=>∃ w p ts,∃ g:aE p ts,∃(l:Addr) (xs:List Nat),vs=[.ref w,.ref l]/\bu H w p ts/\H l=some (.lst (aA xs))/\Pj p xs/\
 ∀ H',av H H'->Q (.int ((g.N.cut (fun x=>decide (x∈xs)):Nat):Int)) H'
theorem Bx(p:Nat)(f:Nat->Bool):Pj p ((List.range p).filter f):=⟨Cq,fun x hx=>List.mem_range.mp (List.mem_filter.mp hx).1⟩
theorem ME(n:Nat):decide (V.int (((n:Nat):Int)%2)=V.int 1)=decide (n%2=1):=decide_eq_decide.mpr ⟨fun z=>by have:=V.int.inj z;lia,fun z=>congrArg V.int (by lia)⟩
theorem vF:Ok T T.vz 3 G5:=by
 have cg:=cg T;refine T.vz.ok Gp fun cdv A outer s H vs Q E hr h=>?_
 ·obtain⟨S1,S2,u,v,rfl,rfl,rfl,hb,q⟩:=h;refine⟨_,(au (aB (aF (ez K) (by rfl) T.b8 PySem.boot_len (aa (aK cg hr T.g9.c aN (aa (aL yl (pv 0) (pv 1)) af)) af)))),?_⟩
  refine(ao rfl (ao rfl (b7 ⟨u&&&v,?_,hb,fun D H1 hn s1 hD=>(lJ rfl (.inl (aO.of hD)) (?_))⟩)))
  ·show[V.int (Builtin.bitAnd _ _)]=_;rw[and_int]
  ·rw[aC];exact q H1 s1
theorem dP:Ok T T.ik 4 Ky:=by
 have vF:=vF T;refine T.ik.ok vo fun cdv A outer s H vs Q E hr h=>?_
 ·obtain⟨S1,S2,u,v,rfl,rfl,rfl,hb,q⟩:=h;refine⟨_,(au (aB (cQ ee (aL dD (aK vF hr T.vz.c aN (aa (pv 0) (aa (pv 1) af))) ai) ai (aJ _)))),?_⟩;refine(ao rfl (ao rfl ⟨_,_,u,v,rfl,rfl,rfl,hb,fun H1 s1=>(b7 ⟨(nC rfl),rfl,?_⟩)⟩))
  rw[ME];exact q H1 s1
theorem rP:Ok T T.rF 1 DE:=by
 refine T.rF.ok kQ fun cdv A outer s H vs Q E hr h=>?_
 ·obtain⟨wb,p,ts,l,zs,rfl,hw,hl,sd,q⟩:=h;refine⟨_,(ah (aI (i:=2) kQ.nd rfl (Or.inl rfl) (QW NZ ai))
   (ah (cK PassesOwn.never rfl (nX K (pv 1)) (aX 3 kQ.nd)
   (ah (bF (PW.pt (gG (aH D8 (pv 3) (pv 2) (aJ _)) (fQ (aH D9 (pv 3) (aG (bW K) (pv 0) ai) (aJ _))))) (au (aB cS)) aR)
   (au (aI (i:=2) kQ.nd rfl (Or.inl rfl) (pv 3)))))
   (au (aB cS)))),?_⟩
  refine xY ?_;intro cA cP dm eO fF;obtain⟨bt,xs,h1,h2,h3⟩:=id hw.ex;refine(ao rfl (ao rfl ⟨l,rfl,⟨_,aO.of hl⟩,tV (K:=K) (a:=l) (xs:=aA zs) (fun i σ H2=>∃ z v3,σ=[some (.ref wb),some (.ref l),some (.int z),v3]/\H2=H/\∀ x∈zs.drop i,z<(x:Int)) ⟨_,none,rfl,rfl,fun x _=>by show(-1:Int)<_;lia⟩ (fun i σ H2 _ ⟨_,_,_,z,_⟩=>by rw[z];exact aO.of hl) ?_ ?_⟩))
  ·rintro i y σ H2 hy ⟨z,v3,rfl,rfl,hz⟩;obtain⟨x,hx,rfl⟩:=gP hy;have hdr:zs.drop i=x::zs.drop (i+1):=by
    obtain⟨hi,e⟩:=List.getElem?_eq_some_iff.mp hx;rw[List.drop_eq_getElem_cons hi,e]
   have hzx:=hz x (by rw[hdr];exact List.mem_cons_self)
   have hxp:=sd.lt x (List.mem_of_getElem? hx);refine(ao rfl (ao rfl (b7 (ao rfl (vS (by lia) (ao rfl (ao rfl (bX (aP.of h1) (ak (j:=0) rfl) (b7 (ao rfl (vS (by lia) ?_)))))))))))
   refine(ao rfl ⟨(x:Int),ao rfl ⟨rfl,fun y hy=>?_⟩⟩)
   have pw:(zs.drop i).Pairwise (· < ·):=sd.up.sublist (List.drop_sublist _ _);rw[hdr]at pw;have:=(List.pairwise_cons.mp pw).1 y hy
   lia
  ·rintro σ H2 ⟨z,v3,rfl,rfl,_⟩;exact q
theorem kD:Ok T T.p7 1 G6:=by
 refine T.p7.ok ni fun cdv A outer s H vs Q E hr h=>?_
 ·obtain⟨wb,p,ts,l,ks,rfl,hw,W,hl,hk,q⟩:=h;refine⟨_,(ah (aI (i:=2) ni.nd rfl (Or.inl rfl) ai)
   (ah (cK PassesOwn.never rfl (nX K (pv 1)) (aX 3 ni.nd)
   (ah (bF (PW.pt (gG (aH wW (pv 3) ai (aJ _)) (fQ (aH D9 (pv 3) (aF (ez K) (by rfl) T.b8 PySem.boot_len (aa (aG (bW K) (pv 0) ai) af)) (aJ _))))) wU aR)
   (au (yk (i:=2) ni.nd rfl (Or.inl rfl) (aL kI ai (pv 3)) HP))))
   (au (aB (pv 2))))),?_⟩
  refine xY ?_;intro cA cP dm eO fF;obtain⟨bt,xs,h1,h2,h3⟩:=id hw.ex;have vB:=h3.length;have wl:=W.len;refine(ao rfl ⟨l,rfl,⟨_,aO.of hl⟩,tV (K:=K) (a:=l) (xs:=aA ks) (fun i σ H2=>∃ v3,σ=[some (.ref wb),some (.ref l),some (.int ((orM (ks.take i):Nat):Int)),v3]/\H2=H) ⟨none,rfl,rfl⟩ (fun i σ H2 _ ⟨_,_,z⟩=>by rw[z];exact aO.of hl) ?_ ?_⟩)
  ·rintro i x σ H2 hx ⟨v3,rfl,rfl⟩;obtain⟨k,hki,rfl⟩:=gP hx;have hkn:=hk k (List.mem_of_getElem? hki);refine(ao rfl (b7 (ao rfl (vS (by lia) (ao rfl (ao rfl (bX (aP.of h1) (ak (j:=1) rfl) (lJ rfl (.inr (aP.of h2)) (b7 (ao rfl (vS (by lia) ?_)))))))))))
   refine(ao rfl (ao rfl (b7 ⟨⟨by lia,by lia,by decide⟩,b7 ⟨some (.int (k:Int)),?_,rfl⟩⟩)))
   show[_,_,some (V.int (Builtin.bitOr _ (1*2^(k:Int).toNat))),_]=_;rw[kM,or_int,List.take_add_one,hki];unfold Ring.orM;rw[List.foldl_append];rfl
  ·rintro σ H2 ⟨v3,rfl,rfl⟩;rw[aC,List.take_length];exact(ao rfl (q))
theorem vG:Ok T T.vA 2 G7:=by
 have rP:=rP T;have kD:=kD T;refine T.vA.ok Gq fun cdv A outer s H vs Q E hr h=>?_
 ·obtain⟨wb,p,ts,g,l,zs,rfl,hw,hl,sd,q⟩:=h;refine⟨_,(ah (bF (cZ (bM (aK rP hr T.rF.c aN (aa (pv 0) (aa (pv 1) af))))) wU aR)
   (au (aB (aK kD hr T.p7.c aN (aa (pv 0) (aa (bx (own:=["k","tie"]) (frees:=["side"]) (js:=[1]) (az (aj pV) ["web","side"]) rfl (Am K (by rfl) T.jM (aa (aG (bW K) (pv 0) ai) af)) (fun _ _ _ _=>(Fq K (n:=2) rfl (aS (aX 0 (show(["k","tie","side"]:List Str).Nodup by decide +kernel)) (aS (aX 1 (show(["k","tie","side"]:List Str).Nodup by decide +kernel)) dX)))) (fun _ _ _ _=>(cR (aH nJ (cQ (Tp K) (aG (bW K) (pv 1) ai) (pv 2) (by with_unfolding_all rfl)) (cQ (Tp K) (aG (bW K) (pv 1) ai) (pv 2) (by with_unfolding_all rfl)) (aJ _)))) (fun _ _ _ _=>(pv 0))) af)))))),?_⟩
  refine fH ?_;intro cA cP;obtain⟨bt,xs,h1,h2,h3⟩:=id hw.ex;have vB:=h3.length;have wl:=g.len;refine(ao rfl (ao rfl ⟨wb,p,ts,l,zs,rfl,hw,hl,sd,_,rfl,cC ?_⟩));refine(ao rfl (ao rfl (bX (aP.of h1) (ak (j:=1) rfl) ⟨bt,rfl,⟨_,aP.of h2⟩,fun D hD=>CA (xs:=xs) (nF (fun k=>decide (g.N.a k∈zs)^^decide (g.N.b k∈zs)) H D) (.start hD) (fun i acc H2 _ pk=>⟨aP.of (pk.1 _ _ h2),pk.len⟩) (bU (by lia)) ?_ ?_⟩)))
  ·intro i x T0 acc H2 hx pk hT;have hi:i<ts.length:=by have:=(List.getElem?_eq_some_iff.mp hx).1;lia
   obtain⟨b,hxb,hct⟩:=DC (g:=g) h3 hi;rw[hx]at hxb;cases hxb;have Sk:upd H2 T0 (.tup [.int (i:Int),.ref b]) b=some _:=av.new hT _ _ (pk.1 _ _ hct);have hl2:upd H2 T0 (.tup [.int (i:Int),.ref b]) l=some _:=av.new hT _ _ (pk.1 _ _ hl);refine⟨T0,_,rfl,aP.of ae,rfl,_,_,rfl,_,_,rfl,rfl,rfl,?_⟩;refine(ao rfl (bX (aP.of Sk) (ak (j:=0) rfl) (ao rfl (lJ rfl (.inl (aO.of hl2)) ⟨rfl,qx _,_,rfl,bX (aP.of Sk) (ak (j:=1) rfl) (ao rfl (lJ rfl (.inl (aO.of hl2)) ⟨rfl,qx _,rfl,ao rfl (?_)⟩))⟩))));rw[pG,pG];cases e1:decide (g.N.a i∈zs)<;>cases e2:decide (g.N.b i∈zs)
   ·exact pk.no (av.new hT) (by rw[e1,e2];rfl)
   ·exact(ao rfl (pk.yes hD (av.new hT) (by rw[e1,e2];rfl)))
   ·exact(ao rfl (pk.yes hD (av.new hT) (by rw[e1,e2];rfl)))
   ·exact pk.no (av.new hT) (by rw[e1,e2];rfl)
  ·intro acc H2 pk;refine⟨wb,p,ts,D,_,rfl,hw.same pk.1,g.Hv,by rw[pk.2.1,pk.2.2],fun k hk=>?_,?_⟩
   ·have:=List.mem_range.mp (List.mem_filter.mp hk).1
    lia
   ·rw[CB,vB];exact q H2 pk.1
def sG(p:Nat)(ts:List dJ)(g:aE p ts)(m:Nat):List Nat:=(List.range p).filter fun x=>g.N.par (g.N.trail ts.length x) m
def Told(p:Nat)(ts:List dJ)(g:aE p ts)(m:Nat)(H H' : Hp)(t:Addr):Prop :=
 (m=g.N.cut (fun x=>decide (x∈sG p ts g m))/\∃ l,H l=none/\H' t=some (.tup [.str "side",.ref l])/\H' l=some (.lst (aA (sG p ts g m))))\/
 (∃ c,c∈g.N.aU/\g.N.par (g.N.ring c) m=true/\H' t=some (.tup [.str "ring",.int ((g.N.ring c:Nat):Int)]))
def DF(C:Addr):Sp:=fun vs H Q E=>∃ w p ts,∃ g:aE p ts,∃ S,vs=[.ref w,.int S]/\bu H w p ts/\qb ts S (E (.ref C) none H) fun m=>∀ t H',H t=none->av H H'->Told p ts g m H H' t->Q (.ref t) H'
theorem By{p:Nat}{ts:List dJ}{g:aE p ts}{m:Nat}:g.N.cut (fun x=>decide (x∈sG p ts g m))=g.N.cut fun x=>g.N.par (g.N.trail g.N.n x) m:=RM.FO fun x hx=>by
 unfold sG;rw[Bool.eq_iff_iff,decide_eq_true_eq,List.mem_filter,List.mem_range];exact⟨fun z=>z.2,fun z=>⟨hx,z⟩⟩
theorem DG{m:Nat}(h:m≠0):∃ c,(bE (m:Int))[0]?=some c/\m.testBit c=true:=by
 obtain⟨k,hk⟩:=Nat.exists_testBit_of_ne_zero h;have hm:k∈bE (m:Int):=by
  unfold bE;refine List.mem_filter.mpr ⟨List.mem_range.mpr (Nat.lt_of_not_le fun z=>?_),by rw[eT];exact hk⟩
  have:=Ad z;rw[eT,hk]at this;cases this
 cases e:bE (m:Int) with
 | nil =>
   rw[e]at hm;cases hm
 | cons c r =>
   have hc:c∈bE (m:Int):=by rw[e];exact List.mem_cons_self
   unfold bE at hc;have:=(List.mem_filter.mp hc).2;rw[eT]at this;exact⟨c,rfl,this⟩
theorem iB{u v:Nat}(h:u^^^v=0):u=v:=by
 have:=congrArg (fun x=>x^^^v) h
 simpa[Nat.xor_assoc]using this
theorem Kz(n:Nat):decide (V.int ((n:Nat):Int)=V.int 0)=decide (n=0):=decide_eq_decide.mpr ⟨fun z=>by have:=V.int.inj z;lia,fun z=>by rw[z];rfl⟩
theorem rQ:Kv T T.rG 6 (DF a.eJ):=by
 have cY:=cY T;have bJ:=bJ T;have dP:=dP T;have vG:=vG T;have cg:=cg T;have lB:=lB T;refine T.rG.Ft kR fun cdv A outer s H vs Q E hr h=>?_
 ·obtain⟨wb,p,ts,g,S,rfl,hw,q⟩:=h;refine⟨_,(ah (dW (aK cY hr T.iC.c gr.passes (aa (pv 0) (aa (pv 1) af))))
   (ah (aI (i:=2) kR.nd rfl (Or.inr rfl) (aK bJ hr T.dN.c aN (aa (pv 0) af)))
   (ah (eR (i:=3) kR.nd rfl rfl (own:=["point"]) (frees:=["tie_set","trails"]) (js:=[1,2]) (az (aj nq) ["web","tie_set","trails","side","amiss"]) rfl (bf (by rfl) T.bV (aa (aG (bW K) (pv 0) ai) af)) (fun _ _ _ _=>(aX 0 (show(["point","tie_set","trails"]:List Str).Nodup by decide +kernel))) (fun _ _ _ _=>(cR (bM (aK dP hr T.ik.c aN (aa (aG (j7 K) (pv 2) (pv 0)) (aa (pv 1) af)))))) (fun _ _ _ _=>(pv 0)))
   (ah (aI (i:=4) kR.nd rfl (Or.inl rfl) (aL gp (pv 1) (aK vG hr T.vA.c aN (aa (pv 0) (aa (pv 3) af)))))
   (ah (bF (aH ee (pv 4) ai (aJ _)) (au (aB (c7 (aa qh (aa (pv 3) af))))) aR)
   (au (aB (c7 (aa qh (aa (aK lB hr T.k9.c gr.passes (aa (pv 0) (aa (aG (j7 K) (aK cg hr T.g9.c aN (aa (pv 4) af)) ai) af))) af)))))))))),?_⟩
  refine C3 ?_;intro cA cP dm eO fF lN;obtain⟨bt,xs,h1,h2,h3⟩:=id hw.ex;have wl:=g.len;have wp:=g.p2;have W:=g.Hv;rcases q with⟨m,rfl,hm,q⟩|⟨hS,q⟩
  case inr=>exact(ao rfl (ao rfl ⟨wb,p,ts,_,rfl,hw,W,.inr ⟨hS,q⟩⟩))
  refine(ao rfl (ao rfl ⟨wb,p,ts,_,rfl,hw,W,.inl ⟨m,rfl,hm,?_⟩⟩));refine(ao rfl ⟨wb,p,ts,g,rfl,hw,fun D H1 hn1 s1 hD=>?_⟩)
  refine(ao rfl (bX (aP.of (s1 _ _ h1)) (ak (j:=0) rfl) (ao rfl ⟨(by lia),(by lia),fun C hC=>cz (lo:=0) (m:=(p:Int).toNat) (nF (fun x=>g.N.par (g.N.trail ts.length x) m) H1 C) (.start hC) (fun i acc H2 _ pk=>pk.len) (bU (by lia)) ?_ ?_⟩)))
  ·intro i acc H2 hi pk;rw[Int.toNat_natCast]at hi;rw[Int.zero_add];have KA:Builtin.Int.intBits ((g.N.trail ts.length i&&&m:Nat):Int)<=1000:=Nat.le_trans (bits_le (Nat.and_lt_two_pow _ hm)) (by lia)
   refine⟨rfl,ao rfl (ao rfl (jP (aO.of (pk.1 _ _ hD)) (ak (j:=i) (bS hi)) (ao rfl ⟨_,_,g.N.trail ts.length i,m,rfl,rfl,rfl,KA,fun H3 s3=>(ao rfl (?_))⟩)))⟩
   rw[ED (g:=g) hm];cases hb:g.N.par (g.N.trail ts.length i) m with
   | true=>exact(ao rfl (pk.yes hC s3 hb))
   | false=>exact pk.no s3 hb
  ·intro acc H2 pk;have KC:H2 C=some (.lst (aA (sG p ts g m))):=by rw[pk.2.1,pk.2.2,Int.toNat_natCast];rfl
   have s12:=s1.trans pk.1;refine(ao rfl (ao rfl (ao rfl ⟨wb,p,ts,g,C,_,rfl,hw.same s12,KC,Bx p _,fun H3 s3=>(b7 (?_))⟩)))
   have vC:=s12.trans s3;dsimp only;rw[xor_int,By];have ac:=fun k=>RM.Ao (N:=g.N) (m:=m) (k:=k) hm
   have hlt:(m^^^g.N.cut fun x=>g.N.par (g.N.trail g.N.n x) m)<2^ts.length:=Nat.xor_lt_two_pow hm (RM.OE _)
   have hz:(m^^^g.N.cut fun x=>g.N.par (g.N.trail g.N.n x) m)=0->m=g.N.cut (fun x=>decide (x∈sG p ts g m)):=fun z=>by rw[By];exact iB z
   generalize (m^^^g.N.cut fun x=>g.N.par (g.N.trail g.N.n x) m)=A at ac hlt hz
   refine(ao rfl ⟨rfl,ao rfl (?_)⟩);rw[Kz]
   by_cases hA:A=0
   ·rw[decide_eq_true hA];refine ir (ao rfl ⟨dl rfl,fun t ht=>q t _ (vC.free ht) (vC.trans (av.new ht)) (.inl ⟨hz hA,C,s1.free hC,ae,av.new ht _ _ (s3 _ _ KC)⟩)⟩)
   ·rw[decide_eq_false hA];obtain⟨c,hc0,hcb⟩:=DG hA;obtain⟨hcn,hcf,hcp⟩:=ac c hcb;refine cC (ao rfl (ao rfl ⟨A,rfl,Nat.le_trans (bits_le hlt) (by lia),fun D4 H4 hn4 s4 BY=>(jP (aO.of BY) (ak (j:=0) (yw hc0)) ⟨wb,p,ts,g,_,rfl,hw.same (vC.trans s4),.inl ⟨c,rfl,RM.dF.mpr ⟨hcn,hcf⟩,fun H5 s5=>⟨dl rfl,fun t ht=>?_⟩⟩⟩)⟩))
    have Xr:=(vC.trans s4).trans s5;exact q t _ (Xr.free ht) (Xr.trans (av.new ht)) (.inr ⟨c,RM.dF.mpr ⟨hcn,hcf⟩,hcp,ae⟩)
def zB(C:Addr):Sp:=fun vs H Q E=>∃ w p ts S,vs=[.ref w,.int S]/\bu H w p ts/\LX p ts/\qb ts S (∀ H',av H H'->E (.ref C) none H') fun m=>∀ H',av H H'->Q (.int (lenOf ts m)) H'
theorem gj:Kv T T.jJ 5 (zB a.eJ):=by
 have cH:=cH T;refine T.jJ.Ft yR fun cdv A outer s H vs Q E hr h=>?_
 ·obtain⟨wb,p,ts,S,rfl,hw,W,q⟩:=h;refine⟨_,(au (aB (aF (sumK K rfl) (by rfl) T.Ny PyProof.Rows.boot_sum (aa (bx (own:=["tie"]) (frees:=[]) (js:=[]) (az (aj jF) ["web","tie_set"]) rfl (nX K (aK cH hr T.gC.c gr.passes (aa (pv 0) (aa (pv 1) af)))) (fun _ _ _ _=>(aX 0 (show(["tie"]:List Str).Nodup by decide +kernel))) (fun _ _ _ _=>bY) (fun _ _ _ _=>(aG (bW K) (pv 0) ai))) af)))),?_⟩
  refine(ao rfl (ao rfl ⟨wb,p,ts,S,rfl,hw,W,?_⟩));rcases q with⟨m,rfl,hm,q⟩|⟨hS,q⟩
  ·refine .inl ⟨m,rfl,hm,fun L ys H1 Xo s1 hL pr=>⟨L,rfl,⟨_,aO.of hL⟩,fun D hD=>?_⟩⟩
   have wl:=W.len;have Si:ys.length=(bE (m:Int)).length:=by rw[pr.length,List.length_map]
   have Vy:ys.length<=24:=by
    rw[Si];have hb:Builtin.Int.intBits (m:Int)<=ts.length:=bits_le hm;have:=List.length_filter_le (bit (m:Int)) (List.range (Builtin.Int.intBits (m:Int)));rw[List.length_range]at this;exact Nat.le_trans this (by lia)
   refine bj (xs:=ys) (vX (fun k=>(bL ts k).2.2) (bE (m:Int)) H1 D) (.start hD) (fun i acc H2 _ pm=>⟨aO.of (pm.1 _ _ hL),pm.len⟩) (bU Vy) ?_ ?_
   ·intro i x acc H2 hx pm;obtain⟨t,ht,c,rfl,hc⟩:=Paired.kc pr hx;rw[List.getElem?_map]at ht;obtain⟨k,hk,rfl⟩:=Option.map_eq_some_iff.mp ht;exact⟨rfl,ao rfl (bX (aP.of (pm.1 _ _ hc)) (ak (j:=2) rfl) (pm.next hD (av.refl _) hk rfl))⟩
   ·intro acc H2 pm;rw[Si]at pm;exact⟨D,_,rfl,aO.of pm.fin,q H2 (s1.trans pm.1)⟩
  ·exact .inr ⟨hS,q _ (av.refl _)⟩
def kE(ts:List dJ)(x y:Nat):Prop:=lenOf ts x<lenOf ts y\/(lenOf ts x=lenOf ts y/\x<=y)
def KD(t:Addr)(lp:Pos):Sp:=fun vs H Q _=>∃ w p ts,∃ g:aE p ts,∃(l:Addr) (ms:List Nat),vs=[.ref w,.ref l]/\bu H w p ts/\H l=some (.lst (aA ms))/\ms.length<64/\(∀ m∈ms,m<2^ts.length)/\H t=some (.jz (eF (n8 "by_length") lp))/\
 ∀ D ms' H',H D=none->av H H'->H' D=some (.lst (aA ms'))->ms'.Perm ms->ms'.Pairwise (kE ts)->Q (.ref D) H'
theorem ND:∀{l:List Int},(∀ x∈l,0<=x)->∃ ms:List Nat,l=ms.map (fun x=>((x:Nat):Int))
 | [],_=>⟨[],rfl⟩
 | x::r,h=>by
   obtain⟨ms,e⟩:=ND (l:=r) fun y hy=>h y (List.mem_cons_of_mem _ hy)
   have hx:=h x List.mem_cons_self;refine⟨x.toNat::ms,?_⟩;rw[List.map_cons,<-e]
   congr 1
   lia
theorem mT:Xn T T.jK 9 (KD a.gi eW):=by
 have gj:=gj T;refine T.jK.ok yS fun A outer s H vs Q E hr h=>?_
 ·obtain⟨wb,p,ts,g,l,ms,rfl,hw,hl,h64,hms,htb,q⟩:=h;refine⟨_,(au (aB (JX (x:="ring") (frees:=["web"]) (js:=[0]) hr (az (aj jG) ["web","rings"]) rfl (by rfl) T.Bv rfl T.jK.F.hd (aa (pv 1) af) (fun _ _ _ _ hr=>(c7 (aa (aK gj hr T.jJ.c xj (aa (pv 1) (aa (pv 0) af))) (aa (pv 0) af))))))),?_⟩
  have W:=g.Hv;have wl:=g.len;have big:(2:Nat)^ts.length<=2^24:=Nat.pow_le_pow_right (by decide) wl
  have Pk:∀ n,n∈ms.map (fun x=>((x:Nat):Int))->∃ m:Nat,n=(m:Int)/\m∈ms:=fun n hn=>by
   obtain⟨m,hm,rfl⟩:=List.mem_map.mp hn;exact⟨m,rfl,hm⟩
  refine(ao rfl ⟨l,ms.map (fun x=>((x:Nat):Int)),fun z=>(lenOf ts z.toNat,z),rfl,by rw[<-jm];exact hl,by rw[List.length_map];exact h64,fun n hn=>?_,htb,fun H3 hk n hn=>?_,fun D ns' H4 hD s4 BY hp hs=>?_⟩)
  ·obtain⟨m,rfl,hm⟩:=Pk n hn;have:=hms m hm;exact⟨by show(0:Int)<=(m:Int);lia,by show(m:Int)<1073741824;lia⟩
  ·obtain⟨m,rfl,hm⟩:=Pk n hn;have tp:c6 H H3:=fun b xs e=>hk b _ e (fun y z=>nomatch z) (fun y z=>nomatch z)
   refine(ao rfl (ao rfl ⟨wb,p,ts,_,rfl,hw.tups tp,W,.inl ⟨m,rfl,hms m hm,fun H4 s4=>(ao rfl ⟨dl rfl,fun d hd=>?_⟩)⟩⟩))
   exact⟨s4.trans (av.new hd),d,rfl,ae⟩
  ·obtain⟨ms',rfl⟩:∃ ms' : List Nat,ns' = ms'.map (fun x=>((x:Nat):Int)):=by
    refine ND fun x hx=>?_
    obtain⟨m,rfl,_⟩:=Pk x (hp.mem_iff.mp hx)
    lia
   have Vz:ms'.Perm ms:=by
    have:=hp.map Int.toNat;rw[List.map_map,List.map_map]at this;have e:∀ l:List Nat,l.map (Int.toNat∘fun x=>((x:Nat):Int))=l:=fun l=>by
     induction l with
     | nil=>rfl
     | cons x r ih=>rw[List.map_cons,ih];rfl
    rw[e,e]at this;exact this
   refine q D ms' H4 hD s4 (by rw[jm];exact BY) Vz ?_
   rw[List.pairwise_map]at hs;refine List.Pairwise.imp_of_mem (fun {x y} hx hy h=>?_) hs
   have hx:=hms x (Vz.mem_iff.mp hx);have hy:=hms y (Vz.mem_iff.mp hy);have h:lenOf ts x*1073741824+(x:Int)<=lenOf ts y*1073741824+(y:Int):=h;unfold kE
   lia
def KG:Sp:=fun vs H Q _=>∃ w p ts,∃ g:aE p ts,∃ m:Nat,vs=[.ref w,.int (m:Int)]/\bu H w p ts/\m<2^ts.length/\
 ∀ D es S H',es.length=p->Gf m H D es S H'->Np g.N ts.length S->Q (.ref D) H'
theorem Pn{b:Bool}{σ:St}{f:VK}{H:Hp}(h:f (.int (b.toNat:Int)) H):if b=true then tC (.int 1) σ H f else tC (.int 0) σ H f:=by
 cases b<;>exact h
theorem ie:Ok T T.h8 2 KG:=by
 have cf:=cf T;refine T.h8.ok cW fun cdv A outer s H vs Q E hr h=>?_
 ·obtain⟨wb,p,ts,g,m,rfl,hw,hm,q⟩:=h;refine⟨_,(ah (eR (i:=2) cW.nd rfl rfl (own:=["point"]) (frees:=[]) (js:=[]) (az (aj eX) ["web","marks","steps","tie","ends","turn"]) rfl (bf (by rfl) T.bV (aa (aG (bW K) (pv 0) ai) af)) (fun _ _ _ _=>(aX 0 (show(["point"]:List Str).Nodup by decide +kernel))) (fun _ _ _ _=>bY) (fun _ _ _ _=>(eg af)))
   (ah (cK PassesOwn.never rfl (Am K (by rfl) T.jM (aa (aG (bW K) (pv 0) ai) af)) (Fq K (n:=2) rfl (aS (aX 3 cW.nd) (aS (aX 4 cW.nd) dX)))
   (ah (aI (i:=5) cW.nd rfl (Or.inl rfl) (lW (bM (aK cf hr T.g8.c aN (aa (pv 1) (aa (pv 3) af)))) ai ai))
   (ah (dW (JZ K (lZ PySem.F.plainAttrs_list PySem.F.slot_list_append PySem.F.type_list_append c8 (aG (j7 K) (pv 2) (aG (bW K) (pv 4) ai)) (aa (c7 (aa (pv 3) (aa (aG (bW K) (pv 4) ai) (aa (pv 5) af)))) af))))
   (au (dW (JZ K (lZ PySem.F.plainAttrs_list PySem.F.slot_list_append PySem.F.type_list_append c8 (aG (j7 K) (pv 2) (aG (bW K) (pv 4) ai)) (aa (c7 (aa (pv 3) (aa (aG (bW K) (pv 4) ai) (aa (pv 5) af)))) af))))))))
   (au (aB (pv 2))))),?_⟩
  refine pW ?_;intro cA cP dm eO fF;obtain⟨bt,xs,h1,h2,h3⟩:=id hw.ex;have vB:=h3.length;have wp:=g.p2;have wl:=g.len;refine(ao rfl (bX (aP.of h1) (ak (j:=0) rfl) (ao rfl ⟨(by lia),(by lia),fun D hD=>cz (lo:=0) (m:=p) (Nn m H D) (.start hD) (fun i acc H2 _ z=>z.len) (dl (Nat.ble_eq.mpr (by lia))) ?_ ?_⟩)))
  ·rintro i acc H2 hi f2;exact⟨rfl,dl rfl,fun l hl=>f2.next hl⟩
  rintro acc H2 ⟨es,rfl,hel,f2⟩;refine(ao rfl (bX (aP.of (f2.same _ _ h1)) (ak (j:=1) rfl) ⟨bt,rfl,⟨_,aP.of (f2.same _ _ h2)⟩,?_⟩));refine FY (K:=K) (a:=bt) (xs:=xs) (fun k σ H3=>∃ v3 v4 v5,σ=[some (.ref wb),some (.int (m:Int)),some (.ref D),v3,v4,v5]/\∃ S,Gf m H D es S H3/\Np g.N k S) ⟨none,none,none,rfl,_,f2,Np.start⟩ (fun k σ H3 _ ⟨_,_,_,_,_,z,_⟩=>aP.of (z.same _ _ h2)) ?_ ?_
  ·rintro k x T0 σ H3 hk ⟨v3,v4,v5,rfl,S,f3,k3⟩ hT;have hkx:k<xs.length:=(List.getElem?_eq_some_iff.mp hk).1;have lP:k<ts.length:=by lia
   obtain⟨ct,ex,hct⟩:=qC (g:=g) h3 lP;rw[hk]at ex;cases ex;have s4:av H3 (upd H3 T0 (.tup [.int (k:Int),.ref ct])):=av.new hT;have Tt:upd H3 T0 (.tup [.int (k:Int),.ref ct]) T0=some (.tup [.int (k:Int),.ref ct]):=ae;have f4:=f3.go s4;generalize upd H3 T0 (.tup [.int (k:Int),.ref ct])=H4 at f4 Tt;refine⟨T0,_,rfl,aP.of Tt,rfl,_,_,rfl,_,_,rfl,rfl,?_⟩;refine(ao rfl (ao rfl ⟨(m:Int),k,rfl,ao rfl (?_)⟩));rw[eT];have ha:g.N.a k<p:=g.N.al k lP;have hb:g.N.b k<p:=g.N.bl k lP;have Po:=f4.same _ _ hct;refine Pn ?_;obtain⟨b1,VA,e1,e1',hb1,q1⟩:=f4.get (i:=g.N.a k) (by lia)
   refine(ao rfl (ao rfl (bX (aP.of Po) (ak (j:=0) rfl) (jP (aO.of f4.lst) (ak e1) (?_)))));have l1:VA.length<=2*k:=by rw[q1.length];exact k3.len _
   refine⟨.inl ⟨rfl,_,aO.of hb1⟩,ao rfl (ao rfl (bX (aP.of Po) (ak (j:=1) rfl) (ao rfl ⟨dl rfl,fun t1 Hx=>?_⟩)))⟩
   have s5:av H4 (upd H4 t1 (.tup [.int (k:Int),.int (g.N.b k:Int),.int ((m.testBit k).toNat:Int)])):=av.new Hx;have u5:jr m (upd H4 t1 (.tup [.int (k:Int),.int (g.N.b k:Int),.int ((m.testBit k).toNat:Int)])) t1 (k,g.N.b k):=ae;have f5:=f4.go s5;have Xs:=s5 _ _ hb1;have aap:=s5 _ _ Po;have q5:Paired (jr m (upd H4 t1 (.tup [.int (k:Int),.int (g.N.b k:Int),.int ((m.testBit k).toNat:Int)]))) VA (S (g.N.a k)):=Paired.yg q1 fun _ _ z=>s5 _ _ z
   refine⟨b1,_,_,rfl,rfl,Xs,iF (by rw[List.length_map];lia),?_⟩
   have f6:=f5.put e1' Xs q5 u5;have Pp:=f6.same _ _ hct;generalize upd (upd H4 t1 (.tup [.int (k:Int),.int (g.N.b k:Int),.int ((m.testBit k).toNat:Int)])) b1 (.lst (VA.map V.ref++[.ref t1]))=H6 at f6 Pp;obtain⟨b2,cs2,e2,e2',GZ,q2⟩:=f6.get (i:=g.N.b k) (by lia)
   refine(ao rfl (ao rfl (bX (aP.of Pp) (ak (j:=1) rfl) (jP (aO.of f6.lst) (ak e2) (?_)))));have l2:cs2.length<=2*k+1:=by
    rw[q2.length];unfold u6;have:=k3.len (g.N.b k)
    split
    ·rw[List.length_append,List.length_singleton];lia
    ·lia
   refine⟨.inl ⟨rfl,_,aO.of GZ⟩,ao rfl (ao rfl (bX (aP.of Pp) (ak (j:=0) rfl) (ao rfl ⟨dl rfl,fun t2 KH=>?_⟩)))⟩
   have s7:av H6 (upd H6 t2 (.tup [.int (k:Int),.int (g.N.a k:Int),.int ((m.testBit k).toNat:Int)])):=av.new KH;have u7:jr m (upd H6 t2 (.tup [.int (k:Int),.int (g.N.a k:Int),.int ((m.testBit k).toNat:Int)])) t2 (k,g.N.a k):=ae;have f7:=f6.go s7;have Qm:=s7 _ _ GZ;refine⟨b2,_,_,rfl,rfl,Qm,iF (by rw[List.length_map];lia),?_⟩
   exact⟨_,_,_,rfl,_,f7.put e2' Qm (Paired.yg q2 fun _ _ z=>s7 _ _ z) u7,k3.next⟩
  ·rintro σ H3 ⟨v3,v4,v5,rfl,S,f3,k3⟩;refine(ao rfl (q D es S H3 hel f3 ?_));rw[<-vB];exact k3
def jZ(p:Nat)(N:RM.Net)(L:Nat->Int)(m u:Nat)(D:Addr)(F:RM.OW)(H0 H:Hp):Prop:=∃ es:List Addr,es.length=p/\H D=some (.lst (es.map V.ref))/\
 (∀(i:Nat) b,es[i]?=some b->∃ v0 v1,H b=some (.lst [v0,v1])/\wV H (F i false) v0/\wV H (F i true) v1)/\(∀ x s,RM.sM N L m u x s ((F x s).map (·.1)))/\(∀ x s d,F x s=some d->RM.Wz N L m u x s d.1 d.2)/\(∀ b∈es,H0 b=none)/\RM.Fx N L m u F
theorem MF(a b:Bool):Builtin.bitXor ((a.toNat:Nat):Int) ((b.toNat:Nat):Int)=(((a^^b).toNat:Nat):Int):=by
 cases a<;>cases b<;>decide
def wM(t:Addr)(lp:Pos):Sp:=fun vs H Q _=>∃ w p ts,∃ g:aE p ts,∃(m u:Nat),vs=[.ref w,.int (m:Int),.int (u:Int)]/\bu H w p ts/\m<2^ts.length/\u<p/\H t=some (.jz (eF (n8 "least_ways") lp))/\
 ∀ D F H',H D=none->av H H'->jZ p g.N (aY ts) m u D F H H'->Q (.ref D) H'
theorem lC:Xn T T.iV 5 (wM a.cG cj):=by
 have ie:=ie T;refine T.iV.ok bI fun A outer s H vs Q E hr h=>?_
 ·obtain⟨wb,p,ts,g,m,u,rfl,hw,hm,hu,htb,q⟩:=h;refine⟨_,(ah (aI (i:=3) bI.nd rfl (Or.inl rfl) (aK ie hr T.h8.c aN (aa (pv 0) (aa (pv 1) af))))
   (ah (eR (i:=4) bI.nd rfl rfl (own:=["point"]) (frees:=[]) (js:=[]) (az (aj gz) ["web","marks","start","steps","found","waiting","nearest","way","tie","point","turn","part","further"]) rfl (bf (by rfl) T.bV (aa (aG (bW K) (pv 0) ai) af)) (fun _ _ _ _=>(aX 0 (show(["point"]:List Str).Nodup by decide +kernel))) (fun _ _ _ _=>bY) (fun _ _ _ _=>(eg (aa iE (aa iE af)))))
   (ah (aI (i:=5) bI.nd rfl (Or.inr rfl) (JL (by exact z6 hr) (c7 (aa (pv 2) (aa ai af))) (c7 (aa ai (aa ai af)))))
   (ah (tU PassesOwn.never (aH nK (aF Vn (by rfl) T.b8 PySem.boot_len (aa (pv 5) af)) ai (aJ _)) (ah (aI (i:=6) bI.nd rfl (Or.inl rfl) (Ms (x:="place") (frees:=["waiting"]) (js:=[5]) hr (az (aj gz) ["web","marks","start","steps","found","waiting","nearest","way","tie","point","turn","part","further"]) rfl (by rfl) T.ER rfl T.iV.F.hd (aa (pv 5) af) (fun _ _ _ _ hr=>(Ma (by exact z6 hr) (pv 1) (pv 0) (fun _ _=>rfl)))))
   (ah (aI (i:=7) bI.nd rfl (Or.inl rfl) (JK (by exact z6 hr) (pv 5) (pv 6) ⟨rfl,rfl,rfl,rfl⟩))
   (ah (yj (pv 7) (B4 (aG (j7 K) (pv 4) (aG (bW K) (pv 6) ai)) (aG (bW K) (pv 6) ai) set_list))
   (au (cK PassesOwn.never rfl (nX K (aG (j7 K) (pv 3) (aG (bW K) (pv 6) ai))) (Fq K (n:=3) rfl (aS (aX 8 bI.nd) (aS (aX 9 bI.nd) (aS (aX 10 bI.nd) dX))))
   (ah (aI (i:=11) bI.nd rfl (Or.inl rfl) (aL gp (aG (bW K) (pv 6) ai) (pv 10)))
   (ah (aI (i:=12) bI.nd rfl (Or.inl rfl) (c7 (aa (aL dS (aG (bW K) (pv 7) ai) (aG (bW K) (aG (bW K) (aG (bW K) (pv 0) ai) (pv 8)) ai)) (aa (aL gp (aG (bW K) (pv 7) ai) (aL kI ai (pv 8))) af))))
   (au (bF (PW.pt (B3 (aH qj (aG (j7 K) (aG (j7 K) (pv 4) (pv 9)) (pv 11)) iE (aJ _)) (yi (aH (O6 hr.Cc) (pv 12) (Jb (by exact z6 hr) (pv 5) (c7 (aa (pv 9) (aa (pv 11) af))) (pv 12) ⟨rfl,rfl,rfl,rfl⟩) (aJ _))))) (au (Mb (by exact z6 hr) (pv 5) (c7 (aa (pv 9) (aa (pv 11) af))) (pv 12) rfl)) aR))))))))))
   (au (aB (pv 4))))))),?_⟩
  refine wj ?_;intro cA cP dm eO fF lN sE xZ x6 x8 mG lR;obtain⟨bt,xs,h1,h2,h3⟩:=id hw.ex;have vB:=h3.length;have wp:=g.p2;have wl:=g.len;refine(ao rfl (ao rfl ⟨wb,p,ts,g,m,rfl,hw,hm,fun Ds ess S H1 hel1 f1 k1=>?_⟩))
  have s1:=f1.same;refine(ao rfl (bX (aP.of (s1 _ _ h1)) (ak (j:=0) rfl) (ao rfl ⟨(by lia),(by lia),fun D hD=>cz (lo:=0) (m:=p) (AB H1 D) (.start hD) (fun i acc H2 _ z=>z.len) (dl (Nat.ble_eq.mpr (by lia))) ?_ ?_⟩)))
  ·rintro i acc H2 hi f2;exact⟨rfl,dl rfl,fun l hl=>f2.next hl⟩
  rintro acc H2 ⟨es,rfl,hel,f2⟩;refine fun wd Xu=>(ao rfl ⟨dl rfl,fun t1 Hx=>⟨dl rfl,fun t2 KH=>?_⟩⟩)
  have Xv:av (upd H2 wd (.dT [])) (upd (upd H2 wd (.dT [])) t1 (.tup [.int (u:Int),.int 0])):=av.new Hx;have VB:av (upd (upd H2 wd (.dT [])) t1 (.tup [.int (u:Int),.int 0])) (upd (upd (upd H2 wd (.dT [])) t1 (.tup [.int (u:Int),.int 0])) t2 (.tup [.int 0,.int 0])):=av.new KH;have f3:=((f2.go (av.new Xu (o:=.dT []))).go Xv).go VB;have w3:=VB _ _ (Xv _ _ (ae (H:=H2) (a:=wd) (o:=.dT [])));have u3:=VB _ _ (ae (H:=upd H2 wd (.dT [])) (a:=t1) (o:=.tup [.int (u:Int),.int 0]));have v3:(upd (upd (upd H2 wd (.dT [])) t1 (.tup [.int (u:Int),.int 0])) t2 (.tup [.int 0,.int 0])) t2=some (.tup [.int 0,.int 0]):=ae;generalize upd (upd (upd H2 wd (.dT [])) t1 (.tup [.int (u:Int),.int 0])) t2 (.tup [.int 0,.int 0])=H3 at f3 w3 u3 v3;refine⟨t1,ky u false,rfl,u3,w3,?_⟩;have lw3:=u4.start f3 hu w3 (f2.same.free Xu) v3;have VC:=s1 _ _ htb;have hL:∀ k,k<g.N.n->0<=aY ts k:=i8 g;have MG:∀ k,k<g.N.n->0<aY ts k:=fun k hk=>by
   have:=(g.vW _ (eU hk)).l0;unfold aY
   lia
  refine⟨fun n σ H4=>∃ v6 v7 v8 v9 v10 v11 Hy,σ=[some (.ref wb),some (.int (m:Int)),some (.int (u:Int)),some (.ref Ds),some (.ref D),some (.ref wd),v6,v7,v8,v9,v10,v11,Hy]/\∃ kvs F W,u4 p H1 D wd es kvs F W H4/\RM.Dx g.N (aY ts) m u F W none (fun _ _=>False)/\n=RM.left F p,⟨_,none,none,none,none,none,none,none,rfl,_,_,_,lw3,RM.Dx.start,rfl⟩,?_⟩
  rintro n σ H4 ⟨v6,v7,v8,v9,v10,v11,Hy,rfl,kvs,F,W,lw,dj,rfl⟩;refine(ao rfl ⟨wd,kvs,rfl,.inl lw.dt,_,_,rfl,rfl,ao rfl (jh (fun hlen=>?_) (fun hlen=>?_))⟩)
  case refine_2 =>
   have hl : ¬(0:Int)<(kvs.length:Int):=fun z=>hlen (decide_eq_true z)
   have e:kvs=[]:=List.eq_nil_of_length_eq_zero (by lia)
   subst e;have hW:∀ x s,W x s=none:=fun x s=>by
    rcases lw.val x s with⟨z,_⟩|⟨_,_,_,z,_⟩
    ·exact z
    ·rw[uK]at z;cases z
   exact(ao rfl (q D F H4 (s1.free lw.Dn) (s1.trans lw.same) ⟨es,hel,lw.lst,lw.at_,dj.dj.best hW,dj.dj.fw,fun b hb=>s1.free (lw.fr b hb),dj.fin MG hu hW⟩))
  have hlen:(0:Int)<(kvs.length:Int):=of_decide_eq_true hlen;refine⟨fun σ' H'=>∃ v6 v7 v8 v9 v10 v11 Hy,σ' = [some (.ref wb),some (.int (m:Int)),some (.int (u:Int)),some (.ref Ds),some (.ref D),some (.ref wd),v6,v7,v8,v9,v10,v11,Hy]/\∃ kvs' F' W',u4 p H1 D wd es kvs' F' W' H'/\RM.Dx g.N (aY ts) m u F' W' none (fun _ _=>False)/\RM.left F' p<RM.left F p,fun σ' H' ⟨a6,a7,a8,a9,VD,VE,VF,e,kvs',F',W',b1,b2,b3⟩=>⟨_,b3,a6,a7,a8,a9,VD,VE,VF,e,kvs',F',W',b1,b2,rfl⟩,?_⟩
  refine(ao rfl ⟨wd,kvs,JQ W kvs,rfl,lw.dt,(by lia),lw.same _ _ VC,fun ob H5 F9 hfz i kv b hkv hb=>?_,fun i kv b H5 hkv hmin s5 hb=>?_⟩)
  ·obtain⟨x,t,d,c,hx,ek,Sl,VG,_,hc,VH⟩:=lw.entry hkv;have hcw:c≠wd:=aW hc lw.dt (by intro z;cases z)
   refine(ao rfl (ao rfl ⟨wd,.ref c,rfl,.inr ⟨kvs,ky x t,b,.inr ⟨ob,hfz⟩,rfl,by rw[<-ek];exact hb,VG.symm⟩,av.refl _,c,rfl,?_⟩))
   rw[VH];exact aP.of (F9 c _ hc hcw (by intro y z;cases z) (by intro y z;cases z))
  obtain⟨x,t,d,c,hx,ek,Sl,VG,_,hc,VH⟩:=lw.entry hkv;rw[ek]at hb;have hmn:∀ y t' d',W y t' = some d'->d.1<=d'.1:=fun y t' d' hW'=>by
   obtain⟨j,Xa,hj,_,ej⟩:=lw.find hW';have:=hmin j (List.getElem?_eq_some_iff.mp hj).1;rw[ej,VH]at this;exact yK this
  have MH:=lw.go s5;have hc5:=s5 _ _ hc;have hF:F x t=none:=dj.dj.dj x t d Sl;refine(ao rfl ⟨wd,rfl,.inr ⟨kvs,.inl MH.dt⟩,ao rfl ⟨kvs,ky x t,b,.ref c,MH.dt,rfl,hb,VG,?_⟩⟩);obtain⟨rb,r0,r1,er,er',hrb,hr0,hr1⟩:=MH.row (i:=x) (by lia)
  have bw:b≠wd:=aW hb MH.dt (by intro z;cases z)
  have rw_:rb≠wd:=aW hrb MH.dt (by intro z;cases z)
  have Xw:upd H5 wd (.dT (dM kvs (ky x t))) b=some (.tup [.int (x:Int),.int (t.toNat:Int)]):=by rw[aq bw];exact hb
  have Ph:upd H5 wd (.dT (dM kvs (ky x t))) D=some (.lst (es.map V.ref)):=by rw[aq (Ne.symm MH.wD)];exact MH.lst
  have hr6:upd H5 wd (.dT (dM kvs (ky x t))) rb=some (.lst [r0,r1]):=by rw[aq rw_];exact hrb
  refine(ao rfl (ao rfl (ao rfl (bX (aP.of Xw) (ak (j:=0) rfl) (jP (aO.of Ph) (ak er) (ao rfl (bX (aP.of Xw) (ak (j:=1) rfl) ⟨rb,_,_,t.toNat,rfl,rfl,hr6,pq (n:=2) (j:=t.toNat) (by cases t<;>decide),?_⟩)))))))
  have Qn:=MH.take Sl hc5 er' hrb;have VI:=dj.pop Sl hmn;have hd0:0<=d.1:=by
   obtain⟨pre,w0⟩:=dj.dj.ww x t d Sl;exact(RM.ko hL hu w0).2.2.2.2.2
  have hlt:RM.left (RM.jq F x t d) p<RM.left F p:=RM.AR hF hx;have Xx:c6 H5 (upd (upd H5 wd (.dT (dM kvs (ky x t)))) rb (.lst (([r0,r1]:List V).set t.toNat (.ref c)))):=fun z ys e=>by
   rw[aq (aW e hrb (by intro z;cases z)),aq (aW e MH.dt (by intro z;cases z))]
   exact e
  have Qm:=Xx _ _ hb;have Qo:=Xx _ _ hc5;generalize upd (upd H5 wd (.dT (dM kvs (ky x t)))) rb (.lst (([r0,r1]:List V).set t.toNat (.ref c)))=H7 at Qn Qm Qo;generalize RM.yJ W x t=W7 at Qn VI;have T3:RM.jq F x t d x t=some d:=RM.bZ _ _ _ _;generalize RM.jq F x t d=F7 at Qn VI hlt T3;obtain⟨sb,cs,esb,aaz,RJ,VJ⟩:=f1.get (i:=x) (by lia)
  have hlS:=k1.len x;refine(ao rfl (ao rfl (bX (aP.of Qm) (ak (j:=0) rfl) (jP (aO.of (Qn.same _ _ f1.lst)) (ak esb) ⟨sb,rfl,⟨_,aO.of (Qn.same _ _ RJ)⟩,?_⟩))));refine fZ (K:=K) (a:=sb) (xs:=cs.map V.ref) (fun j σ H8=>∃ v8 v9 v10 v11 Hy,σ=[some (.ref wb),some (.int (m:Int)),some (.int (u:Int)),some (.ref Ds),some (.ref D),some (.ref wd),some (.ref b),some (.ref c),v8,v9,v10,v11,Hy]/\c6 H7 H8/\∃ zC W8,u4 p H1 D wd es zC F7 W8 H8/\RM.Dx g.N (aY ts) m u F7 W8 (some (x,t)) (fun k y=>∃ j',j'<j/\(S x)[j']?=some (k,y)))
   ⟨_,_,_,_,_,rfl,(av.refl _).tups,_,_,Qn,?_⟩ (fun j σ H8 _ ⟨_,_,_,_,_,_,_,_,_,z,_⟩=>aO.of (z.same _ _ RJ)) ?_ ?_
  ·exact VI.less fun k y ⟨j',h0,_⟩=>absurd h0 (Nat.not_lt_zero _)
  ·rintro j y D3' σ H8 hj ⟨v8,v9,v10,v11,Hy,rfl,T4,zC,W8,Pu,Sm⟩;obtain⟨cc,hcc,rfl⟩:∃ cc,cs[j]?=some cc/\y = .ref cc:=by
    rw[List.getElem?_map]at hj;obtain⟨cc,h1,h2⟩:=Option.map_eq_some_iff.mp hj;exact⟨cc,h1,h2.symm⟩
   have Nk:j<(S x).length:=by rw[<-VJ.length];exact(List.getElem?_eq_some_iff.mp hcc).1
   have eS:(S x)[j]?=some (S x)[j]:=List.getElem?_eq_getElem Nk;have Xy:=L2.gW VJ hcc eS;generalize hkw:(S x)[j]=kw at eS Xy;obtain⟨k,y⟩:=kw;have hmem:=(k1.mem x (k,y)).mp (List.mem_of_getElem? eS);obtain⟨hk,BS⟩:=hmem;have hk:k<ts.length:=hk;have BS:RM.Jn g.N k x y:=BS;have hy:y<p:=BS.lt hk;have VL:=Pu.same _ _ Xy;have VL:H8 cc=some (.tup [.int (k:Int),.int (y:Int),.int ((m.testBit k).toNat:Int)]):=VL;refine⟨cc,_,rfl,aP.of VL,rfl,_,_,rfl,_,_,rfl,_,_,rfl,rfl,?_⟩;have hb8:=T4 _ _ Qm;have Xz:=T4 _ _ Qo;refine(ao rfl (bX (aP.of hb8) (ak (j:=1) rfl) (ao rfl (b7 (?_)))));dsimp only;rw[MF];obtain⟨ct,ex,hct⟩:=qC (g:=g) h3 hk;have hw8:=Pu.same _ _ (s1 _ _ h1);have ht8:=Pu.same _ _ (s1 _ _ h2);have VM:=Pu.same _ _ (s1 _ _ hct);refine(ao rfl (bX (aP.of Xz) (ak (j:=0) rfl) (ao rfl (bX (aP.of hw8) (ak (j:=1) rfl) (ao rfl (bX (aP.of ht8) (ak (j:=k) ex) (bX (aP.of VM) (ak (j:=2) rfl) (?_))))))));refine(b7 (ao rfl (bX (aP.of Xz) (ak (j:=1) rfl) (ao rfl (b7 ⟨⟨by lia,by lia,by decide⟩,b7 ⟨dl rfl,fun f hf=>?_⟩⟩)))))
   have ef:Builtin.bitXor ((d.2:Nat):Int) (1*2^((k:Nat):Int).toNat)=((d.2^^^2^k:Nat):Int):=by
    rw[Int.toNat_natCast,Int.one_mul,show((2:Int)^k)=((2^k:Nat):Int) by simp]
    exact xor_int _ _
   dsimp only;rw[ef];have s9:av H8 (upd H8 f (.tup [.int (d.1+(bL ts k).2.2),.int ((d.2^^^2^k:Nat):Int)])):=av.new hf;have XA:upd H8 f (.tup [.int (d.1+(bL ts k).2.2),.int ((d.2^^^2^k:Nat):Int)]) f=some (.tup [.int (d.1+aY ts k),.int ((d.2^^^2^k:Nat):Int)]):=ae;have Qp:=Pu.go s9;have VN:c6 H7 (upd H8 f (.tup [.int (d.1+(bL ts k).2.2),.int ((d.2^^^2^k:Nat):Int)])):=fun z ys e=>s9 _ _ (T4 _ _ e)
   generalize upd H8 f (.tup [.int (d.1+(bL ts k).2.2),.int ((d.2^^^2^k:Nat):Int)])=H9 at Qp XA VN;obtain⟨rb2,q0,q1,er2,aaF,VO,Cu,hq1⟩:=Qp.row (i:=y) (by lia)
   obtain⟨vv,hvv,Qq⟩:∃ vv,([q0,q1]:List V)[(t^^m.testBit k).toNat]?=some vv/\wV H9 (F7 y (t^^m.testBit k)) vv:=by
    cases(t^^m.testBit k) with
    | false=>exact⟨q0,rfl,Cu⟩
    | true=>exact⟨q1,rfl,hq1⟩
   have Lk:=hL k hk;refine(ao rfl (ao rfl (jP (aO.of Qp.lst) (ak er2) (ao rfl (jP (aO.of VO) (ak hvv) (?_))))));refine⟨rfl,ao rfl (?_)⟩;have dn:∀{ES:Nat->Nat->Prop} {Wx:RM.OW},RM.Dx g.N (aY ts) m u F7 Wx (some (x,t)) (fun k' y'=>(∃ j',j'<j/\(S x)[j']?=some (k',y'))\/(k' = k/\y' = y))->
    RM.Dx g.N (aY ts) m u F7 Wx (some (x,t)) (fun k' y'=>∃ j',j'<j+1/\(S x)[j']?=some (k',y')):=fun {ES Wx} h =>
    h.less fun k' y' ⟨j',h0,h5⟩=>by
     by_cases ej:j' = j
     ·subst ej;rw[eS]at h5;cases h5;exact .inr ⟨rfl,rfl⟩
     ·exact .inl ⟨j',by lia,h5⟩
   cases T5:F7 y (t^^m.testBit k) with
   | some d2 =>
     rw[T5]at Qq;obtain⟨c2,rfl,hc2⟩:=Qq;refine vS (fun z=>nomatch z) ?_
     exact⟨_,_,_,_,_,rfl,VN,zC,W8,Qp,dn (ES:=fun _ _=>False) (Sm.skip T3 (MG k hk) (.inl T5))⟩
   | none =>
     rw[T5]at Qq;have Qq:vv = .eM:=Qq;subst Qq;refine Ih rfl ?_;refine(ao rfl (ao rfl ⟨wd,rfl,.inr ⟨zC,.inl Qp.dt⟩,ao rfl (ao rfl ⟨dl rfl,fun t3 ht3=>?_⟩)⟩))
     have Qs:av H9 (upd H9 t3 (.tup [.int (y:Int),.int ((t^^m.testBit k).toNat:Int)])):=av.new ht3;have Sn:upd H9 t3 (.tup [.int (y:Int),.int ((t^^m.testBit k).toNat:Int)]) t3=some (.tup ((ky y (t^^m.testBit k)).map kV)):=ae;have G8:=Qp.go Qs;have KI:=Qs _ _ XA;have Pw:c6 H7 (upd H9 t3 (.tup [.int (y:Int),.int ((t^^m.testBit k).toNat:Int)])):=fun z ys e=>Qs _ _ (VN _ _ e)
     generalize upd H9 t3 (.tup [.int (y:Int),.int ((t^^m.testBit k).toNat:Int)])=So at G8 KI Sn Pw;refine(ao rfl ⟨eE zC (ky y (t^^m.testBit k)),.inr ⟨zC,ky y (t^^m.testBit k),t3,.inl G8.dt,rfl,Sn,rfl⟩,?_⟩);have XC:=G8.len;have put:(∀ d',W8 y (t^^m.testBit k)=some d'->RM.lx (RM.stp (aY ts) d k) d')->cP D3' [some (.ref wb),some (.int (m:Int)),some (.int (u:Int)),some (.ref Ds),some (.ref D),some (.ref wd),some (.ref b),some (.ref c),some (.int (k:Int)),some (.int (y:Int)),some (.int ((m.testBit k).toNat:Int)),some (.int ((t^^m.testBit k).toNat:Int)),some (.ref f)] So:=fun hle=>by
      refine(ao rfl (ao rfl (ao rfl (ao rfl ⟨dl rfl,fun t4 VP=>?_⟩))))
      have VQ:av So (upd So t4 (.tup [.int (y:Int),.int ((t^^m.testBit k).toNat:Int)])):=av.new VP;have VR:upd So t4 (.tup [.int (y:Int),.int ((t^^m.testBit k).toNat:Int)]) t4=some (.tup ((ky y (t^^m.testBit k)).map kV)):=ae;have Px:=G8.go VQ;have VS:=VQ _ _ KI;refine⟨wd,_,rfl,IY.t Px.dt VR (j9 (by lia)),?_⟩
      have VT:=Px.wait (x:=y) (s:=(t^^m.testBit k)) (d:=(d.1+aY ts k,d.2^^^2^k)) hy VS;refine⟨_,_,_,_,_,rfl,fun z ys e=>?_,_,_,VT,dn (ES:=fun _ _=>False) (Sm.put T3 hd0 hk (MG k hk) BS T5 hle)⟩
      have XD:=VQ _ _ (Pw _ _ e);rw[aq (aW XD Px.dt (by intro z;cases z))]
      exact XD
     rcases G8.val y (t^^m.testBit k) with⟨hWn,hvn⟩|⟨d2,c2,XE,hvs,hc2⟩
     ·rw[hvn];refine⟨f,f,_,_,_,_,rfl,rfl,aP.of KI,aP.of KI,_,rfl,jh (fun _=>put fun d' e=>by rw[hWn]at e;cases e) fun z=>absurd ((HT.yH _ _ _ _).mpr (.inr ⟨rfl,Int.le_refl _⟩)) z⟩
     ·rw[hvs];refine⟨f,c2,_,_,_,_,rfl,rfl,aP.of KI,aP.of hc2,_,rfl,jh (fun hl=>?_) (fun hl=>?_)⟩
      ·have hl:=(HT.yH _ _ _ _).mp hl;refine put fun d' e=>?_
       rw[XE]at e;cases e;unfold RM.lx RM.stp;simp only
       lia
      ·have hl:=fun z=>hl ((HT.yH _ _ _ _).mpr z)
       refine⟨_,_,_,_,_,rfl,Pw,zC,W8,G8,dn (ES:=fun _ _=>False) (Sm.skip T3 (MG k hk) (.inr ⟨XE,?_⟩))⟩
       have h6 : ¬ d.1+aY ts k<d2.1:=fun z=>hl (.inl z)
       have h7 : ¬(d.1+aY ts k=d2.1/\((d.2^^^2^k:Nat):Int)<=(d2.2:Int)):=fun z=>hl (.inr z)
       unfold RM.lx RM.stp;simp only
       lia
  ·rintro σ H8 ⟨v8,v9,v10,v11,Hy,rfl,T4,zC,W8,Pu,Sm⟩;refine⟨_,_,_,_,_,_,_,rfl,zC,F7,W8,Pu,Sm.all fun k y hk BS=>?_,hlt⟩
   have hm':=(k1.mem x (k,y)).mpr ⟨hk,BS⟩;obtain⟨j',hj'⟩:=List.getElem?_of_mem hm';have VU:=(List.getElem?_eq_some_iff.mp hj').1;exact⟨j',by rw[List.length_map,VJ.length];exact VU,hj'⟩
def G9:Sp:=fun vs H Q _=>∃ v o,vs=[v]/\wV H o v/\Q (oV (o.map (·.1))) H
abbrev wN(F:RM.OW):Nat->Bool->Option Int:=fun x s=>(F x s).map (·.1)
def BA:Sp:=fun vs H Q _=>∃(D:Addr) (es:List Addr) (F:RM.OW),vs=[.ref D]/\H D=some (.lst (es.map V.ref))/\es.length<=900/\(∀(i:Nat) b,es[i]?=some b->∃ v0 v1,H b=some (.lst [v0,v1])/\wV H (F i false) v0/\wV H (F i true) v1)/\
 ∀ b ys H',av H H'->H' b=some (.tup ys)->Paired (gV H') ys (kq (wN F) es.length)->Q (.ref b) H'
theorem fP:Ok T T.fN 1 G9:=by
 refine T.fN.ok qQ fun cdv A outer s H vs Q E hr h=>?_
 ·obtain⟨v,o,rfl,hv,q⟩:=h;refine⟨_,(au (aB (lW (aH qj (pv 0) iE (aJ _)) iE (aG (bW K) (pv 0) ai)))),?_⟩;cases o with
  | none =>
    have hv:v = .eM:=hv;subst hv;exact(ao rfl ⟨rfl,ao rfl (Ih rfl q)⟩)
  | some d =>
    obtain⟨c,rfl,hc⟩:=hv;exact(ao rfl ⟨rfl,ao rfl (vS (fun z=>nomatch z) (ao rfl (bX (aP.of hc) (ak (j:=0) rfl) (q))))⟩)
theorem ig:Ok T T.ia 2 BA:=by
 have fP:=fP T;refine T.ia.ok pX fun cdv A outer s H vs Q E hr h=>?_
 ·obtain⟨D,es,F,rfl,hD,hl,Hf,q⟩:=h;refine⟨_,(au (aB (cT (El K) (by rfl) T.iY PyProof.Rows.boot_tuple (aa (bx (own:=["even","odd"]) (frees:=[]) (js:=[]) (az (aj eY) ["ways"]) rfl (nX K (pv 0)) (fun _ _ _ _=>(Vs K rfl (aS (aX 0 (show(["even","odd"]:List Str).Nodup by decide +kernel)) (aS (aX 1 (show(["even","odd"]:List Str).Nodup by decide +kernel)) dX)))) (fun _ _ _ _=>bY) (fun _ _ _ _=>(c7 (aa (aK fP hr T.fN.c aN (aa (pv 0) af)) (aa (aK fP hr T.fN.c aN (aa (pv 1) af)) af))))) af)))),?_⟩
  refine(ao rfl ⟨D,rfl,⟨_,aO.of hD⟩,fun L hL=>bj (K:=K) (a:=D) (xs:=es.map V.ref) (fun i acc H2=>av H H2/\H2 L=some (.lst acc)/\Paired (gV H2) acc (kq (wN F) i)) ⟨av.new hL,ae,.nil⟩ (fun i acc H2 _ z=>⟨aO.of (z.1 _ _ hD),z.2.1,by rw[z.2.2.length,yF];exact Nat.le_refl _⟩) (dl (Nat.ble_eq.mpr (by rw[List.length_map];lia))) ?_ ?_⟩)
  ·rintro i x acc H2 hx ⟨s2,Sq,pr⟩;obtain⟨b,hb,rfl⟩:∃ b,es[i]?=some b/\x = .ref b:=by
    rw[List.getElem?_map]at hx;obtain⟨b,h1,h2⟩:=Option.map_eq_some_iff.mp hx;exact⟨b,h1,h2.symm⟩
   obtain⟨v0,v1,hv,w0,w1⟩:=Hf i b hb;refine⟨b,v0,v1,rfl,aO.of (s2 _ _ hv),_,_,rfl,_,_,rfl,rfl,rfl,ao rfl ⟨v0,_,rfl,w0.tups s2.tups,_,rfl,v1,_,rfl,w1.tups s2.tups,dl rfl,fun t ht=>?_⟩⟩
   have s3:av H2 (upd H2 t (.tup [oV (wN F i false),oV (wN F i true)])):=av.new ht;have tL:t≠L:=fun z=>by rw[z,Sq]at ht;cases ht
   have RS:H L=none:=hL;refine⟨s3 _ _ Sq,(s2.trans s3).put RS,ae,?_⟩;rw[Jr];have keep:∀ z pr,gV H2 z pr->gV (upd (upd H2 t (.tup [oV (wN F i false),oV (wN F i true)])) L (.lst (acc++[.ref t]))) z pr:=fun z pr ⟨b,e,hb⟩=>⟨b,e,by rw[aq (aW hb Sq (by intro z;cases z))];exact s3 _ _ hb⟩
   exact Paired.snoc (Paired.imp' (fun _ _ z=>keep _ _ z) pr) ⟨t,rfl,by rw[aq tL,ae]⟩
  ·rintro acc H2 ⟨s2,Sq,pr⟩;rw[List.length_map]at pr;refine⟨L,_,rfl,.inl ⟨aO.of Sq,fun l hl=>?_⟩⟩
   exact q l acc _ (s2.trans (av.new hl)) ae (Paired.imp' (fun _ _ ⟨b,e,hb⟩=>⟨b,e,av.new hl _ _ hb⟩) pr)
theorem jZ.same{p:Nat}{N:RM.Net}{L:Nat->Int}{m u:Nat}{D:Addr}{F:RM.OW}{H0 H H' : Hp}(h:jZ p N L m u D F H0 H)(s:av H H'):jZ p N L m u D F H0 H':=by
 obtain⟨es,e1,e2,e3,e4,e5,e6⟩:=h;exact⟨es,e1,s _ _ e2,fun i b hb=>let⟨v0,v1,q1,q2,q3⟩:=e3 i b hb;⟨v0,v1,s _ _ q1,q2.tups s.tups,q3.tups s.tups⟩,e4,e5,e6⟩
theorem jZ.put{p:Nat}{N:RM.Net}{L:Nat->Int}{m u:Nat}{D X:Addr}{F:RM.OW}{H0 H:Hp}{xs ys:List V}(h:jZ p N L m u D F H0 H)(hD:H0 D=none)(hX:H X=some (.lst xs))(hX0:∃ o,H0 X=some o):jZ p N L m u D F H0 (upd H X (.lst ys)):=by
 obtain⟨es,e1,e2,e3,e4,e5,e6⟩:=h;obtain⟨o,ho⟩:=hX0;have ne:∀ b,H0 b=none->b≠X:=fun b hb z=>by rw[z,ho]at hb;cases hb
 have tp:c6 H (upd H X (.lst ys)):=c6.put hX;refine⟨es,e1,by rw[aq (ne D hD)];exact e2,fun i b hb=>?_,e4,e5,e6⟩
 obtain⟨v0,v1,q1,q2,q3⟩:=e3 i b hb;exact⟨v0,v1,by rw[aq (ne b (e6.1 b (List.mem_of_getElem? hb)))];exact q1,q2.tups tp,q3.tups tp⟩
def ET(p:Nat)(N:RM.Net)(L:Nat->Int)(m i:Nat)(ds:List Addr)(Fs:Nat->RM.OW)(H:Hp):Prop:=ds.length=i/\∀(j:Nat) d,ds[j]?=some d->∃ H0,jZ p N L m j d (Fs j) H0 H
def BB(t:Addr)(lp:Pos):Sp:=fun vs H Q _=>∃ w p ts,∃ g:aE p ts,∃ m:Nat,vs=[.ref w,.int (m:Int)]/\bu H w p ts/\m<2^ts.length/\H t=some (.jz (eF (n8 "least_ways") lp))/\
 ∀ D ds Fs H',H D=none->av H H'->H' D=some (.lst (ds.map V.ref))->ET p g.N (aY ts) m p ds Fs H'->Q (.ref D) H'
theorem cJ:Ok T T.fc 6 (BB a.cG cj):=by
 have lC:=lC T;refine T.fc.ok pY fun cdv A outer s H vs Q E hr h=>?_
 ·obtain⟨wb,p,ts,g,m,rfl,hw,hm,htb,q⟩:=h;refine⟨_,(au (aB (bx (own:=["start"]) (frees:=["web","marks"]) (js:=[0,1]) (az (aj eZ) ["web","marks"]) rfl (bf (by rfl) T.bV (aa (aG (bW K) (pv 0) ai) af)) (fun _ _ _ _=>(aX 0 (show(["start","web","marks"]:List Str).Nodup by decide +kernel))) (fun _ _ _ _=>bY) (fun _ _ _ _=>(aK lC hr T.iV.c aN (aa (pv 1) (aa (pv 2) (aa (pv 0) af)))))))),?_⟩
  obtain⟨bt,xs,h1,h2,h3⟩:=id hw.ex;have wp:=g.p2;refine(ao rfl (bX (aP.of h1) (ak (j:=0) rfl) (ao rfl ⟨(by lia),(by lia),fun D hD=>cz (lo:=0) (m:=(p:Int).toNat) (fun i acc H2=>av H H2/\H2 D=some (.lst acc)/\∃ ds Fs,acc=ds.map V.ref/\ds.length=i/\∀(j:Nat) d,ds[j]?=some d->∃ H0,jZ p g.N (aY ts) m j d (Fs j) H0 H2/\H0 d=none/\∃ o,H0 D=some o) ⟨av.new hD,ae,[],fun _ _ _=>none,rfl,rfl,fun j d e=>by cases e⟩ (fun i acc H2 _ ⟨_,z,ds,_,e,l,_⟩=>⟨z,by rw[e,List.length_map];lia⟩) (dl (Nat.ble_eq.mpr (by lia))) ?_ ?_⟩)))
  ·rintro i acc H2 hi ⟨s2,jx,ds,Fs,rfl,hl,all⟩;rw[Int.toNat_natCast]at hi;rw[Int.zero_add];refine⟨rfl,ao rfl (ao rfl (ao rfl ⟨wb,p,ts,g,m,i,rfl,hw.same s2,hm,hi,s2 _ _ htb,fun d F H3 hd s3 wa=>?_⟩))⟩
   have oN:=s3 _ _ jx;refine⟨oN,(s2.trans s3).put hD,ae,ds++[d],fun j=>if j=i then F else Fs j,by simp,by simp[hl],fun j d' e=>?_⟩
   by_cases ej:j<ds.length
   ·rw[List.getElem?_append_left ej]at e;obtain⟨H0,w0,n0,o0⟩:=all j d' e;dsimp only;rw[if_neg (show ¬ j=i by lia)]
    exact⟨H0,(w0.same s3).put n0 oN o0,n0,o0⟩
   ·rw[List.getElem?_append_right (by lia)]at e
    have hj:j=i:=by
     have:=(List.getElem?_eq_some_iff.mp e).1;simp at this
     lia
    subst hj;rw[hl,Nat.sub_self]at e;have e:d=d':=by simpa using e
    subst e;dsimp only;rw[if_pos rfl];exact⟨H2,wa.put hd oN ⟨_,jx⟩,hd,_,jx⟩
  ·rintro acc H2 ⟨s2,jx,ds,Fs,rfl,hl,all⟩;rw[Int.toNat_natCast]at hl;exact q D ds Fs H2 hD s2 jx ⟨hl,fun j d e=>let⟨H0,w0,_⟩:=all j d e;⟨H0,w0⟩⟩
def zD:Sp:=fun vs H Q _=>∃(D:Addr) (ds:List Addr) (Fs:Nat->RM.OW),∃ p N L m,vs=[.ref D]/\H D=some (.lst (ds.map V.ref))/\p<=900/\ET p N L m p ds Fs H/\
 ∀ b H',av H H'->fE H' b ((List.range p).map fun i=>kq (wN (Fs i)) p)->Q (.ref b) H'
theorem cU:Ok T T.fO 3 zD:=by
 have ig:=ig T;refine T.fO.ok qR fun cdv A outer s H vs Q E hr h=>?_
 ·obtain⟨D,ds,Fs,p,N,L,m,rfl,hD,hp,⟨hl,all⟩,q⟩:=h;refine⟨_,(au (aB (cT (El K) (by rfl) T.iY PyProof.Rows.boot_tuple (aa (bx (own:=["from_point"]) (frees:=[]) (js:=[]) (az (aj fM) ["ways"]) rfl (nX K (pv 0)) (fun _ _ _ _=>(aX 0 (show(["from_point"]:List Str).Nodup by decide +kernel))) (fun _ _ _ _=>bY) (fun _ _ _ _=>(aK ig hr T.ia.c aN (aa (pv 0) af)))) af)))),?_⟩
  refine(ao rfl ⟨D,rfl,⟨_,aO.of hD⟩,fun X hX=>bj (K:=K) (a:=D) (xs:=ds.map V.ref) (fun i acc H2=>av H H2/\H2 X=some (.lst acc)/\Paired (RowW H2) acc ((List.range i).map fun i=>kq (wN (Fs i)) p)) ⟨av.new hX,ae,.nil⟩ (fun i acc H2 _ z=>⟨aO.of (z.1 _ _ hD),z.2.1,by rw[z.2.2.length,List.length_map,List.length_range];exact Nat.le_refl _⟩) (dl (Nat.ble_eq.mpr (by rw[List.length_map];lia))) ?_ ?_⟩)
  ·rintro i x acc H2 hx ⟨s2,hX2,pr⟩;obtain⟨d,hd,rfl⟩:∃ d,ds[i]?=some d/\x = .ref d:=by
    rw[List.getElem?_map]at hx;obtain⟨b,h1,h2⟩:=Option.map_eq_some_iff.mp hx;exact⟨b,h1,h2.symm⟩
   obtain⟨H0,wa⟩:=all i d hd;obtain⟨es,e1,e2,e3,_⟩:=wa.same s2;refine⟨rfl,ao rfl ⟨d,es,Fs i,rfl,e2,(by lia),e3,fun b ys H3 s3 hb Qt=>?_⟩⟩
   have BZ:=s3 _ _ hX2;refine⟨BZ,(s2.trans s3).put hX,ae,?_⟩;rw[List.range_succ,List.map_append,e1]at *;exact Paired.snoc (Paired.imp' (fun _ _ z=>z.tups (s3.tups.trans (c6.put BZ))) pr) (RowW.tups (c6.put BZ) ⟨b,ys,rfl,hb,Qt⟩)
  ·rintro acc H2 ⟨s2,hX2,pr⟩;rw[List.length_map,hl]at pr;refine⟨X,_,rfl,.inl ⟨aO.of hX2,fun l hl=>?_⟩⟩
   exact q l _ (s2.trans (av.new hl)) ⟨acc,ae,Paired.imp' (fun _ _ z=>z.same (av.new hl)) pr⟩
theorem KJ{x y:V}{A B:Prop}(h:x≠y)(ha:A):if(!decide (x=y))=true then A else B:=by
 rw[decide_eq_false h];exact ir ha
def MI(p:Nat)(ts:List dJ)(g:aE p ts)(m:Nat)(H H' : Hp)(t:Addr):Prop :=
 ((∀ x z,x<p->¬ RM.Wy g.N (aY ts) m x x true z)/\m=g.N.cut (fun x=>decide (x∈sG p ts g m))/\∃ l,H l=none/\H' t=some (.tup [.str "side",.ref l])/\H' l=some (.lst (aA (sG p ts g m))))\/
 ∃(z:Int) (e:Nat) (b:Addr) (W:List (List Pr)),RM.Lo g.N (aY ts) m z e/\RM.u9 g.N (aY ts) m z e/\H' t=some (.tup [.str "ring",.int (e:Int),.ref b])/\fE H' b W/\W.length=p/\(∀ R∈W,R.length=p)/\lH p ts g m W
def zE(C t:Addr)(lp:Pos):Sp:=fun vs H Q E=>∃ w p ts,∃ g:aE p ts,∃ S,vs=[.ref w,.int S]/\bu H w p ts/\H t=some (.jz (eF (n8 "least_ways") lp))/\qb ts S (E (.ref C) none H) fun m=>∀ r H',H r=none->av H H'->MI p ts g m H H' r->Q (.ref r) H'
def vH(H:Hp)(v:V)(d:Int×Nat):Prop:=∃ c,v = .ref c/\H c=some (.tup [.int d.1,.int (d.2:Int)])
theorem vH.tups{H H' : Hp}{v:V}{d:Int×Nat}(h:vH H v d)(s:c6 H H'):vH H' v d:=let⟨c,e,q⟩:=h;⟨c,e,s _ _ q⟩
def oG(d:Int×Nat):PyData:=.tuple [.int d.1,.int (d.2:Int)]
theorem BC{K:bK}{H:Hp}:∀{ys:List V} {R:List (Int×Nat)},Paired (vH H) ys R->DatVs K H ys (R.map oG)
 | _,_,.nil=>.nil
 | _,_,.cons h r=>by
   obtain⟨b,rfl,hb⟩:=h;exact .cons (.tup (aP.of hb) (.cons (.int _) (.cons (.int _) .nil))) (BC r)
theorem KL:∀ l:List (Int×Nat),PyData.eqv (.list (l.map oG)) (.list [])=decide (l=[])
 | []=>rfl
 | _::_=>rfl
theorem BD:∀ R:List (Int×Nat),PyData.canLayAll0 (R.map oG)=true
 | []=>rfl
 | q::r=>by
   have ih:=BD r;have e:(oG q).canLay0=true:=by simp[oG,PyData.canLay0,PyData.canLayAll0]
   simp only[List.map_cons,PyData.canLayAll0,ih,Bool.and_true,e]
theorem x9:∀ R:List (Int×Nat),PyData.depthAll (R.map oG)<=1
 | []=>Nat.zero_le _
 | q::r=>by
   have ih:=x9 r;show max (PyData.depth (oG q)) (PyData.depthAll (r.map oG))<=1;have e:PyData.depth (oG q)=1:=by simp[oG,PyData.depth,PyData.depthAll]
   lia
theorem yb{H:Hp}:∀{ys:List V} {R:List (Int×Nat)},Paired (vH H) ys R->∃ cs:List Addr,ys=cs.map V.ref/\Paired (fun(c:Addr) (d:Int×Nat)=>H c=some (.tup [.int d.1,.int (d.2:Int)])) cs R
 | _,_,.nil=>⟨[],rfl,.nil⟩
 | _,_,.cons h r=>by
   obtain⟨b,rfl,hb⟩:=h;obtain⟨cs,rfl,pr⟩:=yb r;exact⟨b::cs,rfl,.cons hb pr⟩
theorem BE(R:List (Int×Nat)):SeqAt.shaped (.list (R.map oG))=true:=by
 unfold SeqAt.shaped;have e:(PyData.list (R.map oG)).canLay0=PyData.canLayAll0 (R.map oG):=by simp[PyData.canLay0]
 rw[e,BD,Bool.true_and];refine decide_eq_true ?_;have h:=x9 R;have e2:PyData.depth (PyData.list (R.map oG))=PyData.depthAll (R.map oG)+1:=by simp[PyData.depth]
 rw[e2]
 lia
theorem yK{a b:Int×Nat}(h:HT.lexLt [a.1,(a.2:Int)] [b.1,(b.2:Int)]=false):RM.lx b a:=by
 rw[HT.gM]at h;unfold RM.lx
 by_cases e:a.1=b.1
 ·rw[if_pos e,HT.gM]at h;refine .inr ⟨e.symm,?_⟩
  by_cases e2:(a.2:Int)=(b.2:Int)
  ·lia
  ·rw[if_neg e2]at h;have:=of_decide_eq_false h
   lia
 ·rw[if_neg e]at h;have:=of_decide_eq_false h;exact .inl (by lia)
theorem mU:Kv T T.mO 7 (zE a.eJ a.cG cj):=by
 have cY:=cY T;have cJ:=cJ T;have cU:=cU T;have rQ:=rQ T;refine T.mO.Ft kU fun cdv A outer s H vs Q E hr h=>?_
 ·obtain⟨wb,p,ts,g,S,rfl,hw,htb,q⟩:=h;refine⟨_,(ah (dW (aK cY hr T.iC.c gr.passes (aa (pv 0) (aa (pv 1) af))))
   (ah (aI (i:=2) kU.nd rfl (Or.inr rfl) (aK cJ hr T.fc.c aN (aa (pv 0) (aa (pv 1) af))))
   (ah (eR (i:=3) kU.nd rfl rfl (own:=["point"]) (frees:=["ways"]) (js:=[2]) (az (aj jH) ["web","marks","ways","rounds"]) rfl (bf (by rfl) T.bV (aa (aG (bW K) (pv 0) ai) af)) (fun _ _ _ _=>(aX 0 (show(["point","ways"]:List Str).Nodup by decide +kernel))) (fun _ _ _ _=>(cR (aH ym (aG (j7 K) (aG (j7 K) (aG (j7 K) (pv 1) (pv 0)) (pv 0)) ai) iE (aJ _)))) (fun _ _ _ _=>(aG (j7 K) (aG (j7 K) (aG (j7 K) (pv 1) (pv 0)) (pv 0)) ai)))
   (ah (bF (aH (Ij K hr.units) (pv 3) (eg af) (aJ _)) (au (aB (aK rQ hr T.rG.c gr.passes (aa (pv 0) (aa (pv 1) af))))) aR)
   (au (aB (c7 (aa qh (aa (aG (bW K) (aF (Vt hr.hd hr.in1.Cc) (by rfl) T.ER PyProof.Rows.boot_min (aa (pv 3) af)) ai) (aa (aK cU hr T.fO.c aN (aa (pv 2) af)) af)))))))))),?_⟩
  refine yT ?_;intro cA cP dm eO fF;obtain⟨bt,xs,h1,h2,h3⟩:=id hw.ex;have wp:=g.p2;have W:=g.Hv;rcases q with⟨m,rfl,hm,q⟩|⟨hS,q⟩
  case inr=>exact(ao rfl (ao rfl ⟨wb,p,ts,_,rfl,hw,W,.inr ⟨hS,q⟩⟩))
  refine(ao rfl (ao rfl ⟨wb,p,ts,_,rfl,hw,W,.inl ⟨m,rfl,hm,?_⟩⟩));refine(ao rfl (ao rfl ⟨wb,p,ts,g,m,rfl,hw,hm,htb,fun D ds Fs H1 hD s1 qL al=>?_⟩))
  obtain⟨hl,all⟩:=id al;have Hf:∀ i,i<p->∃ d H0,ds[i]?=some d/\jZ p g.N (aY ts) m i d (Fs i) H0 H1:=fun i hi=>by
   have e:ds[i]?=some ds[i]:=List.getElem?_eq_getElem (by lia)
   obtain⟨H0,h0⟩:=all i _ e;exact⟨_,H0,e,h0⟩
  refine(ao rfl (bX (aP.of (s1 _ _ h1)) (ak (j:=0) rfl) (ao rfl ⟨(by lia),(by lia),fun X hX=>cz (lo:=0) (m:=(p:Int).toNat) (fun i acc H2=>av H1 H2/\H2 X=some (.lst acc)/\Paired (vH H2) acc ((List.range i).filterMap fun j=>Fs j j true)) ⟨av.new hX,ae,.nil⟩ (fun i acc H2 _ z=>⟨z.2.1,by rw[z.2.2.length];exact Nat.le_trans (List.length_filterMap_le ..) (by simp)⟩) (dl (Nat.ble_eq.mpr (by lia))) ?_ ?_⟩)))
  ·rintro i acc H2 hi ⟨s2,hX2,pr⟩;rw[Int.toNat_natCast]at hi;rw[Int.zero_add];obtain⟨d,H0,hd,es,e1,e2,e3,_⟩:=Hf i hi;have hei:es[i]?=some es[i]:=List.getElem?_eq_getElem (by lia)
   obtain⟨v0,v1,hv,w0,w1⟩:=e3 i _ hei;have fm:(List.range (i+1)).filterMap (fun j=>Fs j j true)=(List.range i).filterMap (fun j=>Fs j j true)++(Fs i i true).toList:=by
    rw[List.range_succ,List.filterMap_append];cases hF:Fs i i true<;>simp[hF]
   rw[fm];have XF:(ds.map V.ref)[i]?=some (.ref d):=by rw[List.getElem?_map,hd];rfl
   have hdi:(es.map V.ref)[i]?=some (.ref es[i]):=by rw[List.getElem?_map,hei];rfl
   refine⟨rfl,ao rfl (ao rfl (jP (aO.of (s2 _ _ qL)) (ak (j:=i) XF) (ao rfl (jP (aO.of (s2 _ _ e2)) (ak (j:=i) hdi) (jP (aO.of (s2 _ _ hv)) (ak (j:=1) rfl) ⟨rfl,ao rfl (?_)⟩)))))⟩;cases hF:Fs i i true with
   | none =>
     rw[hF]at w1;have w1:v1 = .eM:=w1;subst w1;refine Eh rfl ⟨s2,hX2,?_⟩;rw[show(none:Option (Int×Nat)).toList=[] from rfl,List.append_nil]
     exact pr
   | some dd =>
     rw[hF]at w1;obtain⟨c,rfl,hc⟩:=w1;refine KJ (fun z=>nomatch z) (ao rfl (ao rfl (jP (aO.of (s2 _ _ qL)) (ak (j:=i) XF) (ao rfl (jP (aO.of (s2 _ _ e2)) (ak (j:=i) hdi) (jP (aO.of (s2 _ _ hv)) (ak (j:=1) rfl) ⟨hX2,s2.put hX,ae,?_⟩))))))
     have tp:c6 H2 (upd H2 X (.lst (acc++[.ref c]))):=c6.put hX2;exact Paired.snoc (Paired.imp' (fun _ _ z=>z.tups tp) pr) ⟨c,rfl,tp _ _ (s2 _ _ hc)⟩
  ·rintro acc H2 ⟨s2,hX2,pr⟩;rw[Int.toNat_natCast]at pr;generalize hR:(List.range p).filterMap (fun j=>Fs j j true)=R at pr
   have s12:=s1.trans s2;have MG:∀ k,k<g.N.n->0<aY ts k:=fun k hk=>by
    have:=(g.vW _ (eU hk)).l0;unfold aY
    lia
   have inR:∀ j d,j<p->Fs j j true=some d->d∈R:=fun j d hj hd=>by
    rw[<-hR];exact List.mem_filterMap.mpr ⟨j,List.mem_range.mpr hj,hd⟩
   have ofR:∀ d,d∈R->∃ j,j<p/\Fs j j true=some d:=fun d hd=>by
    rw[<-hR]at hd;obtain⟨j,hj,e⟩:=List.mem_filterMap.mp hd;exact⟨j,List.mem_range.mp hj,e⟩
   have best:∀ i,i<p->∀ x s,RM.sM g.N (aY ts) m i x s ((Fs i x s).map (·.1)):=fun i hi=>by
    obtain⟨d,H0,hd,es,e1,e2,e3,e4,_⟩:=Hf i hi;exact e4
   refine(ao rfl ⟨dl rfl,fun l0 Ei=>⟨_,_,.lst (aO.of (av.new Ei _ _ hX2)) (BC (Paired.imp' (fun _ _ z=>z.tups (av.new Ei).tups) pr)),.lst (aO.of ae) .nil,BE _,rfl,ao rfl (?_)⟩⟩)
   rw[KL];have s3:=s12.trans (av.new (o:=.lst []) Ei);have EU:=s2.trans (av.new (o:=.lst []) Ei);have BZ:=av.new (o:=.lst []) Ei _ _ hX2;have Qt:=Paired.imp' (fun _ _ z=>vH.tups z (av.new (o:=.lst []) Ei).tups) pr
   clear hX2 pr;generalize upd H2 l0 (.lst [])=H3 at s3 EU BZ Qt
   by_cases hne:R=[]
   ·rw[decide_eq_true hne];have no:∀ x z,x<p->¬ RM.Wy g.N (aY ts) m x x true z:=fun x z hx hw=>by
     have b:=best x hx x true;cases hF:Fs x x true with
     | none=>rw[hF]at b;exact b z hw
     | some d=>have:=inR x d hx hF;rw[hne]at this;cases this
    refine ir (ao rfl (ao rfl ⟨wb,p,ts,g,_,rfl,hw.same s3,.inl ⟨m,rfl,hm,fun t H4 ht s4 told=>?_⟩⟩))
    refine q t H4 (s3.free ht) (s3.trans s4) (.inl ⟨no,?_⟩);rcases told with⟨h0,l,hl,VP,XG⟩|⟨c,hc,hp,_⟩
    ·exact⟨h0,l,s3.free hl,VP,XG⟩
    ·obtain⟨c1,c2⟩:=RM.dF.mp hc;rw[RM.JT (fun k hk=>Int.le_of_lt (MG k hk)) no (RM.xM c1 c2) (RM.tD c1)]at hp
     cases hp
   ·rw[decide_eq_false hne];obtain⟨cs,rfl,XH⟩:=yb Qt;have csl:=XH.length;have hpos:0<cs.length:=by
     have:=List.length_pos_iff.mpr hne
     lia
    have hcs:∀(i:Nat) c,cs[i]?=some c->∃ d,R[i]?=some d/\H3 c=some (.tup [.int d.1,.int (d.2:Int)]):=fun i c hc=>Paired.kc XH hc
    refine cC (ao rfl ⟨X,cs,fun i=>[(R.getD i (0,0)).1,((R.getD i (0,0)).2:Int)],rfl,aO.of BZ,hpos,fun i c hc=>?_,fun i c hc hmin=>?_⟩)
    ·obtain⟨d,hd,h⟩:=hcs i c hc;have e:R.getD i (0,0)=d:=by rw[List.getD_eq_getElem?_getD,hd];rfl
     dsimp only;rw[e];exact aP.of h
    obtain⟨d,hd,hcd⟩:=hcs i c hc;obtain⟨u,hu,XI⟩:=ofR d (List.mem_of_getElem? hd);have hlx:∀ j d',j<p->Fs j j true=some d'->RM.lx d d':=fun j d' hj hF=>by
     obtain⟨i',hi'⟩:=List.getElem?_of_mem (inR j d' hj hF);have hlt:i'<cs.length:=by
      have:=(List.getElem?_eq_some_iff.mp hi').1
      lia
     have hm2:=hmin i' hlt;have e:R.getD i (0,0)=d:=by rw[List.getD_eq_getElem?_getD,hd];rfl
     have e' : R.getD i' (0,0)=d':=by rw[List.getD_eq_getElem?_getD,hi'];rfl
     dsimp only at hm2;rw[e,e']at hm2;exact yK hm2
    have hmn:∀ x z',x<p->RM.Wy g.N (aY ts) m x x true z'->d.1<=z':=fun x z' hx hw=>by
     have b:=best x hx x true;cases hF:Fs x x true with
     | none=>rw[hF]at b;exact absurd hw (b z')
     | some d' =>
       rw[hF]at b;have h1:d'.1<=z':=b.2 z' hw;have h2:=hlx x d' hx hF;unfold RM.lx at h2
       lia
    obtain⟨_,_,_,es,_,_,_,_,wz,_,_⟩:=Hf u hu;have XJ:=wz u true d XI;obtain⟨r1,r2,r3,r4⟩:=RM.CO MG (show u<g.N.p from hu) XJ hmn
    refine(bX (aP.of hcd) (ak (j:=1) rfl) (ao rfl ⟨D,ds,Fs,p,g.N,aY ts,m,rfl,EU _ _ qL,(by lia),⟨hl,fun j d e=>let⟨H0,w0⟩:=all j d e;⟨H0,w0.same EU⟩⟩,fun b H4 s4 hW=>⟨dl rfl,fun t ht=>?_⟩⟩))
    have s5:av H4 (upd H4 t (.tup [.str "ring",.int (d.2:Int),.ref b])):=av.new ht;refine q t _ ((s3.trans s4).free ht) ((s3.trans s4).trans s5) (.inr ⟨d.1,d.2,b,_,⟨Fs,fun i hi=>?_,⟨u,hu,XI⟩,hlx⟩,⟨r1,r2,r3,r4,⟨u,hu,?_⟩,hmn⟩,ae,hW.same s5,by rw[List.length_map,List.length_range],fun R hR=>?_,fun i hi x s hx=>?_⟩)
    ·obtain⟨_,_,_,_,_,_,_,_,_,_,fx⟩:=Hf i hi;exact fx
    ·obtain⟨pre,w0⟩:=XJ;exact⟨pre,_,w0⟩
    ·obtain⟨i,_,rfl⟩:=List.mem_map.mp hR;exact yF _ _
    ·rw[List.getD_eq_getElem?_getD,List.getElem?_map,List.getElem?_range hi];show RM.sM _ _ m i x s (sel (iO (kq (wN (Fs i)) p) x) s);rw[Jq hx];exact best i hi x s
def DH:Sp:=fun vs H Q _=>∃(l:Addr) (rows:List RM.Row3) (x:Nat),vs=[.ref l,.int (x:Int)]/\iP H l rows/\∀ c H',av H H'->H' c=some (.tup [.int (((RM.cO rows x 0).1:Nat):Int),.int (((RM.cO rows x 0).2:Nat):Int)])->Q (.ref c) H'
def BF:Sp:=fun vs H Q _=>∃(l b:Addr) (rows:List RM.Row3) (a:RM.Row3),vs=[.ref l,.ref b]/\iP H l rows/\H b=some (.tup (sA a))/\rows.length<=200/\∀ l' H',av H H'->iP H' l' (RM.vZ rows a)->Q (.ref l') H'
def DI:Sp:=fun vs H Q _=>∃(l:Addr) (B:List Nat),vs=[.ref l]/\H l=some (.lst (aA B))/\B.length<=200/\∀ l' rows H',av H H'->iP H' l' rows->RM.Rw B rows->rows=RM.fq B B.length->Q (.ref l') H'
def NF(p:Nat)(ts:List dJ)(g:aE p ts)(zs:List Int):Prop:=∃ rs:List Nat,zs=rs.map (fun x=>((x:Nat):Int))/\RM.Base g.N rs
def DJ:Sp:=fun vs H Q _=>∃ w p ts,∃ g:aE p ts,∃(l:Addr) (zs:List Int),vs=[.ref w,.ref l]/\bu H w p ts/\H l=some (.lst (zs.map V.int))/\zs.length<=200/\∀ H' (d:Bool),av H H'->(d=true↔NF p ts g zs)->Q (.bl d) H'
theorem cast_inj{xs ys:List Nat}(e:xs.map (fun x=>((x:Nat):Int))=ys.map fun x=>((x:Nat):Int)):xs=ys:=by
 have:=congrArg (List.map Int.toNat) e;rw[List.map_map,List.map_map]at this;have h1:(Int.toNat∘fun x=>((x:Nat):Int))=id:=funext fun x=>rfl
 rw[h1,List.map_id,List.map_id]at this;exact this
theorem Ss{x y:V}{A B:Prop}(h:x≠y)(ha:A):if(!decide (x=y))=true then A else B:=by
 rw[decide_eq_false h];exact ir ha
theorem rR:Ok T T.rH 2 DH:=by
 have cf:=cf T;refine T.rH.ok eG fun cdv A outer s H vs Q E hr h=>?_
 ·obtain⟨l,rows,x,rfl,hR,q⟩:=h;refine⟨_,(ah (aI (i:=2) eG.nd rfl (Or.inl rfl) (pv 1))
   (ah (aI (i:=3) eG.nd rfl (Or.inl rfl) ai)
   (ah (cK PassesOwn.never rfl (nX K (pv 0)) (Fq K (n:=3) rfl (aS (aX 4 eG.nd) (aS (aX 5 eG.nd) (aS (aX 6 eG.nd) dX))))
   (au (bF (bM (aK cf hr T.g8.c aN (aa (pv 2) (aa (pv 4) af)))) (ah (yk (i:=2) eG.nd rfl (Or.inl rfl) (pv 5) D0)
   (au (yk (i:=3) eG.nd rfl (Or.inl rfl) (pv 6) D0))) aR)))
   (au (aB (c7 (aa (pv 2) (aa (pv 3) af)))))))),?_⟩
  refine C4 ?_;intro cA cP dm eO fF lN;obtain⟨xs,hl,pr⟩:=id hR;refine(ao rfl (ao rfl ⟨l,rfl,⟨_,aO.of hl⟩,fZ (K:=K) (a:=l) (xs:=xs) (fun i σ H2=>∃ v4 v5 v6,σ=[some (.ref l),some (.int (x:Int)),some (.int (((RM.cO (rows.take i) x 0).1:Nat):Int)),some (.int (((RM.cO (rows.take i) x 0).2:Nat):Int)),v4,v5,v6]/\H2=H) ⟨none,none,none,rfl,rfl⟩ (fun i σ H2 _ ⟨_,_,_,_,z⟩=>by rw[z];exact aO.of hl) ?_ ?_⟩))
  ·rintro i y D' σ H2 hi ⟨v4,v5,v6,rfl,rfl⟩;obtain⟨qq,hq,b,rfl,hb⟩:=Paired.kc pr hi;refine⟨b,_,rfl,aP.of hb,rfl,_,_,rfl,_,_,rfl,_,_,rfl,rfl,?_⟩;refine(ao rfl (ao rfl ⟨_,qq.1,rfl,ao rfl (?_)⟩));rw[eT];have e3:=Ga (rows.take i) qq x 0;rw[<-take3 hq]at e3;cases pL:(RM.cO (rows.take i) x 0).1.testBit qq.1 with
   | true =>
     rw[pL,if_pos rfl]at e3;refine ir (ao rfl (ao rfl (b7 (ao rfl (ao rfl (b7 ⟨some (.int (qq.1:Int)),some (.int (qq.2.1:Int)),some (.int (qq.2.2:Int)),?_,rfl⟩))))));rw[e3];show[_,_,some (V.int (Builtin.bitXor _ _)),some (V.int (Builtin.bitXor _ _)),_,_,_]=_;rw[xor_int,xor_int]
   | false =>
     rw[pL,if_neg (by decide)]at e3
     refine cC ⟨some (.int (qq.1:Int)),some (.int (qq.2.1:Int)),some (.int (qq.2.2:Int)),?_,rfl⟩;rw[e3];rfl
  ·rintro σ H2 ⟨v4,v5,v6,rfl,rfl⟩;rw[pr.length,List.take_length];exact(ao rfl (ao rfl ⟨dl rfl,fun c hc=>q c _ (av.new hc) ae⟩))
theorem oH:Ok T T.oB 2 BF:=by
 have cf:=cf T;refine T.oB.ok mH fun cdv A outer s H vs Q E hr h=>?_
 ·obtain⟨l,b,rows,ad,rfl,hR,hb,hlen,q⟩:=h;refine⟨_,(ah (aI (i:=2) mH.nd rfl (Or.inl rfl) (eg (aa (pv 1) af)))
   (ah (cK PassesOwn.never rfl (nX K (pv 0)) (aX 3 mH.nd)
   (au (bF (bM (aK cf hr T.g8.c aN (aa (aG (bW K) (pv 3) ai) (aa (aG (bW K) (pv 1) ai) af)))) (au (dW (JZ K (lZ PySem.F.plainAttrs_list PySem.F.slot_list_append PySem.F.type_list_append c8 (pv 2) (aa (c7 (aa (aG (bW K) (pv 3) ai) (aa (aL gp (aG (bW K) (pv 3) ai) (aG (bW K) (pv 1) ai)) (aa (aL gp (aG (bW K) (pv 3) ai) (aG (bW K) (pv 1) ai)) af)))) af))))) (au (dW (JZ K (lZ PySem.F.plainAttrs_list PySem.F.slot_list_append PySem.F.type_list_append c8 (pv 2) (aa (pv 3) af))))))))
   (au (aB (pv 2))))),?_⟩
  refine A2 ?_;intro cA cP dm eO fF;obtain⟨xs,hl,pr⟩:=id hR;have xsl:=pr.length;refine(ao rfl ⟨dl rfl,fun D hD=>?_⟩)
  have s1:av H (upd H D (.lst [.ref b])):=av.new hD;have qL:upd H D (.lst [.ref b]) D=some (.lst [.ref b]):=ae;generalize upd H D (.lst [.ref b])=H1 at s1 qL;refine(ao rfl ⟨l,rfl,⟨_,aO.of (s1 _ _ hl)⟩,fZ (K:=K) (a:=l) (xs:=xs) (fun i σ H2=>∃ v3 acc,σ=[some (.ref l),some (.ref b),some (.ref D),v3]/\av H H2/\H2 D=some (.lst acc)/\acc.length=i+1/\Paired (uT H2) acc (RM.vZ (rows.take i) ad)) ⟨none,_,rfl,s1,qL,rfl,.cons ⟨b,rfl,s1 _ _ hb⟩ .nil⟩ (fun i σ H2 _ ⟨_,_,_,z,_⟩=>aO.of (z _ _ hl)) ?_ ?_⟩)
  ·rintro i y D' σ H2 hi ⟨v3,acc,rfl,s2,jx,al,Su⟩;obtain⟨qq,hq,c,rfl,hc⟩:=Paired.kc pr hi;have OG:=(List.getElem?_eq_some_iff.mp hi).1;have hc2:=s2 _ _ hc;have GZ:=s2 _ _ hb;have put:RM.vZ (rows.take (i+1)) ad=RM.vZ (rows.take i) ad++[if qq.2.1.testBit ad.1=true then(qq.1,qq.2.1^^^ad.2.1,qq.2.2^^^ad.2.2) else qq]:=by
    unfold RM.vZ;rw[take3 hq,List.map_append];rfl
   refine(ao rfl (bX (aP.of hc2) (ak (j:=1) rfl) (ao rfl (bX (aP.of GZ) (ak (j:=0) rfl) ⟨_,ad.1,rfl,ao rfl (?_)⟩))));rw[eT];cases pL:qq.2.1.testBit ad.1 with
   | true =>
     rw[pL,if_pos rfl]at put;refine ir (ao rfl ⟨.inl ⟨rfl,_,aO.of jx⟩,ao rfl (bX (aP.of hc2) (ak (j:=0) rfl) (ao rfl (bX (aP.of hc2) (ak (j:=1) rfl) (ao rfl (bX (aP.of GZ) (ak (j:=1) rfl) (b7 (ao rfl (bX (aP.of hc2) (ak (j:=2) rfl) (ao rfl (bX (aP.of GZ) (ak (j:=2) rfl) (b7 ⟨dl rfl,fun d hd=>?_⟩)))))))))))⟩)
     have s3:av H2 (upd H2 d (.tup (sA (qq.1,qq.2.1^^^ad.2.1,qq.2.2^^^ad.2.2)))):=av.new hd;have Nb:upd H2 d (.tup (sA (qq.1,qq.2.1^^^ad.2.1,qq.2.2^^^ad.2.2))) d=some (.tup (sA (qq.1,qq.2.1^^^ad.2.1,qq.2.2^^^ad.2.2))):=ae;have ev:[V.int (qq.1:Int),V.int (Builtin.bitXor (qq.2.1:Int) (ad.2.1:Int)),V.int (Builtin.bitXor (qq.2.2:Int) (ad.2.2:Int))]=sA (qq.1,qq.2.1^^^ad.2.1,qq.2.2^^^ad.2.2):=by
      rw[xor_int,xor_int];rfl
     dsimp only;rw[ev];generalize upd H2 d (.tup (sA (qq.1,qq.2.1^^^ad.2.1,qq.2.2^^^ad.2.2)))=H3 at s3 Nb;have oN:=s3 _ _ jx;refine⟨D,_,_,rfl,rfl,oN,iF (by lia),_,acc++[.ref d],rfl,(s2.trans s3).put hD,ae,by rw[List.length_append,al];rfl,?_⟩
     rw[put];exact Paired.snoc (Paired.imp' (fun _ _ z=>z.tups (s3.tups.trans (c6.put oN))) Su) ⟨d,rfl,c6.put oN _ _ Nb⟩
   | false =>
     rw[pL,if_neg (by decide)]at put
     refine cC (ao rfl ⟨.inl ⟨rfl,_,aO.of jx⟩,ao rfl ⟨D,_,_,rfl,rfl,jx,iF (by lia),_,acc++[.ref c],rfl,s2.put hD,ae,by rw[List.length_append,al];rfl,?_⟩⟩)
     rw[put];exact Paired.snoc (Paired.imp' (fun _ _ z=>z.tups (c6.put jx)) Su) ⟨c,rfl,c6.put jx _ _ hc2⟩
  ·rintro σ H2 ⟨v3,acc,rfl,s2,jx,al,Su⟩;rw[xsl,List.take_length]at Su;exact(ao rfl (q D H2 s2 ⟨acc,jx,Su⟩))
theorem jc:Ok T T.ny 3 DI:=by
 have rR:=rR T;have oH:=oH T;refine T.ny.ok gZ fun cdv A outer s H vs Q E hr h=>?_
 ·obtain⟨l,B,rfl,hl,hB,q⟩:=h;refine⟨_,(ah (aI (i:=1) gZ.nd rfl (Or.inl rfl) (eg af))
   (ah (cK PassesOwn.never rfl (En K (by rfl) T.jM (aa (pv 0) af)) (Fq K (n:=2) rfl (aS (aX 2 gZ.nd) (aS (aX 3 gZ.nd) dX)))
   (ah (aI (i:=4) gZ.nd rfl (Or.inl rfl) (aK rR hr T.rH.c aN (aa (pv 1) (aa (pv 3) af))))
   (au (bF (aH nK (aG (bW K) (pv 4) ai) ai (aJ _)) (au (aI (i:=1) gZ.nd rfl (Or.inl rfl) (aK oH hr T.oB.c aN (aa (pv 1) (aa (c7 (aa (aL jg (Ia PySem.F.plainAttrs_int PyProof.Rows.slot_int_bit_length PyProof.Rows.type_int_bit_length Ek (aG (bW K) (pv 4) ai)) ai) (aa (aG (bW K) (pv 4) ai) (aa (aL gp (aG (bW K) (pv 4) ai) (aL kI ai (pv 2))) af)))) af))))) aR))))
   (au (aB (pv 1))))),?_⟩
  refine C5 ?_;intro cA cP dm eO fF;refine⟨dl rfl,fun D hD=>?_⟩
  have s1:av H (upd H D (.lst [])):=av.new hD;have qL:upd H D (.lst []) D=some (.lst []):=ae;generalize upd H D (.lst [])=H1 at s1 qL;refine(ao rfl ⟨l,rfl,⟨_,aO.of (s1 _ _ hl)⟩,Iw (K:=K) (a:=l) (xs:=aA B) (fun i σ H2=>∃ l2 rows v2 v3 v4,σ=[some (.ref l),some (.ref l2),v2,v3,v4]/\av H H2/\iP H2 l2 rows/\RM.Rw (B.take i) rows/\rows=RM.fq B i) ⟨D,[],none,none,none,rfl,s1,⟨[],qL,.nil⟩,RM.Rw.start,rfl⟩ (fun i σ H2 _ ⟨_,_,_,_,_,_,z,_⟩=>aO.of (z _ _ hl)) ?_ ?_⟩)
  ·rintro i x T0 σ H2 hx ⟨l2,rows,v2,v3,v4,rfl,s2,NG,KN,Py⟩ hT;obtain⟨b,hb,rfl⟩:=gP hx;have OG:=(List.getElem?_eq_some_iff.mp hb).1;have s3:av H2 (upd H2 T0 (.tup [.int (i:Int),.int (b:Int)])):=av.new hT;have XM:upd H2 T0 (.tup [.int (i:Int),.int (b:Int)]) T0=some (.tup [.int (i:Int),.int (b:Int)]):=ae;generalize upd H2 T0 (.tup [.int (i:Int),.int (b:Int)])=H3 at s3 XM;refine⟨T0,_,rfl,aP.of XM,rfl,_,_,rfl,_,_,rfl,rfl,?_⟩;refine(ao rfl (ao rfl ⟨l2,rows,b,rfl,NG.same s3,fun c H4 s4 hc=>?_⟩))
   have hlt:(B.take i).length=i:=by rw[List.length_take];lia
   refine(ao rfl (bX (aP.of hc) (ak (j:=0) rfl) (b7 (ao rfl (jh (fun h0=>?_) (fun h0=>?_))))))
   ·have h0:(0:Int)<_:=of_decide_eq_true h0;have Qu:(RM.cO rows b 0).1≠0:=by lia
    have Sv:=KN.put Qu;rw[hlt,<-take3 hb]at Sv;have Sw:=(NG.same s3).same s4;have VV:rows.length<=200:=by have:=KN.le;lia
    refine(ao rfl (ao rfl (bX (aP.of hc) (ak (j:=0) rfl) ⟨rfl,ao rfl ⟨rfl,b7 (ao rfl (bX (aP.of hc) (ak (j:=0) rfl) (ao rfl (bX (aP.of hc) (ak (j:=1) rfl) (ao rfl (b7 ⟨⟨by lia,by lia,by decide⟩,b7 ⟨dl rfl,fun d hd=>?_⟩⟩))))))⟩⟩)))
    have ev:[V.int (((Builtin.Int.intBits (((RM.cO rows b 0).1:Nat):Int):Nat):Int)-1),V.int (((RM.cO rows b 0).1:Nat):Int),V.int (Builtin.bitXor (((RM.cO rows b 0).2:Nat):Int) (1*2^((i:Nat):Int).toNat))]=sA ((RM.cO rows b 0).1.log2,(RM.cO rows b 0).1,(RM.cO rows b 0).2^^^2^i):=by
     rw[Jy Qu,kM,xor_int];rfl
    dsimp only;rw[ev];refine⟨l2,d,rows,_,rfl,Sw.same (av.new hd),ae,VV,fun l5 H5 s5 hR5=>?_⟩
    exact⟨l5,_,_,_,_,rfl,((s2.trans (s3.trans s4)).trans (av.new hd)).trans s5,hR5,Sv,RM.CU Py hb Qu⟩
   ·have Qu:(RM.cO rows b 0).1=0:=by
     have : ¬(0:Int)<_:=fun z=>h0 (decide_eq_true z)
     lia
    have XN:=KN.skip ((KN.qJ b 0).mp Qu);rw[<-take3 hb]at XN;exact⟨l2,rows,_,_,_,rfl,s2.trans (s3.trans s4),(NG.same s3).same s4,XN,RM.AY Py hb Qu⟩
  ·rintro σ H2 ⟨l2,rows,v2,v3,v4,rfl,s2,NG,KN,Py⟩;rw[aC]at Py;rw[aC,List.take_length]at KN;exact(ao rfl (q l2 rows H2 s2 NG KN Py))
theorem rS:Ok T T.rJ 9 DJ:=by
 have DA:=DA T;have ic:=ic T;have jc:=jc T;refine T.rJ.ok C6 fun cdv A outer s H vs Q E hr h=>?_
 ·obtain⟨wb,p,ts,g,l,zs,rfl,hw,hl,hz,q⟩:=h;refine⟨_,(ah (bF (PW.pt (gG (aH nJ (aF (ez K) (by rfl) T.b8 PySem.boot_len (aa (pv 1) af)) (aK DA hr T.Du.c aN (aa (pv 0) af)) (aJ _)) (fQ (cZ (bM (aF (Vj K rfl) (by rfl) T.Sd PyProof.Rows.boot_all (aa (bx (own:=["ring"]) (frees:=["web"]) (js:=[0]) (az (aj nu) ["web","rings"]) rfl (nX K (pv 1)) (fun _ _ _ _=>(aX 0 (show(["ring","web"]:List Str).Nodup by decide +kernel))) (fun _ _ _ _=>bY) (fun _ _ _ _=>(aK ic hr T.hU.c aN (aa (pv 1) (aa (pv 0) af))))) af))))))) (au (aB cS)) aR)
   (au (aB (cQ ee (aF (ez K) (by rfl) T.b8 PySem.boot_len (aa (aK jc hr T.ny.c aN (aa (pv 1) af)) af)) (aF (ez K) (by rfl) T.b8 PySem.boot_len (aa (pv 1) af)) (aJ _))))),?_⟩
  refine fH ?_;intro cA cP;refine(ao rfl (lJ rfl (.inl (aO.of hl)) (ao rfl ⟨wb,p,ts,g,rfl,hw,fun H1 s1=>⟨rfl,ao rfl (?_)⟩⟩)))
  by_cases hn:zs.length=g.N.aU.length
  case neg =>
   refine Ss (fun z=>hn ?_) (q H1 false s1 ⟨(fun z=>nomatch z),fun⟨rs,e,b⟩=>absurd b.len (fun z=>hn ?_)⟩)
   ·have z:=V.int.inj z;rw[List.length_map]at z
    lia
   ·rw[e,List.length_map];exact z
  refine Eh (by rw[List.length_map,hn]) ?_
  have hl1:=s1 _ _ hl;refine(ao rfl ⟨l,rfl,⟨_,aO.of hl1⟩,fun D hD=>bj (xs:=zs.map V.int) (fun i acc H2=>av H1 H2/\H2 D=some (.lst acc)/\∃ bs:List Bool,acc=bs.map V.bl/\bs.length=i/\∀(j:Nat) z d,j<i->zs[j]?=some z->bs[j]?=some d->(d=true↔∃ m:Nat,z=(m:Int)/\m<2^ts.length/\g.N.Ring m)) ⟨av.new hD,ae,[],rfl,rfl,(fun j z d h=>by lia)⟩ (fun i acc H2 _ z=>⟨aO.of (z.1 _ _ hl1),z.2.1,by obtain⟨bs,e,e2,_⟩:=z.2.2;rw[e,List.length_map,e2];exact Nat.le_refl _⟩) (Nat.le_of_lt (iF (by rw[List.length_map];lia))) ?_ ?_⟩)
  ·rintro i x acc H2 hx ⟨s2,jx,bs,rfl,bl,all⟩;rw[List.getElem?_map]at hx;obtain⟨z,hz,rfl⟩:=Option.map_eq_some_iff.mp hx;refine⟨rfl,ao rfl (ao rfl ⟨wb,p,ts,g,z,rfl,hw.same (s1.trans s2),fun H3 d s3 hd=>?_⟩)⟩
   refine⟨s3 _ _ jx,(s2.trans s3).put hD,ae,bs++[d],by rw[List.map_append];rfl,by rw[List.length_append,bl];rfl,fun j z' d' hj hz' hd'=>?_⟩
   by_cases e:j=i
   ·subst e;rw[hz]at hz';cases hz';rw[List.getElem?_append_right (by lia),bl,Nat.sub_self]at hd'
    cases hd';exact hd
   ·rw[List.getElem?_append_left (by lia)]at hd'
    exact all j z' d' (by lia) hz' hd'
  ·rintro acc H2 ⟨s2,jx,bs,rfl,bl,all⟩;rw[List.length_map]at bl all;refine⟨D,_,rfl,aO.of jx,_,rfl,?_⟩;have ok:bs.all id=true↔∃ rs:List Nat,zs=rs.map (fun x=>((x:Nat):Int))/\∀ r∈rs,g.N.Ring r/\r<2^ts.length:=by
    rw[List.all_eq_true]
    constructor
    ·intro h;have each:∀ z∈zs,∃ m:Nat,z=(m:Int)/\m<2^ts.length/\g.N.Ring m:=fun z hz'=>by
      obtain⟨j,hj⟩:=List.getElem?_of_mem hz';have Nk:=(List.getElem?_eq_some_iff.mp hj).1;have hb:bs[j]?=some (bs[j]'(by lia)):=List.getElem?_eq_getElem _
      exact(all j z _ Nk hj hb).mp (h _ (List.mem_of_getElem? hb))
     refine⟨zs.map Int.toNat,?_,fun r hr=>?_⟩
     ·rw[List.map_map];refine(List.map_id zs).symm.trans (List.map_congr_left fun z hz'=>?_)
      obtain⟨m,rfl,_⟩:=each z hz';rfl
     ·obtain⟨z,hz',rfl⟩:=List.mem_map.mp hr;obtain⟨m,rfl,h1,h2⟩:=each z hz';exact⟨h2,h1⟩
    ·rintro⟨rs,rfl,hrs⟩ d hd;obtain⟨j,hj⟩:=List.getElem?_of_mem hd;have Nk:=(List.getElem?_eq_some_iff.mp hj).1;have hr:rs[j]?=some (rs[j]'(by rw[List.length_map]at bl;lia)):=List.getElem?_eq_getElem _
     have hm:=hrs _ (List.mem_of_getElem? hr);exact(all j _ d (by lia) (by rw[List.getElem?_map,hr];rfl) hj).mpr (ao rfl ⟨hm.2,hm.1⟩)
   cases hall:bs.all id with
   | false =>
     refine ir (q H2 false (s1.trans s2) ⟨(fun z=>nomatch z),fun⟨rs,e,b⟩=>?_⟩)
     rw[ok.mpr ⟨rs,e,b.ring⟩]at hall;cases hall
   | true =>
     obtain⟨rs,rfl,hrs⟩:=ok.mp hall;rw[List.length_map]at hz hn;rw[<-jm]at hl1;have hl2:=s2 _ _ hl1;refine cC (ao rfl ⟨l,rs,rfl,hl2,hz,fun l3 rows H3 s3 T6 XO _=>?_⟩)
     obtain⟨xs,VW,Qt⟩:=id T6;refine(lJ rfl (.inl (aO.of VW)) (ao rfl (lJ rfl (.inl (aO.of (s3 _ _ hl2))) ⟨rfl,q H3 _ ((s1.trans s2).trans s3) ?_⟩)));rw[aC,Qt.length,decide_eq_true_iff]
     constructor
     ·intro e;have e:=V.int.inj e;exact⟨rs,rfl,hn,hrs,XO.len.mp (by lia)⟩
     ·rintro⟨rs2,e,b⟩;rw[<-cast_inj e]at b;have:=XO.len.mpr b.ind;rw[this]
def MarksOf(N:RM.Net)(rs ms:List Nat):Prop:=ms.length=rs.length/\∀(i m:Nat),ms[i]?=some m->m<2^N.n/\∀(j r:Nat),rs[j]?=some r->N.par r m=decide (i=j)
def zF(C:Addr):Sp:=fun vs H Q E=>∃ w p ts,∃ g:aE p ts,∃(l:Addr) (zs:List Int),vs=[.ref w,.ref l]/\bu H w p ts/\H l=some (.lst (zs.map V.int))/\zs.length<=200/\
 ((∃ rs:List Nat,zs=rs.map (fun x=>((x:Nat):Int))/\RM.Base g.N rs/\∀(D:Addr) (ms:List Nat) (H' : Hp),H D=none->av H H'->H' D=some (.lst (aA ms))->MarksOf g.N rs ms->ms=(List.range rs.length).map (fun i=>orM (RM.cF (RM.fq rs rs.length) i))->Q (.ref D) H')\/(¬ NF p ts g zs/\∀ H',av H H'->E (.ref C) none H'))
theorem mV:Kv T T.mP 10 (zF a.vt):=by
 have rS:=rS T;have jc:=jc T;have cf:=cf T;have kD:=kD T;refine T.mP.Ft iS fun cdv A outer s H vs Q E hr h=>?_
 ·obtain⟨wb,p,ts,g,l,zs,rfl,hw,hl,hz,q⟩:=h;refine⟨_,(ah (bF (cZ (bM (aK rS hr T.rJ.c aN (aa (pv 0) (aa (pv 1) af))))) (au (ug gr.U1 rfl (by rfl) T.Ku PySem.F.excBase_ValueError (aa qh af))) aR)
   (ah (aI (i:=2) iS.nd rfl (Or.inl rfl) (aK jc hr T.ny.c aN (aa (pv 1) af)))
   (ah (aI (i:=3) iS.nd rfl (Or.inl rfl) (eg af))
   (ah (tu rfl (bf (by rfl) T.bV (aa (aF (ez K) (by rfl) T.b8 PySem.boot_len (aa (pv 1) af)) af)) (oX (i:=4) iS.nd rfl (Or.inr rfl))
   (au (dW (JZ K (lZ PySem.F.plainAttrs_list PySem.F.slot_list_append PySem.F.type_list_append c8 (pv 3) (aa (aK kD hr T.p7.c aN (aa (pv 0) (aa (bx (own:=["lead","row","places"]) (frees:=["place"]) (js:=[4]) (az (aj jI) ["web","rings","rows","found","place"]) rfl (nX K (pv 2)) (fun _ _ _ _=>(Fq K (n:=3) rfl (aS (aX 0 (show(["lead","row","places","place"]:List Str).Nodup by decide +kernel)) (aS (aX 1 (show(["lead","row","places","place"]:List Str).Nodup by decide +kernel)) (aS (aX 2 (show(["lead","row","places","place"]:List Str).Nodup by decide +kernel)) dX))))) (fun _ _ _ _=>(cR (bM (aK cf hr T.g8.c aN (aa (pv 2) (aa (pv 3) af)))))) (fun _ _ _ _=>(pv 0))) af))) af))))))
   (au (aB (pv 3))))))),?_⟩
  refine yU ?_;intro cA cP dm eO fF lN;refine(ao rfl (ao rfl ⟨wb,p,ts,g,l,zs,rfl,hw,hl,hz,fun H1 d s1 hd=>(ao rfl (?_))⟩))
  rcases q with⟨rs,rfl,bs,q⟩|⟨hn,q⟩
  case inr =>
   cases d with
   | true=>exact absurd (hd.mp rfl) hn
   | false=>exact ir ⟨dl rfl,q H1 s1⟩
  rw[hd.mpr ⟨rs,rfl,bs⟩];refine cC ?_;rw[List.length_map]at hz;rw[<-jm]at hl;have hl1:=s1 _ _ hl;refine(ao rfl ⟨l,rs,rfl,hl1,hz,fun l2 rows H2 s2 NG KN Py=>?_⟩)
  refine⟨dl rfl,fun D hD=>?_⟩
  have s3:av H2 (upd H2 D (.lst [])):=av.new hD;have oN:upd H2 D (.lst []) D=some (.lst (aA [])):=ae;generalize upd H2 D (.lst [])=H3 at s3 oN;have vC:=(s1.trans s2).trans s3;have Kx:H D=none:=(s1.trans s2).free hD;have VW:=vC _ _ hl;have T6:=NG.same s3;obtain⟨xs,hxs,prx⟩:=id T6;have rwl:=KN.le;refine(ao rfl (lJ rfl (.inl (aO.of VW)) (ao rfl ⟨(by rw[aC];lia),(by rw[aC];lia),?_⟩)))
  refine c5 (lo:=0) (n:=((aA rs).length:Int).toNat) (fun i σ H4=>∃ v4 ms,σ=[some (.ref wb),some (.ref l),some (.ref l2),some (.ref D),v4]/\av H H4/\iP H4 l2 rows/\H4 D=some (.lst (aA ms))/\ms=(List.range i).map fun j=>orM (RM.cF rows j)) ⟨none,[],rfl,vC,T6,oN,rfl⟩ ?_ ?_
  ·rintro i D' σ H4 hi ⟨v4,ms,rfl,s4,Sw,BY,MJ⟩;rw[aC,Int.toNat_natCast]at hi;rw[Int.zero_add];obtain⟨xs4,Sx,Pz⟩:=id Sw;have hms:ms.length=i:=by rw[MJ,List.length_map,List.length_range]
   have VX:D≠l2:=fun e=>by
    obtain⟨ys,e1,_⟩:=NG;rw[e,e1]at hD;cases hD
   refine(ao rfl ⟨.inl ⟨rfl,_,aO.of BY⟩,ao rfl (ao rfl ⟨l2,rfl,⟨_,aO.of Sx⟩,fun C hC=>bj (xs:=xs4) (fun j acc H5=>av H4 H5/\H5 C=some (.lst acc)/\acc=aA (RM.cF (rows.take j) i)) ⟨av.new hC,ae,rfl⟩ ?_ (Nat.le_of_lt (iF (by rw[Pz.length];lia))) ?_ ?_⟩)⟩)
   ·rintro j acc H5 hj ⟨s5,PB,rfl⟩;refine⟨aO.of (s5 _ _ Sx),PB,?_⟩;rw[aC];unfold RM.cF;rw[List.length_map];have h1:=List.length_filter_le (fun q:RM.Row3=>q.2.2.testBit i) (rows.take j)
    rw[List.length_take]at h1
    lia
   ·rintro j x acc H5 hx ⟨s5,PB,rfl⟩;obtain⟨qq,hq,c,rfl,hc⟩:=Paired.kc Pz hx;have hc5:=s5 _ _ hc;have lead:RM.cF (rows.take (j+1)) i=RM.cF (rows.take j) i++(if qq.2.2.testBit i=true then[qq.1] else[]):=by
     unfold RM.cF;rw[take3 hq,List.filter_append,List.map_append]
     congr 1
     rw[List.filter_cons];cases qq.2.2.testBit i<;>rfl
    refine⟨c,_,rfl,aP.of hc5,rfl,_,_,rfl,_,_,rfl,_,_,rfl,rfl,rfl,ao rfl (ao rfl ⟨_,i,rfl,ao rfl (?_)⟩)⟩;rw[eT];cases hb:qq.2.2.testBit i with
    | true =>
      rw[hb,if_pos rfl]at lead;refine(ao rfl ⟨PB,s5.put hC,ae,?_⟩);rw[lead,cL]
    | false =>
      rw[hb,if_neg (by decide),List.append_nil]at lead
      exact⟨s5,PB,by rw[lead]⟩
   ·rintro acc H5 ⟨s5,PB,rfl⟩;rw[Pz.length,List.take_length]at PB;have hir:rs[i]?=some rs[i]:=List.getElem?_eq_getElem hi;have mk:=KN.marks (N:=g.N) bs.ind (fun b hb=>(bs.ring b hb).2) (i:=i) hir
    refine⟨wb,p,ts,C,_,rfl,hw.same (s4.trans s5),g.Hv,PB,mk.2,?_⟩;have NB:=s5 _ _ BY;refine⟨D,_,_,rfl,rfl,NB,iF (by rw[aC];lia),_,ms++[orM (RM.cF rows i)],rfl,(s4.trans s5).put Kx,?_,?_,?_⟩
    ·obtain⟨ys,e1,e2⟩:=Sw.same s5;exact⟨ys,by rw[aq VX.symm];exact e1,Paired.imp' (fun _ _ z=>z.tups (c6.put NB)) e2⟩
    ·rw[ae,cL]
    ·rw[List.range_succ,List.map_append,MJ];rfl
  ·rintro σ H4 ⟨v4,ms,rfl,s4,Sw,BY,MJ⟩;rw[aC,Int.toNat_natCast]at MJ;refine(ao rfl (q D ms H4 Kx s4 BY ⟨by rw[MJ,List.length_map,List.length_range],fun i m hm=>?_⟩ (by rw[MJ,<-Py])))
   rw[MJ,List.getElem?_map]at hm;obtain⟨j,hj,rfl⟩:=Option.map_eq_some_iff.mp hm;have ej:j=i/\i<rs.length:=by
    obtain⟨h1,h2⟩:=List.getElem?_eq_some_iff.mp hj;rw[List.getElem_range]at h2;rw[List.length_range]at h1;exact⟨h2.symm,h1⟩
   obtain⟨rfl,Nk⟩:=ej;have mk:=fun j' r (h:rs[j']?=some r)=>KN.marks (N:=g.N) bs.ind (fun b hb=>(bs.ring b hb).2) (i:=j) h
   have hjr:rs[j]?=some rs[j]:=List.getElem?_eq_getElem Nk;exact⟨OF (mk j _ hjr).2,fun j' r hr=>(mk j' r hr).1⟩
def Hg(t1 t2:Addr)(Sy Sz:Pos):Sp:=fun vs H Q _=>∃ w p ts,∃ g:aE p ts,vs=[.ref w]/\bu H w p ts/\H t1=some (.jz (eF (n8 "least_ways") Sy))/\H t2=some (.jz (eF (n8 "by_length") Sz))/\
 ∀ D rs H',H D=none->av H H'->H' D=some (.lst (aA rs))->RM.LB g.N (aY ts) rs->rs.Pairwise (kE ts)->(∃ bs,RM.CS g.N (aY ts) (g.N.aU.map fun c=>2^c) bs []/\rs.Perm bs)->Q (.ref D) H'
theorem dQ:Ok T T.iq 10 (Hg a.cG a.gi cj eW):=by
 have kC:=kC T;have mU:=mU T;have dP:=dP T;have mT:=mT T;refine T.iq.ok di fun cdv A outer s H vs Q E hr h=>?_
 ·obtain⟨wb,p,ts,g,rfl,hw,Hx,KH,q⟩:=h;refine⟨_,(ah (eR (i:=1) di.nd rfl rfl (own:=["chord"]) (frees:=[]) (js:=[]) (az (aj fJ) ["web","waiting","found","marks","ring"]) rfl (nX K (aK kC hr T.qa.c aN (aa (pv 0) af))) (fun _ _ _ _=>(aX 0 (show(["chord"]:List Str).Nodup by decide +kernel))) (fun _ _ _ _=>bY) (fun _ _ _ _=>(aL kI ai (pv 0))))
   (ah (aI (i:=2) di.nd rfl (Or.inl rfl) (eg af))
   (ah (tU PassesOwn.never (aH nK (aF (ez K) (by rfl) T.b8 PySem.boot_len (aa (pv 1) af)) ai (aJ _)) (ah (aI (i:=3) di.nd rfl (Or.inr rfl) (aG (j7 K) (pv 1) ai))
   (ah (aI (i:=4) di.nd rfl (Or.inr rfl) (aG (bW K) (aK mU hr T.mO.c xj (aa (pv 0) (aa (pv 3) af))) ai))
   (ah (dW (JZ K (lZ PySem.F.plainAttrs_list PySem.F.slot_list_append PySem.F.type_list_append c8 (pv 2) (aa (pv 4) af))))
   (au (eR (i:=1) di.nd rfl rfl (own:=["later"]) (frees:=["marks","ring"]) (js:=[3,4]) (az (aj fJ) ["web","waiting","found","marks","ring"]) rfl (nX K (o5 (UT K) (pv 1) (sZ ai) sY)) (fun _ _ _ _=>(aX 0 (show(["later","marks","ring"]:List Str).Nodup by decide +kernel))) (fun _ _ _ _=>bY) (fun _ _ _ _=>(lW (bM (aK dP hr T.ik.c aN (aa (pv 2) (aa (pv 0) af)))) (aL gp (pv 0) (pv 1)) (pv 0)))))))))
   (au (aB (aK mT hr T.jK.c aN (aa (pv 0) (aa (pv 2) af)))))))),?_⟩
  refine vp ?_;intro cA cP dm eO fF lN sE;have wl:=g.len;have cn:g.N.aU.length<=24:=by
   have:g.N.aU.length<=(List.range g.N.n).length:=List.length_filter_le ..;rw[List.length_range]at this;have h2:g.N.n=ts.length:=rfl
   lia
  have XQ:(100:Nat)<sizeLine:=by decide
  refine(ao rfl ⟨wb,p,ts,g,rfl,hw,fun Dc H1 hDc s1 hc1=>⟨Dc,rfl,⟨_,aO.of hc1⟩,fun X hX=>bj (K:=K) (a:=Dc) (xs:=aA g.N.aU) (fun i acc H2=>av H1 H2/\H2 X=some (.lst acc)/\acc=aA ((g.N.aU.take i).map fun c=>2^c)) ⟨av.new hX,ae,rfl⟩ (fun i acc H2 _ z=>⟨aO.of (z.1 _ _ hc1),z.2.1,by rw[z.2.2,aC,List.length_map,List.length_take];lia⟩) (bU (by rw[aC];lia)) ?_ ?_⟩⟩)
  ·rintro i x acc H2 hx ⟨s2,hX2,rfl⟩;obtain⟨c,XR,rfl⟩:∃ c,g.N.aU[i]?=some c/\x = .int (c:Int):=by
    unfold aA at hx;rw[List.getElem?_map]at hx;obtain⟨c,h1,h2⟩:=Option.map_eq_some_iff.mp hx;exact⟨c,h1,h2.symm⟩
   have hcn:=(RM.dF.mp (List.mem_of_getElem? XR)).1;have hcn:c<ts.length:=hcn;refine⟨rfl,ao rfl (b7 ⟨⟨by lia,by lia,by decide⟩,hX2,s2.put hX,ae,?_⟩)⟩
   rw[List.take_add_one,XR];show _=aA (List.map _ (List.take i g.N.aU++[c]));rw[List.map_append,List.map_singleton,cL];dsimp only;rw[kM]
  rintro acc H2 ⟨s2,hX2,rfl⟩;rw[aC,List.take_length]at hX2;refine⟨dl rfl,fun F hF=>?_⟩
  have s3:av H2 (upd H2 F (.lst [])):=av.new hF;have BZ:=s3 _ _ hX2;have XS:upd H2 F (.lst []) F=some (.lst (aA [])):=ae;have hF0:H F=none:=(s1.trans s2).free hF;have hXF:X≠F:=fun z=>by rw[<-z,hX2]at hF;cases hF
  have XT:=(s1.trans s2).trans s3;generalize upd H2 F (.lst [])=H3 at BZ XS XT;have nd:g.N.aU.Nodup:=RM.F4;have hL:=i8 g;refine⟨fun n σ H4=>∃ X bs us ws cs v3 v4,σ=[some (.ref wb),some (.ref X),some (.ref F),v3,v4]/\av H H4/\H4 X=some (.lst (aA ws))/\H4 F=some (.lst (aA bs))/\X≠F/\RM.DP g.N (aY ts) bs us/\RM.Wt g.N bs ws cs/\RM.CS g.N (aY ts) (g.N.aU.map fun c=>2^c) bs ws/\n=ws.length,⟨_,X,[],[],_,_,none,none,rfl,XT,BZ,XS,hXF,RM.DP.start,RM.Wt.start nd,.start,rfl⟩,?_⟩
  rintro n σ H4 ⟨X,bs,us,ws,cs,v3,v4,rfl,PC,NH,XU,VY,dp,wt,lr,rfl⟩;refine(ao rfl (lJ rfl (.inl (aO.of NH)) (b7 (ao rfl (jh (fun hlen=>?_) (fun hlen=>?_))))))
  case refine_2 =>
   have hl : ¬(0:Int)<((aA ws).length:Int):=fun z=>hlen (decide_eq_true z)
   have e:ws=[]:=List.eq_nil_of_length_eq_zero (by rw[aC]at hl;lia)
   subst e;have hb:bs.length=g.N.aU.length:=by
    have:=wt.sum;rw[List.length_nil]at this
    lia
   refine(ao rfl (ao rfl ⟨wb,p,ts,g,F,bs,rfl,hw.same PC,XU,by lia,fun m hm=>(dp.ring m hm).2,PC _ _ KH,fun D ms' H5 hD s5 NB hp hs=>?_⟩))
   exact q D ms' H5 (PC.free hD) (PC.trans s5) NB ((dp.least hb).perm hp) hs ⟨bs,lr,hp⟩
  have hlen:(0:Int)<((aA ws).length:Int):=of_decide_eq_true hlen;rw[aC]at hlen;refine⟨fun σ' H'=>∃ X bs us CT cs v3 v4,σ' = [some (.ref wb),some (.ref X),some (.ref F),v3,v4]/\av H H'/\H' X=some (.lst (aA CT))/\H' F=some (.lst (aA bs))/\X≠F/\RM.DP g.N (aY ts) bs us/\RM.Wt g.N bs CT cs/\RM.CS g.N (aY ts) (g.N.aU.map fun c=>2^c) bs CT/\CT.length<ws.length,fun σ' H' ⟨X,bs,us,CT,cs,v3,v4,e,a1,a2,a3,a4,a5,a6,a8,a7⟩=>⟨_,a7,X,bs,us,CT,cs,v3,v4,e,a1,a2,a3,a4,a5,a6,a8,rfl⟩,?_⟩
  obtain⟨m,ws,rfl⟩:∃ m CT,ws=m::CT:=by
   cases ws with
   | nil=>simp at hlen
   | cons m CT=>exact⟨m,CT,rfl⟩
  have hml:m<2^ts.length:=wt.lt m List.mem_cons_self;refine(ao rfl (jP (aO.of NH) (ak (j:=0) rfl) (?_)));refine(ao rfl (ao rfl ⟨wb,p,ts,g,(m:Int),rfl,hw.same PC,PC _ _ Hx,.inl ⟨m,rfl,hml,fun r H5 hr5 s5 told=>?_⟩⟩))
  obtain⟨r0,g1,g2,g3⟩:=wt.odd;rcases told with⟨n1,_⟩|⟨z,e,b2,W,lo,le,a1,_⟩
  ·obtain⟨x,hx,T7⟩:=RM.pM hL m g1 g2;rw[g3]at T7;exact absurd T7 (n1 x _ hx)
  refine(bX (aP.of a1) (ak (j:=1) rfl) (?_));have XW:=s5 _ _ XU;have hX5:=s5 _ _ NH;have hbl:bs.length<=24:=by have:=wt.sum;lia
  refine(ao rfl ⟨(.inl ⟨rfl,_,aO.of XW⟩),ao rfl ⟨F,_,_,rfl,rfl,XW,(by rw[aC];lia),?_⟩⟩)
  have XX:av H (upd H5 F (.lst (aA bs++[.int (e:Int)]))):=(PC.trans s5).put hF0;have XY:upd H5 F (.lst (aA bs++[.int (e:Int)])) F=some (.lst (aA (bs++[e]))):=by rw[ae,cL]
  have DK:upd H5 F (.lst (aA bs++[.int (e:Int)])) X=some (.lst (aA (m::ws))):=by rw[aq VY];exact hX5
  generalize upd H5 F (.lst (aA bs++[.int (e:Int)]))=H6 at XX XY DK;have VZ:qm (aA (m::ws)) (some (1:Int)) none=aA ws:=IT (m::ws) (i:=1) (by simp)
  have V0:=wt.next le.par;obtain⟨cc,cs',_,V0⟩:=V0;have dp2:=dp.snoc le.ring le.lt le.par (fun r h1 h2 h3=>by
   have:=le.least hL h1 h2 h3;have e1:RM.len g.N (aY ts) e=z:=le.len;rw[e1];exact this) (wt.gU m List.mem_cons_self)
  have aaV:ws.length<=24:=by have:=wt.sum;rw[List.length_cons]at this;lia
  refine(ao rfl (ao rfl ⟨X,_,rfl,aO.of DK,fun c hc=>?_⟩))
  rw[VZ];have XZ:av H (upd H6 c (.lst (aA ws))):=XX.trans (av.new hc);have V1:=av.new hc (o:=.lst (aA ws)) _ _ XY;have Qo:upd H6 c (.lst (aA ws)) c=some (.lst (aA ws)):=ae;generalize upd H6 c (.lst (aA ws))=H7 at XZ V1 Qo;refine⟨c,rfl,⟨_,aO.of Qo⟩,fun X' SA=>bj (K:=K) (a:=c) (xs:=aA ws) (fun i acc H8=>av H7 H8/\H8 X' = some (.lst acc)/\acc=aA ((ws.take i).map fun v=>if g.N.par e v=true then v^^^m else v)) ⟨av.new SA,ae,rfl⟩ (fun i acc H8 _ z=>⟨aO.of (z.1 _ _ Qo),z.2.1,by rw[z.2.2,aC,List.length_map,List.length_take];lia⟩) (bU (by rw[aC];lia)) ?_ ?_⟩
  ·rintro i x acc H8 hx ⟨s8,PD,rfl⟩;obtain⟨v,M4,rfl⟩:∃ v,ws[i]?=some v/\x = .int (v:Int):=by
    unfold aA at hx;rw[List.getElem?_map]at hx;obtain⟨c,h1,h2⟩:=Option.map_eq_some_iff.mp hx;exact⟨c,h1,h2.symm⟩
   have T8:v<2^ts.length:=wt.lt v (List.mem_cons_of_mem _ (List.mem_of_getElem? M4));have KA:Builtin.Int.intBits ((e&&&v:Nat):Int)<=1000:=Nat.le_trans (bits_le (Nat.and_lt_two_pow _ T8)) (by lia)
   have snoc:∀ y,(if g.N.par e v=true then v^^^m else v)=y->aA ((ws.take i).map fun v=>if g.N.par e v=true then v^^^m else v)++[.int (y:Int)]=aA ((ws.take (i+1)).map fun v=>if g.N.par e v=true then v^^^m else v):=fun y hy=>by
    rw[List.take_add_one,M4];show _=aA (List.map _ (List.take i ws++[v]));rw[List.map_append,List.map_singleton,cL,hy]
   refine⟨rfl,ao rfl (ao rfl ⟨_,_,e,v,rfl,rfl,rfl,KA,fun H9 s9=>(ao rfl (?_))⟩)⟩
   rw[ED (g:=g) T8];have SD:=s8.trans s9;have X0:=s9 _ _ PD;cases hb:g.N.par e v with
   | true =>
     refine ir (ao rfl (ao rfl (b7 ⟨X0,SD.put SA,ae,?_⟩)));dsimp only;rw[xor_int];exact snoc _ (if_pos hb)
   | false=>exact cC (ao rfl ⟨X0,SD.put SA,ae,snoc _ (if_neg (by rw[hb];decide))⟩)
  ·rintro acc H8 ⟨s8,PD,rfl⟩;rw[aC,List.take_length]at PD;refine⟨X',bs++[e],us++[m],_,cs',_,_,rfl,XZ.trans s8,PD,s8 _ _ V1,?_,dp2,V0,lr.step lo,by rw[List.length_map];simp⟩
   intro z;rw[z,V1]at SA;cases SA
def zG(t:Addr)(lp:Pos):Sp:=fun vs H Q _=>∃ w p ts,∃ g:aE p ts,∃ m:Nat,vs=[.ref w,.int (m:Int)]/\bu H w p ts/\m<2^ts.length/\H t=some (.jz (eF (n8 "least_ways") lp))/\∀ b W H',av H H'->fE H' b W->FZ p W->lH p ts g m W->Q (.ref b) H'
abbrev Hh:=Nat×Nat×List (List Pr)
def rT(H:Hp)(v:V)(t:Hh):Prop:=∃ c b,v = .ref c/\H c=some (.tup [.int (t.1:Int),.int (t.2.1:Int),.ref b])/\fE H b t.2.2
theorem rT.tups{H H' : Hp}{v:V}{t:Hh}(s:c6 H H')(h:rT H v t):rT H' v t:=let⟨c,b,e,h1,ys,h2,h3⟩:=h;⟨c,b,e,s _ _ h1,ys,s _ _ h2,Paired.imp' (fun _ _ z=>z.tups s) h3⟩
def KO(t1 t2:Addr)(Sy Sz:Pos):Sp:=fun vs H Q _=>∃ w p ts,∃ g:aE p ts,vs=[.ref w]/\bu H w p ts/\H t1=some (.jz (eF (n8 "least_ways") Sy))/\H t2=some (.jz (eF (n8 "by_length") Sz))/\
 ∀ b ys (tr:List Hh) H',H b=none->av H H'->H' b=some (.tup ys)->Paired (rT H') ys tr->RM.LB g.N (aY ts) (tr.map (·.1))->(tr.map (·.1)).Pairwise (kE ts)->MarksOf g.N (tr.map (·.1)) (tr.map (·.2.1))->(∀ t∈tr,FZ p t.2.2/\lH p ts g t.2.1 t.2.2)->(∃ bs,RM.CS g.N (aY ts) (g.N.aU.map fun c=>2^c) bs []/\(tr.map (·.1)).Perm bs)->tr.map (·.2.1)=(List.range (tr.map (·.1)).length).map (fun i=>orM (RM.cF (RM.fq (tr.map (·.1)) (tr.map (·.1)).length) i))->Q (.ref b) H'
theorem lD:Ok T T.lg 7 (zG a.cG cj):=by
 have cJ:=cJ T;have cU:=cU T;refine T.lg.ok wk fun cdv A outer s H vs Q E hr h=>?_
 ·obtain⟨wb,p,ts,g,m,rfl,hw,hm,htb,q⟩:=h;refine⟨_,(au (aB (aK cU hr T.fO.c aN (aa (aK cJ hr T.fc.c aN (aa (pv 0) (aa (pv 1) af))) af)))),?_⟩;have wp:=g.p2;refine(ao rfl (ao rfl ⟨wb,p,ts,g,m,rfl,hw,hm,htb,fun D ds Fs H1 hD s1 qL al=>?_⟩))
  obtain⟨hl,all⟩:=id al;refine⟨D,ds,Fs,p,g.N,aY ts,m,rfl,qL,(by lia),al,fun b H2 s2 hW=>?_⟩
  refine q b _ H2 (s1.trans s2) hW ⟨by rw[List.length_map,List.length_range],fun R hR=>?_⟩ fun i hi x s hx=>?_
  ·obtain⟨i,_,rfl⟩:=List.mem_map.mp hR;exact yF _ _
  ·have e:ds[i]?=some ds[i]:=List.getElem?_eq_getElem (by lia)
   obtain⟨H0,es,e1,e2,e3,e4,_⟩:=all i _ e;rw[List.getD_eq_getElem?_getD,List.getElem?_map,List.getElem?_range hi];show RM.sM _ _ m i x s (sel (iO (kq (wN (Fs i)) p) x) s);rw[Jq hx];exact e4 x s
theorem iZ:Ok T T.iW 11 (KO a.cG a.gi cj eW):=by
 have dQ:=dQ T;have mV:=mV T;have lD:=lD T;refine T.iW.ok jT fun cdv A outer s H vs Q E hr h=>?_
 ·obtain⟨wb,p,ts,g,rfl,hw,Hx,KH,q⟩:=h;refine⟨_,(ah (aI (i:=1) jT.nd rfl (Or.inl rfl) (aK dQ hr T.iq.c aN (aa (pv 0) af)))
   (ah (aI (i:=2) jT.nd rfl (Or.inl rfl) (aK mV hr T.mP.c xj (aa (pv 0) (aa (pv 1) af))))
   (au (aB (cT (El K) (by rfl) T.iY PyProof.Rows.boot_tuple (aa (bx (own:=["ring","own"]) (frees:=["web"]) (js:=[0]) (az (aj iT) ["web","rings","marks"]) rfl (Iv K (by rfl) T.Nz (aa (pv 1) (aa (pv 2) af))) (fun _ _ _ _=>(Fq K (n:=2) rfl (aS (aX 0 (show(["ring","own","web"]:List Str).Nodup by decide +kernel)) (aS (aX 1 (show(["ring","own","web"]:List Str).Nodup by decide +kernel)) dX)))) (fun _ _ _ _=>bY) (fun _ _ _ _=>(c7 (aa (pv 0) (aa (pv 1) (aa (aK lD hr T.lg.c aN (aa (pv 2) (aa (pv 1) af))) af)))))) af)))))),?_⟩
  refine gy ?_;intro cA cP;have wl:=g.len;refine(ao rfl ⟨wb,p,ts,g,rfl,hw,Hx,KH,fun D rs H1 hD s1 qL lb pw lr=>?_⟩)
  have T9:rs.length<=24:=by
   have h1:g.N.aU.length<=(List.range g.N.n).length:=List.length_filter_le ..;rw[List.length_range,<-lb.1.len]at h1;exact Nat.le_trans h1 wl
  refine(ao rfl (ao rfl ⟨wb,p,ts,g,D,rs.map (fun x=>((x:Nat):Int)),rfl,hw.same s1,by rw[<-jm];exact qL,by rw[List.length_map];lia,.inl ⟨rs,rfl,lb.1,fun D2 ms H2 jx s2 SE mo emk=>?_⟩⟩))
  have SG:=s2 _ _ qL;have s12:=s1.trans s2;have msl:=mo.1;refine(ao rfl (ao rfl ⟨D,D2,rfl,⟨_,aO.of SG⟩,⟨_,aO.of SE⟩,fun X hX=>z9 (xs:=aA rs) (ys:=aA ms) (by rw[aC,aC];lia) (fun i acc H3=>av H2 H3/\H3 X=some (.lst acc)/\∃ tr:List Hh,Paired (rT H3) acc tr/\tr.map (·.1)=rs.take i/\tr.map (·.2.1)=ms.take i/\∀ t∈tr,FZ p t.2.2/\lH p ts g t.2.1 t.2.2) ⟨av.new hX,ae,[],.nil,rfl,rfl,fun t ht=>by cases ht⟩ (fun i acc H3 _ ⟨z1,z2,tr,z3,z4,_⟩=>⟨aO.of (z1 _ _ SG),aO.of (z1 _ _ SE),z2,?_⟩) (bU (by rw[aC];lia)) ?_ ?_⟩))
  ·have h1:=z3.length;have h2:=congrArg List.length z4;rw[List.length_map,List.length_take]at h2
   lia
  ·rintro i x y T0 acc H3 hx hy ⟨s3,BZ,tr,pr,e1,e2,al⟩ hT0;have item:∀{l:List Nat} {v:V},(aA l)[i]?=some v->∃ c,l[i]?=some c/\v = .int (c:Int):=fun {l v} h=>by
    unfold aA at h;rw[List.getElem?_map]at h;obtain⟨c,h1,h2⟩:=Option.map_eq_some_iff.mp h;exact⟨c,h1,h2.symm⟩
   obtain⟨r,w9,rfl⟩:=item hx;obtain⟨m,hmi,rfl⟩:=item hy;have hml:=(mo.2 i m hmi).1;have s4:av H3 (upd H3 T0 (.tup [.int (r:Int),.int (m:Int)])):=av.new hT0;have X3:=(s12.trans s3).trans s4;refine⟨T0,_,rfl,aP.of ae,rfl,_,_,rfl,_,_,rfl,rfl,rfl,ao rfl (ao rfl (ao rfl (ao rfl ⟨wb,p,ts,g,m,rfl,hw.same X3,hml,X3 _ _ Hx,fun b W H5 s5 hW sq bw=>⟨dl rfl,fun c hc=>?_⟩⟩)))⟩
   have s6:av H5 (upd H5 c (.tup [.int (r:Int),.int (m:Int),.ref b])):=av.new hc;have V2:=(s4.trans s5).trans s6;have DK:=V2 _ _ BZ;refine⟨DK,(s3.trans V2).put hX,ae,tr++[(r,m,W)],?_,?_,?_,fun t ht=>?_⟩
   ·exact Paired.snoc (Paired.imp' (fun _ _ z=>rT.tups (V2.tups.trans (c6.put DK)) z) pr) (rT.tups (c6.put DK) ⟨c,b,rfl,ae,hW.same s6⟩)
   ·rw[List.map_append,e1,List.take_add_one,w9];rfl
   ·rw[List.map_append,e2,List.take_add_one,hmi];rfl
   ·rcases List.mem_append.mp ht with z|z
    ·exact al t z
    ·rw[List.mem_singleton.mp z];exact⟨sq,bw⟩
  ·rintro acc H3 ⟨s3,BZ,tr,pr,e1,e2,al⟩;rw[aC,List.take_length]at e1;rw[aC,<-msl,List.take_length]at e2;refine⟨X,_,rfl,.inl ⟨aO.of BZ,fun l hl=>?_⟩⟩
   have s4:av H3 (upd H3 l (.tup acc)):=av.new hl;exact q l acc tr _ ((s12.trans s3).free hl) ((s12.trans s3).trans s4) ae (Paired.imp' (fun _ _ z=>rT.tups s4.tups z) pr) (by rw[e1];exact lb) (by rw[e1];exact pw) (by rw[e1,e2];exact mo) al (by rw[e1];exact lr) (by rw[e1,e2];exact emk)
def DL(t1 t2:Addr)(Sy Sz:Pos):Sp:=fun vs H Q _=>∃ w p ts,∃ g:aE p ts,vs=[.ref w]/\bu H w p ts/\H t1=some (.jz (eF (n8 "least_ways") Sy))/\H t2=some (.jz (eF (n8 "by_length") Sz))/\
 ∀ D rs H',H D=none->av H H'->H' D=some (.lst ((rs.map (lenOf ts)).map V.int))->RM.LB g.N (aY ts) rs->rs.Pairwise (kE ts)->(∃ bs,RM.CS g.N (aY ts) (g.N.aU.map fun c=>2^c) bs []/\rs.Perm bs)->Q (.ref D) H'
theorem rV:Ok T T.rK 11 (DL a.cG a.gi cj eW):=by
 have dQ:=dQ T;have gj:=gj T;refine T.rK.ok C7 fun cdv A outer s H vs Q E hr h=>?_
 ·obtain⟨wb,p,ts,g,rfl,hw,Hx,KH,q⟩:=h;refine⟨_,(au (aB (bx (own:=["ring"]) (frees:=["web"]) (js:=[0]) (az (aj nv) ["web"]) rfl (nX K (aK dQ hr T.iq.c aN (aa (pv 0) af))) (fun _ _ _ _=>(aX 0 (show(["ring","web"]:List Str).Nodup by decide +kernel))) (fun _ _ _ _=>bY) (fun _ _ _ _=>(aK gj hr T.jJ.c xj (aa (pv 1) (aa (pv 0) af))))))),?_⟩
  have wl:=g.len;have W:=g.Hv;refine(ao rfl ⟨wb,p,ts,g,rfl,hw,Hx,KH,fun D rs H1 hD s1 qL lb pw lr=>?_⟩)
  have T9:rs.length<=24:=by
   have h1:g.N.aU.length<=(List.range g.N.n).length:=List.length_filter_le ..;rw[List.length_range,<-lb.1.len]at h1;exact Nat.le_trans h1 wl
  refine⟨D,rfl,⟨_,aO.of qL⟩,fun X hX=>bj (K:=K) (a:=D) (xs:=aA rs) (fun i acc H2=>av H1 H2/\H2 X=some (.lst acc)/\acc=((rs.take i).map (lenOf ts)).map V.int) ⟨av.new hX,ae,rfl⟩ (fun i acc H2 _ z=>⟨aO.of (z.1 _ _ qL),z.2.1,by rw[z.2.2,List.length_map,List.length_map,List.length_take];lia⟩) (bU (by rw[aC];lia)) ?_ ?_⟩
  ·rintro i x acc H2 hx ⟨s2,hX2,rfl⟩;obtain⟨r,w9,rfl⟩:∃ r,rs[i]?=some r/\x = .int (r:Int):=by
    unfold aA at hx;rw[List.getElem?_map]at hx;obtain⟨c,h1,h2⟩:=Option.map_eq_some_iff.mp hx;exact⟨c,h1,h2.symm⟩
   have VV:=(lb.1.ring r (List.mem_of_getElem? w9)).2;refine⟨rfl,ao rfl (ao rfl ⟨wb,p,ts,_,rfl,hw.same (s1.trans s2),W,.inl ⟨r,rfl,VV,fun H3 s3=>⟨s3 _ _ hX2,(s2.trans s3).put hX,ae,?_⟩⟩⟩)⟩
   rw[List.take_add_one,w9];show _=List.map V.int (List.map (lenOf ts) (List.take i rs++[r]));rw[List.map_append,List.map_append];rfl
  ·rintro acc H2 ⟨s2,hX2,rfl⟩;rw[aC,List.take_length]at hX2;exact q X rs H2 (s1.free hX) (s1.trans s2) hX2 lb pw lr
def MK(K:bK):Sp:=fun vs H Q _=>∃(a:Addr) (ns:List Int) (k:Int),vs=[.ref a,.int k]/\0<=k/\aO K H a (ns.map V.int)/\∀ z,Q (.int z) H
def KP:Sp:=fun vs H Q _=>∃(c k:Int),vs=[.int c,.int k]/\0<=k/\k<=1000/\∀ z,0<=z->z<1000000007->Q (.int z) H
def ML:Sp:=fun vs H Q _=>∃(c:Int) (k:Nat),vs=[.int c,.int (k:Int)]/\∀ z,1<=z->z<=1000000000000000000000000000000->Q (.int z) H
def PF:Sp:=fun vs H Q _=>∃(c:Int) (p m:Nat),vs=[.int c,.int (p:Int),.int (m:Int)]/\2<=p/\p<=10/\∀ t b H',av H H'->pA (p:Int) t->H' b=some (.tup (LW t))->Q (.ref b) H'
def PJ(K:bK):Sp:=fun vs H Q _=>∃(a:Addr) (ns:List Int) (mt rk:Nat),vs=[.ref a,.int (mt:Int),.int (rk:Int)]/\aO K H a (ns.map V.int)/\ns.length<=63/\mt<=24/\
 ∀ w p ts H',av H H'->aE p ts->2<=p->p<=6->ts.length<=mt->bu H' w p ts->Q (.ref w) H'
def SH(H:Hp)(D:Addr)(n p:Nat):Prop:=∃ ks:List Nat,H D=some (.lst (aA ks))/\ks.length=n/\∀ k∈ks,k<p
theorem j6:Ok T T.jX 1 (MK K):=by
 refine T.jX.ok vq fun cdv A outer s H vs Q E hr h=>?_
 ·obtain⟨b,ns,k,rfl,hk0,hS,q⟩:=h;refine⟨_,(ah (bF (aH wW (pv 1) (aF (ez K) (by rfl) T.b8 PySem.boot_len (aa (pv 0) af)) (aJ _)) (au (aB (aG (j7 K) (pv 0) (pv 1)))) aR)
   (au (aB ai))),?_⟩
  refine fH ?_;intro cA cP;refine(ao rfl (ao rfl ⟨b,_,rfl,.inl hS,_,_,rfl,rfl,ao rfl (jh (fun hlt=>?_) (fun _=>q 0))⟩))
  have hlt:=of_decide_eq_true hlt;rw[List.length_map]at hlt;obtain⟨k,rfl⟩:=Int.eq_ofNat_of_zero_le hk0;exact(ao rfl (ao rfl ⟨b,_,_,_,rfl,rfl,hS,ak (j:=k) (L0 (by lia)),q _⟩))
theorem jN:Ok T T.jL 1 KP:=by
 refine T.jL.ok kW fun cdv A outer s H vs Q E hr h=>?_
 ·obtain⟨c,k,rfl,hk,hk2,q⟩:=h;refine⟨_,(ah (aI (i:=2) kW.nd rfl (Or.inl rfl) (aL dS (aL dD (pv 0) ai) (aL Cb ai (pv 1))))
   (ah (aI (i:=3) kW.nd rfl (Or.inl rfl) (aL dD (aL Cb (aL dS (pv 2) ai) (aL dS (pv 2) ai)) ai))
   (au (aB (aL oZ (aL dD (aL Cb (pv 3) (pv 3)) ai) ai))))),?_⟩
  refine gy ?_;intro cA cP;have h1:=l7 c 1000000007 (by decide)
  refine(ao rfl (b7 ⟨(nC rfl),ao rfl (b7 ⟨.inl ⟨by decide,by decide⟩,b7 (?_)⟩)⟩))
  refine(ao rfl (b7 (ao rfl (b7 (b7 ⟨.inl ⟨by lia,by lia⟩,b7 ⟨(nC rfl),?_⟩⟩)))))
  have h2:=l7 ((c%1000000007+7919*k+11)*(c%1000000007+7919*k+48271)) 998244353 (by decide)
  dsimp only;generalize (c%1000000007+7919*k+11)*(c%1000000007+7919*k+48271)%998244353=st at h2;refine(ao rfl (ao rfl (b7 ⟨.inl ⟨by lia,by lia⟩,b7 ⟨(nC rfl),b7 ⟨⟨by decide,by decide⟩,?_⟩⟩⟩)))
  have h3:=l7 (st*st) 1000000007 (by decide)
  dsimp only;generalize st*st%1000000007=y at h3;exact q _ (by lia) (by lia)
theorem lE:Ok T T.lq 1 ML:=by
 refine T.lq.ok wm fun cdv A outer s H vs Q E hr h=>?_
 ·obtain⟨c,k,rfl,q⟩:=h;refine⟨_,(ah (bF (aH ee (pv 1) ai (aJ _)) (au (aB (aL dS ai (aL dD (pv 0) ai)))) aR)
   (ah (bF (aH ee (pv 1) ai (aJ _)) (au (aB (aL dS ai (aL dD (pv 0) ai)))) aR)
   (au (aB (aL dS ai (aL dD (pv 0) (aL NY ai ai))))))),?_⟩
  refine wq ?_;intro cA cP dm eO;have h9:=l7 c 9 (by decide)
  have h3:=l7 c 3 (by decide)
  have h30:=l7 c (10^(30:Int).toNat) (by decide)
  have e:(10:Int)^(30:Int).toNat=1000000000000000000000000000000:=by decide
  refine(ao rfl ⟨rfl,ao rfl (jh (fun _=>(ao rfl (b7 ⟨(nC rfl),b7 (q _ (by lia) (by lia))⟩))) (fun _=>(ao rfl ⟨rfl,ao rfl (jh (fun _=>(ao rfl (b7 ⟨(nC rfl),b7 (q _ (by lia) (by lia))⟩))) (fun _=>(ao rfl (b7 ⟨⟨by decide,by decide,by decide⟩,b7 ⟨(nC (by decide)),b7 (q _ (by lia) (by lia))⟩⟩))))⟩)))⟩)
theorem rW:Ok T T.rL 2 PF:=by
 have lE:=lE T;refine T.rL.ok kY fun cdv A outer s H vs Q E hr h=>?_
 ·obtain⟨c,p,m,rfl,hp,Qa,q⟩:=h;refine⟨_,(ah (aI (i:=3) kY.nd rfl (Or.inl rfl) (aL dD (pv 0) (pv 1)))
   (ah (aI (i:=0) kY.nd rfl (Or.inl rfl) (aL oZ (pv 0) (pv 1)))
   (ah (aI (i:=4) kY.nd rfl (Or.inl rfl) (aL dD (aL dS (aL dS (pv 3) ai) (aL dD (pv 0) (aL jg (pv 1) ai))) (pv 1)))
   (au (aB (c7 (aa (pv 3) (aa (pv 4) (aa (aK lE hr T.lq.c aN (aa (aL oZ (pv 0) (aL jg (pv 1) ai)) (aa (pv 2) af))) af))))))))),?_⟩
  refine C8 ?_;intro cA cP dm;obtain⟨h1,h2⟩:=l7 c (p:Int) (by lia)
  obtain⟨h3,h4⟩:=l7 (c/(p:Int)) ((p:Int)-1) (by lia)
  obtain⟨g1,g2,g3⟩:=ID h1 h2 h3 h4;refine(ao rfl (ao rfl (b7 ⟨(by lia),?_⟩)))
  refine(ao rfl (ao rfl (b7 ⟨⟨by lia,by lia⟩,?_⟩)))
  refine(ao rfl (b7 (ao rfl (ao rfl (b7 (b7 ⟨(by lia),b7 (ao rfl (b7 ⟨(by lia),?_⟩))⟩))))))
  refine(ao rfl (ao rfl (ao rfl (ao rfl (b7 (b7 ⟨⟨by lia,by lia⟩,ao rfl ⟨_,m,rfl,fun z hz hz2=>⟨dl rfl,fun b hb=>?_⟩⟩⟩))))))
  exact q (_,_,z) b _ (av.new hb) ⟨h1,h2,g1,g2,g3,hz,hz2⟩ ae
theorem rX:Ok T T.rM 3 (PJ K):=by
 have j6:=j6 T;have jN:=jN T;have rW:=rW T;refine T.rM.ok bO fun cdv A outer s H vs Q E hr h=>?_
 ·obtain⟨b,ns,mt,rk,rfl,hS,hn,hmt,q⟩:=h;refine⟨_,(ah (aI (i:=3) bO.nd rfl (Or.inr rfl) (aK j6 hr T.jX.c aN (aa (pv 0) (aa ai af))))
   (ah (aI (i:=4) bO.nd rfl (Or.inl rfl) (aL dS ai (aL dD (pv 3) ai)))
   (ah (aI (i:=5) bO.nd rfl (Or.inl rfl) (aL dD (aL oZ (pv 3) ai) ai))
   (ah (aI (i:=6) bO.nd rfl (Or.inl rfl) (o5 (UT K) (pv 0) (sZ ai) sY))
   (ah (bF (aH ee (aL dD (aL oZ (pv 3) ai) ai) ai (aJ _)) (ah (eR (i:=6) bO.nd rfl rfl (own:=["k","cell"]) (frees:=[]) (js:=[]) (az (aj g7) ["script","most","ranked","head","points","way","cells","ties","marks","free","cell","tie","joined","old"]) rfl (En K (by rfl) T.jM (aa (o5 (UT K) (pv 0) (sZ ai) sY) af)) (fun _ _ _ _=>(Fq K (n:=2) rfl (aS (aX 0 (show(["k","cell"]:List Str).Nodup by decide +kernel)) (aS (aX 1 (show(["k","cell"]:List Str).Nodup by decide +kernel)) dX)))) (fun _ _ _ _=>bY) (fun _ _ _ _=>(aK jN hr T.jL.c aN (aa (pv 1) (aa (pv 0) af)))))
   (au (dW (JZ K (lZ PySem.F.plainAttrs_list PySem.F.slot_list_extend PySem.F.type_list_extend Fl (pv 6) (aa (bx (own:=["k"]) (frees:=["head"]) (js:=[3]) (az (aj g7) ["script","most","ranked","head","points","way","cells","ties","marks","free","cell","tie","joined","old"]) rfl (bf (by rfl) T.bV (aa ai af)) (fun _ _ _ _=>(aX 0 (show(["k","head"]:List Str).Nodup by decide +kernel))) (fun _ _ _ _=>bY) (fun _ _ _ _=>(aK jN hr T.jL.c aN (aa (pv 1) (aa (aL dS ai (pv 0)) af))))) af)))))) aR)
   (ah (aI (i:=7) bO.nd rfl (Or.inl rfl) (eg af))
   (ah (aI (i:=8) bO.nd rfl (Or.inr rfl) (bx (own:=["point"]) (frees:=[]) (js:=[]) (az (aj g7) ["script","most","ranked","head","points","way","cells","ties","marks","free","cell","tie","joined","old"]) rfl (bf (by rfl) T.bV (aa (pv 4) af)) (fun _ _ _ _=>(aX 0 (show(["point"]:List Str).Nodup by decide +kernel))) (fun _ _ _ _=>bY) (fun _ _ _ _=>(pv 0))))
   (ah (aI (i:=9) bO.nd rfl (Or.inl rfl) ai)
   (ah (cK PassesOwn.never rfl (nX K (pv 6)) (aX 10 bO.nd)
   (ah (aI (i:=11) bO.nd rfl (Or.inr rfl) (aK rW hr T.rL.c aN (aa (pv 10) (aa (pv 4) (aa (pv 5) af)))))
   (ah (aI (i:=12) bO.nd rfl (Or.inl rfl) (cQ nJ (aG (j7 K) (pv 8) (aG (bW K) (pv 11) ai)) (aG (j7 K) (pv 8) (aG (bW K) (pv 11) ai)) (aJ _)))
   (au (bF (PW.pt (B3 (aH wW (aF (ez K) (by rfl) T.b8 PySem.boot_len (aa (pv 7) af)) (pv 1) (aJ _)) (yi (PW.pt (gG (bM (pv 12)) (fQ (aH wW (pv 9) (pv 2) (aJ _)))))))) (ah (dW (JZ K (lZ PySem.F.plainAttrs_list PySem.F.slot_list_append PySem.F.type_list_append c8 (pv 7) (aa (pv 11) af))))
   (ah (aI (i:=9) bO.nd rfl (Or.inl rfl) (aL dS (pv 9) (cT qk (by rfl) T.EO PyProof.Rows.boot_int (aa (HF (pv 12)) af))))
   (ah (aI (i:=13) bO.nd rfl (Or.inr rfl) (aG (j7 K) (pv 8) (aG (bW K) (pv 11) ai)))
   (au (aI (i:=8) bO.nd rfl (Or.inr rfl) (bx (own:=["mark"]) (frees:=["marks","tie","old"]) (js:=[8,11,13]) (az (aj g7) ["script","most","ranked","head","points","way","cells","ties","marks","free","cell","tie","joined","old"]) rfl (nX K (pv 8)) (fun _ _ _ _=>(aX 0 (show(["mark","marks","tie","old"]:List Str).Nodup by decide +kernel))) (fun _ _ _ _=>bY) (fun _ _ _ _=>(aG (j7 K) (eg (aa (pv 0) (aa (aG (j7 K) (pv 1) (aG (bW K) (pv 2) ai)) af))) (cT qk (by rfl) T.EO PyProof.Rows.boot_int (aa (cQ ee (pv 0) (pv 3) (aJ _)) af)))))))))) aR)))))
   (au (aB (c7 (aa (pv 4) (aa (cT (El K) (by rfl) T.iY PyProof.Rows.boot_tuple (aa (pv 7) af)) af)))))))))))))),?_⟩
  refine C9 ?_;intro cA cP dm eO fF lN sE xZ x6 x8 mG lR A3 J0 J7 R6 R7 R8;refine(ao rfl ⟨b,ns,0,rfl,(by decide),hS,fun z=>?_⟩)
  refine(ao rfl (b7 ⟨(nC rfl),b7 (?_)⟩));obtain⟨p,hp,p1,p2⟩:∃ p:Nat,2+z%5=(p:Int)/\2<=p/\p<=6:=by
   obtain⟨h1,h2⟩:=l7 z 5 (by decide)
   exact⟨(2+z%5).toNat,by lia,by lia,by lia⟩
  dsimp only;rw[hp];refine(ao rfl (b7 ⟨⟨by decide,by decide⟩,b7 ⟨(nC rfl),?_⟩⟩))
  obtain⟨wy,T7⟩:∃ y:Nat,z/5%3=(y:Int):=by
   obtain⟨h1,h2⟩:=l7 (z/5) 3 (by decide)
   exact⟨(z/5%3).toNat,by lia⟩
  dsimp only;rw[T7];refine(ao rfl (ao rfl ⟨b,_,rfl,hS,fun c hc=>?_⟩))
  have PK:=Ii ns (some 1) none;have hml:((ns.drop (HT.eN ns.length 0 (some 1))).take (HT.eN ns.length ns.length none-HT.eN ns.length 0 (some 1))).length<=63:=by
   rw[List.length_take,List.length_drop]
   lia
  generalize (ns.drop (HT.eN ns.length 0 (some 1))).take (HT.eN ns.length ns.length none-HT.eN ns.length 0 (some 1))=ms at PK hml;rw[PK];have cont:∀(c1:Addr) (ms1:List Int) (H1:Hp),av H H1->H1 c1=some (.lst (ms1.map V.int))->lR { nx:=fun _ H'=>Q V.eM H',rt:=Q} [some (.ref b),some (.int (mt:Int)),some (.int (rk:Int)),some (.int z),some (.int (p:Int)),some (.int (wy:Int)),some (.ref c1),none,none,none,none,none,none,none] H1:=by
   intro c1 ms1 H1 s1 hc1;refine⟨dl rfl,fun L hL=>?_⟩
   have t2:sL (p:Int) H1 L 0 (upd H1 L (.lst [])):=.start hL;generalize upd H1 L (.lst [])=H2 at t2;refine(ao rfl (ao rfl ⟨(by lia),(by lia),fun M hM=>cz (lo:=0) (m:=(p:Int).toNat) (nF (fun _=>true) H2 M) (.start hM) (fun i acc H3 _ pk=>pk.len) (bU (by lia)) ?_ ?_⟩))
   ·intro i acc H3 hi pk;rw[Int.zero_add];exact⟨rfl,ao rfl (pk.yes hM (av.refl _) rfl)⟩
   intro acc H3 pk;have b3:SH H3 M p p:=by
    refine⟨(List.range p).filter (fun _=>true),by rw[pk.2.1,pk.2.2,Int.toNat_natCast],?_,fun k hk=>List.mem_range.mp (List.mem_filter.mp hk).1⟩
    rw[List.filter_eq_self.mpr (fun _ _=>rfl),List.length_range]
   have t3:sL (p:Int) H1 L 0 H3:=by
    obtain⟨a1,acc,ts,a2,a3,a4⟩:=t2;exact⟨a1.trans pk.1,acc,ts,pk.1 _ _ a2,Paired.imp' (fun _ _ z=>z.tups pk.1.tups) a3,a4⟩
   clear pk;have fr:H1 M=none:=t2.1.free hM;refine(ao rfl ⟨c1,rfl,⟨_,aO.of (t3.1 _ _ hc1)⟩,fZ (K:=K) (a:=c1) (xs:=ms1.map V.int) (fun i σ H4=>∃(M:Addr) (n:Nat) (f:Int) (v10 v11 Hy SJ:Option V),σ=[some (.ref b),some (.int (mt:Int)),some (.int (rk:Int)),some (.int z),some (.int (p:Int)),some (.int (wy:Int)),some (.ref c1),some (.ref L),some (.ref M),some (.int f),v10,v11,Hy,SJ]/\sL (p:Int) H1 L n H4/\n<=mt/\SH H4 M p p/\H1 M=none/\M≠L) ⟨M,0,0,none,none,none,none,rfl,t3,Nat.zero_le _,b3,fr,fun e=>?_⟩ (fun i σ H4 _ ⟨_,_,_,_,_,_,_,_,t,_⟩=>aO.of (t.1 _ _ hc1)) ?_ ?_⟩)
   ·obtain⟨_,acc,_,a2,_⟩:=t2;rw[e,a2]at hM;cases hM
   ·rintro i y D' σ H4 hi ⟨M,n,f,v10,v11,Hy,SJ,rfl,t4,hnm,b4,X4,V3⟩;rw[List.getElem?_map]at hi;obtain⟨ce,hce,rfl⟩:=Option.map_eq_some_iff.mp hi;refine(ao rfl (ao rfl (ao rfl ⟨ce,p,wy,rfl,p1,by lia,fun t bt H5 s5 gt Ua=>?_⟩)))
    obtain⟨ks,hM4,kl,kb⟩:=b4;have Ub:=s5 _ _ hM4;have t5:sL (p:Int) H1 L n H5:=by
     obtain⟨a1,acc,ts,a2,a3,a4⟩:=t4;exact⟨a1.trans s5,acc,ts,s5 _ _ a2,Paired.imp' (fun _ _ z=>z.tups s5.tups) a3,a4⟩
    obtain⟨u,hu⟩:=Int.eq_ofNat_of_zero_le gt.a0;obtain⟨v,hv⟩:=Int.eq_ofNat_of_zero_le gt.b0;have X5:u<ks.length:=by have:=gt.a1;lia
    have T8:v<ks.length:=by have:=gt.b1;lia
    have hku:(aA ks)[u]?=some (.int (ks[u]:Int)):=yw (List.getElem?_eq_getElem X5);have hkv:(aA ks)[v]?=some (.int (ks[v]:Int)):=yw (List.getElem?_eq_getElem T8);have iu:Ht (aA ks) t.1=some (.int (ks[u]:Int)):=by rw[hu];exact ak hku
    have iv:Ht (aA ks) t.2.1=some (.int (ks[v]:Int)):=by rw[hv];exact ak hkv
    have kub:=kb _ (List.getElem_mem X5);refine(ao rfl (ao rfl (bX (aP.of Ua) (ak (j:=0) rfl) (jP (aO.of Ub) (iu) (ao rfl (ao rfl (bX (aP.of Ua) (ak (j:=1) rfl) (jP (aO.of Ub) (iv) ⟨rfl,?_⟩))))))));obtain⟨s05,DM,tsL,SK,prL,alL,gdL⟩:=id t5;have skip:D'.nx [some (.ref b),some (.int (mt:Int)),some (.int (rk:Int)),some (.int z),some (.int (p:Int)),some (.int (wy:Int)),some (.ref c1),some (.ref L),some (.ref M),some (.int f),some (.int ce),some (.ref bt),some (.bl (!decide (V.int (ks[u]:Int)=V.int (ks[v]:Int)))),SJ] H5:=⟨M,n,f,_,_,_,_,rfl,t5,hnm,⟨ks,Ub,kl,kb⟩,X4,V3⟩;generalize (!decide (V.int (ks[u]:Int)=V.int (ks[v]:Int)))=jb at skip;have put:DM.length<mt->fF D' [some (.ref b),some (.int (mt:Int)),some (.int (rk:Int)),some (.int z),some (.int (p:Int)),some (.int (wy:Int)),some (.ref c1),some (.ref L),some (.ref M),some (.int f),some (.int ce),some (.ref bt),some (.bl jb),SJ] H5:=fun hlt=>by
     obtain⟨aa2,e6,t6⟩:∃ acc,H5 L=some (.lst acc)/\sL (p:Int) H1 L (n+1) (upd H5 L (.lst (acc++[.ref bt]))):=by
      have:=t5.push hL (av.refl _) gt Ua;obtain⟨acc,e1,_,e2⟩:=this;exact⟨acc,e1,e2⟩
     rw[SK]at e6;cases e6;refine(ao rfl ⟨.inl ⟨rfl,_,aO.of SK⟩,ao rfl ⟨L,_,_,rfl,rfl,SK,iF (by lia),?_⟩⟩)
     have SM:upd H5 L (.lst (DM++[.ref bt])) M=some (.lst (aA ks)):=by rw[aq V3];exact Ub
     have PL:upd H5 L (.lst (DM++[.ref bt])) bt=some (.tup (LW t)):=c6.put SK _ _ Ua;have X6:upd H5 L (.lst (DM++[.ref bt])) L=some (.lst (DM++[.ref bt])):=ae;generalize upd H5 L (.lst (DM++[.ref bt]))=H6 at t6 SM PL X6;refine(ao rfl (ao rfl (ao rfl (.inr (ao rfl (b7 (?_)))))));refine(ao rfl (ao rfl (bX (aP.of PL) (ak (j:=1) rfl) (jP (aO.of SM) (iv) (?_)))));refine(ao rfl ⟨M,rfl,⟨_,aO.of SM⟩,fun M2 MM=>bj (xs:=aA ks) (fun i acc H7=>av H6 H7/\H7 M2=some (.lst acc)/\∃ EV:List Nat,acc=aA EV/\EV.length=i/\∀ k∈EV,k<p) ⟨av.new MM,ae,[],rfl,rfl,(fun k hk=>nomatch hk)⟩ (fun i acc H7 _ z=>⟨aO.of (z.1 _ _ SM),z.2.1,by obtain⟨EV,e,e2,_⟩:=z.2.2;rw[e,aC,e2];exact Nat.le_refl _⟩) (bU (by rw[aC];lia)) ?_ ?_⟩)
     ·rintro i x acc H7 hx ⟨s7,V4,EV,rfl,Uc,kb2⟩;obtain⟨k,hk,rfl⟩:=gP hx;have hkp:=kb k (List.mem_of_getElem? hk);refine⟨rfl,ao rfl (ao rfl (ao rfl (bX (aP.of (s7 _ _ PL)) (ak (j:=0) rfl) (jP (aO.of (s7 _ _ SM)) (iu) ⟨dl rfl,fun l hl=>?_⟩))))⟩
      have s8:av H7 (upd H7 l (.lst [.int (k:Int),.int (ks[u]:Int)])):=av.new hl;have V5:upd H7 l (.lst [.int (k:Int),.int (ks[u]:Int)]) l=some (.lst [.int (k:Int),.int (ks[u]:Int)]):=ae;generalize upd H7 l (.lst [.int (k:Int),.int (ks[u]:Int)])=H8 at s8 V5;refine(ao rfl (ao rfl ⟨rfl,.inr (ao rfl (?_))⟩));have X7:∀ k' : Nat,k'<p->H8 M2=some (.lst (aA EV))/\av H6 (upd H8 M2 (.lst (aA EV++[.int (k' : Int)])))/\upd H8 M2 (.lst (aA EV++[.int (k' : Int)])) M2=some (.lst (aA EV++[.int (k' : Int)]))/\∃ ks3:List Nat,aA EV++[.int (k' : Int)]=aA ks3/\ks3.length=i+1/\∀ k∈ks3,k<p:=fun k' hk'=>by
       refine⟨s8 _ _ V4,(s7.trans s8).put MM,ae,EV++[k'],(cL EV k').symm,by rw[List.length_append,Uc];rfl,fun x hx=>?_⟩
       rcases List.mem_append.mp hx with hx|hx
       ·exact kb2 x hx
       ·have e:x=k':=by simpa using hx
        lia
      cases hd:decide (V.int (k:Int)=V.int (ks[v]:Int)) with
      | true=>exact(jP (aO.of V5) (ak (j:=1) rfl) (X7 _ kub))
      | false=>exact(jP (aO.of V5) (ak (j:=0) rfl) (X7 _ hkp))
     ·rintro acc H7 ⟨s7,V4,EV,rfl,Uc,kb2⟩;rw[aC,kl]at Uc;refine⟨M2,n+1,_,_,_,_,_,rfl,?_,by lia,⟨EV,V4,Uc,kb2⟩,t6.1.free MM,fun e=>?_⟩
      ·obtain⟨a1,acc,ts,a2,a3,a4⟩:=t6;exact⟨a1.trans s7,acc,ts,s7 _ _ a2,Paired.imp' (fun _ _ z=>z.tups s7.tups) a3,a4⟩
      ·rw[e,X6]at MM;cases MM
    refine(ao rfl (lJ rfl (.inl (aO.of SK)) (ao rfl (b7 (ao rfl (jh (fun h1=>?_) (fun _=>skip)))))))
    have h1:(DM.length:Int)<(mt:Int):=of_decide_eq_true h1;refine(ao rfl (ao rfl (?_)));cases jb with
    | true=>exact ir (put (by lia))
    | false=>exact cC (ao rfl (ao rfl (b7 (ao rfl (jh (fun _=>put (by lia)) (fun _=>skip))))))
   ·rintro σ H4 ⟨M,n,f,v10,v11,Hy,SJ,rfl,t4,hnm,b4,X4,V3⟩;obtain⟨acc,ts,hL4,XG,gd,mk⟩:=t4.fin;refine(ao rfl (ao rfl ⟨L,_,rfl,.inl ⟨aO.of hL4,fun l hl=>⟨dl rfl,fun w hw=>?_⟩⟩⟩))
    obtain⟨sm,hwb⟩:=mk l hl w hw;exact q w p ts _ (s1.trans sm) ⟨by lia,by lia,by lia,gd⟩ p1 p2 (by lia) hwb
  refine(ao rfl (b7 ⟨⟨by decide,by decide⟩,b7 ⟨(nC rfl),rfl,ao rfl (jh (fun _=>?_) (fun _=>cont c ms _ (av.new hc) ae))⟩⟩))
  have s1:av H (upd H c (.lst (ms.map V.int))):=av.new hc;generalize upd H c (.lst (ms.map V.int))=H1 at s1;refine(ao rfl (ao rfl ⟨b,_,rfl,s1.seq hS,fun c3 hc3=>?_⟩))
  rw[PK];have s2:av H1 (upd H1 c3 (.lst (ms.map V.int))):=av.new hc3;have hc2:upd H1 c3 (.lst (ms.map V.int)) c3=some (.lst (ms.map V.int)):=ae;generalize upd H1 c3 (.lst (ms.map V.int))=H2 at s2 hc2;refine⟨c3,rfl,⟨_,aO.of hc2⟩,fun D hD=>CJ (xs:=ms.map V.int) (fun i acc H3=>av H2 H3/\H3 D=some (.lst acc)/\∃ ms2:List Int,acc=ms2.map V.int/\ms2.length=i) ⟨av.new hD,ae,[],rfl,rfl⟩ (fun i acc H3 _ z=>⟨aO.of (z.1 _ _ hc2),z.2.1,by obtain⟨ms2,e,e2⟩:=z.2.2;rw[e,List.length_map,e2];exact Nat.le_refl _⟩) (Nat.le_of_lt (iF (by rw[List.length_map];lia))) ?_ ?_⟩
  ·rintro i x T0 acc H3 hx ⟨s3,oN,ms2,rfl,V6⟩ hT;rw[List.getElem?_map]at hx;obtain⟨ce,hce,rfl⟩:=Option.map_eq_some_iff.mp hx;have OG:=(List.getElem?_eq_some_iff.mp hce).1;refine⟨T0,_,rfl,aP.of ae,rfl,_,_,rfl,_,_,rfl,rfl,rfl,ao rfl (ao rfl ⟨ce,(i:Int),rfl,by lia,by lia,fun y _ _=>?_⟩)⟩
   have s4:av H3 (upd H3 T0 (.tup [.int (i:Int),.int ce])):=av.new hT;exact⟨s4 _ _ oN,(s3.trans s4).put hD,ae,ms2++[y],by rw[List.map_append];rfl,by rw[List.length_append,V6];rfl⟩
  ·rintro acc H3 ⟨s3,oN,ms2,rfl,V6⟩;rw[List.length_map]at V6;refine(ao rfl ⟨.inl ⟨rfl,_,aO.of oN⟩,ao rfl ⟨(by decide),(by decide),fun D2 jx=>cz (lo:=0) (m:=5) (fun i acc H4=>av H3 H4/\H4 D2=some (.lst acc)/\∃ Qv:List Int,acc=Qv.map V.int/\Qv.length=i) ⟨av.new jx,ae,[],rfl,rfl⟩ (fun i acc H4 _ z=>⟨z.2.1,by obtain⟨ms2,e,e2⟩:=z.2.2;rw[e,List.length_map,e2];exact Nat.le_refl _⟩) (bU (by decide)) ?_ ?_⟩⟩)
   ·rintro i acc H4 hi ⟨s4,BY,Qv,rfl,X8⟩;rw[Int.zero_add];exact⟨rfl,ao rfl (ao rfl (b7 ⟨z,_,rfl,by lia,by lia,fun y _ _=>⟨BY,s4.put jx,ae,Qv++[y],by rw[List.map_append];rfl,by rw[List.length_append,X8];rfl⟩⟩))⟩
   ·rintro acc H4 ⟨s4,BY,Qv,rfl,X8⟩;have V7:=s4 _ _ oN;refine⟨D,D2,_,_,rfl,rfl,V7,BY,dl (Nat.ble_eq.mpr (by rw[List.length_map,List.length_map];lia)),?_⟩
    refine cont D (ms2++Qv) _ ?_ ?_
    ·exact(((s1.trans s2).trans (s3.trans s4))).put ((s1.trans s2).free hD)
    ·rw[ae,List.map_append]
def Hi:Sp:=fun vs H Q _=>∃ w p ts,∃ g:aE p ts,∃(S:Int) (m:Nat),vs=[.ref w,.int S]/\S=(m:Int)/\bu H w p ts/\m<2^ts.length/\∀ D H',av H H'->H' D=some (.lst (cE (fun x=>g.N.dg m x) p))->Q (.ref D) H'
def DN:Sp:=fun vs H Q _=>∃ w p ts,∃ g:aE p ts,∃(S:Int) (m:Nat),vs=[.ref w,.int S]/\S=(m:Int)/\bu H w p ts/\m<2^ts.length/\∀ H',av H H'->Q (.int ((RM.cnt (g.N.root (fun k=>m.testBit k) ts.length) p:Nat):Int)) H'
def KQ:Sp:=fun vs H Q _=>∃ w p ts,∃ g:aE p ts,vs=[.ref w]/\bu H w p ts/\∀ H',av H H'->Q (.int (g.N.aU.length:Int)) H'
def KR:Sp:=fun vs H Q _=>∃ w p ts,∃ g:aE p ts,∃(S:Int) (m:Nat),vs=[.ref w,.int S]/\S=(m:Int)/\bu H w p ts/\m<2^ts.length/\∀ H' (d:Bool),av H H'->(d=true↔g.N.Ring m)->Q (.bl d) H'
theorem KS{N:RM.Net}{m x:Nat}(k:Nat):RM.cnt (fun j=>m.testBit j&&N.inc j x) (k+1)=RM.cnt (fun j=>m.testBit j&&N.inc j x) k+if(m.testBit k&&N.inc k x)=true then 1 else 0:=rfl
theorem PM(x u v:Nat):M5 (.int (x:Int)) [.int (u:Int),.int (v:Int)]=decide (u=x\/v=x):=by
 have e:([.int (u:Int),.int (v:Int)]:List V)=aA [u,v]:=rfl;rw[e,pG];refine decide_eq_decide.mpr ?_;simp[eq_comm]
theorem BG{f:Nat->Nat}{n u v:Nat}:(cE f n).set u (.int (v:Int))=cE (fun x=>if x=u then v else f x) n:=by
 unfold cE;refine List.ext_getElem? fun i=>?_
 rw[List.getElem?_set,List.getElem?_map]
 by_cases e:u=i
 ·subst e;rw[if_pos rfl,List.length_map,List.length_range]
  by_cases h:u<n
  ·rw[if_pos h,List.getElem?_map,List.getElem?_range h];simp
  ·rw[if_neg h,List.getElem?_map,List.getElem?_eq_none (by rw[List.length_range];lia)]
   rfl
 ·rw[if_neg e,List.getElem?_map]
  by_cases h:i<n
  ·rw[List.getElem?_range h];simp[show ¬ i=u from fun z=>e z.symm]
  ·rw[List.getElem?_eq_none (by rw[List.length_range];lia)]
   rfl
theorem Hj{f g:Nat->Int}{n:Nat}(h:∀ i,i<n->f i=g i):PyProof.Rows.firstMet f n=PyProof.Rows.firstMet g n:=by
 unfold PyProof.Rows.firstMet;rw[List.map_congr_left fun i hi=>h i (List.mem_range.mp hi)]
theorem lF:Ok T T.ly 1 Hi:=by
 refine T.ly.ok jV fun cdv A outer s H vs Q E hr h=>?_
 ·obtain⟨wb,p,ts,g,S,m,rfl,rfl,hw,hm,q⟩:=h;refine⟨_,(ah (aI (i:=2) jV.nd rfl (Or.inl rfl) (aL Cj (eg (aa ai af)) (aG (bW K) (pv 0) ai)))
   (ah (cK PassesOwn.never rfl (bf (by rfl) T.bV (aa (aF (ez K) (by rfl) T.b8 PySem.boot_len (aa (aG (bW K) (pv 0) ai) af)) af)) (aX 3 jV.nd)
   (au (bF (aH ee (aL dD (aL tW (pv 1) (pv 3)) ai) ai (aJ _)) (ah (yj (aL dS (aG (j7 K) (pv 2) (aG (bW K) (aG (bW K) (aG (bW K) (pv 0) ai) (pv 3)) ai)) ai) (B4 (pv 2) (aG (bW K) (aG (bW K) (aG (bW K) (pv 0) ai) (pv 3)) ai) set_list))
   (au (yj (aL dS (aG (j7 K) (pv 2) (aG (bW K) (aG (bW K) (aG (bW K) (pv 0) ai) (pv 3)) ai)) ai) (B4 (pv 2) (aG (bW K) (aG (bW K) (aG (bW K) (pv 0) ai) (pv 3)) ai) set_list)))) aR)))
   (au (aB (pv 2))))),?_⟩
  refine nQ ?_;intro cA cP dm eO fF;obtain⟨bt,xs,h1,h2,h3⟩:=id hw.ex;have vB:=h3.length;have wl:=g.len;have wp:=g.p2;refine⟨dl rfl,fun c hc=>?_⟩
  have s1:av H (upd H c (.lst [.int 0])):=av.new hc;have hc1:upd H c (.lst [.int 0]) c=some (.lst [.int 0]):=ae;generalize upd H c (.lst [.int 0])=H1 at s1 hc1;refine(ao rfl (bX (aP.of (s1 _ _ h1)) (ak (j:=0) rfl) ⟨c,(p:Int),ao rfl ⟨rfl,hc1,by lia,by lia,(by rw[Int.toNat_natCast];show 1*p<=sizeLine;exact dl (Nat.ble_eq.mpr (by lia))),fun e he=>?_⟩⟩))
  have Sh:H e=none:=s1.free he;have s2:=s1.trans (av.new (o:=.lst (List.replicate (p:Int).toNat [V.int 0]).flatten) he);have LV:upd H1 e (.lst (List.replicate (p:Int).toNat [V.int 0]).flatten) e=some (.lst (cE (fun _=>0) p)):=by
   rw[ae,Int.toNat_natCast,Ah]
  generalize upd H1 e (.lst (List.replicate (p:Int).toNat [V.int 0]).flatten)=H2 at s2 LV;refine(ao rfl (bX (aP.of (s2 _ _ h1)) (ak (j:=1) rfl) (lJ rfl (.inr (aP.of (s2 _ _ h2))) (ao rfl ⟨(by lia),(by lia),?_⟩))))
  refine c5 (lo:=0) (n:=(xs.length:Int).toNat) (fun k σ H3=>∃ v3,σ=[some (.ref wb),some (.int (m:Int)),some (.ref e),v3]/\av H H3/\H3 e=some (.lst (cE (fun x=>RM.cnt (fun j=>m.testBit j&&g.N.inc j x) k) p))) ⟨none,rfl,s2,LV⟩ ?_ ?_
  ·rintro k D' σ H3 hk ⟨v3,rfl,s3,GX⟩;rw[Int.toNat_natCast]at hk;rw[Int.zero_add];have lP:k<ts.length:=by lia
   obtain⟨ct,ex,hct⟩:=qC (g:=g) h3 lP;have ha:g.N.a k<p:=g.N.al k lP;have hb:g.N.b k<p:=g.N.bl k lP;have ne:g.N.a k≠g.N.b k:=g.N.ne k lP;refine(ao rfl (ao rfl (b7 ⟨(by lia),b7 ⟨(nC rfl),rfl,ao rfl (?_)⟩⟩)))
   rw[Int.toNat_natCast,Cm,eT];cases pL:m.testBit k with
   | false =>
     refine cC (ao rfl ⟨s3,?_⟩);rw[GX]
     congr 2
     refine uz fun x _=>?_
     rw[KS,pL];rfl
   | true =>
     generalize hF:(fun x=>RM.cnt (fun j=>m.testBit j&&g.N.inc j x) k)=F at GX
     refine ir (ao rfl (ao rfl (bX (aP.of (s3 _ _ h1)) (ak (j:=1) rfl) (ao rfl (bX (aP.of (s3 _ _ h2)) (ak (j:=k) ex) (bX (aP.of (s3 _ _ hct)) (ak (j:=0) rfl) (jP (aO.of GX) (ak (bS ha)) (b7 (?_)))))))));refine(ao rfl (ao rfl (bX (aP.of (s3 _ _ h1)) (ak (j:=1) rfl) (ao rfl (bX (aP.of (s3 _ _ h2)) (ak (j:=k) ex) (bX (aP.of (s3 _ _ hct)) (ak (j:=0) rfl) ⟨e,_,_,g.N.a k,rfl,rfl,GX,pq (by rw[ck];exact ha),?_⟩))))))
     have e4:(cE F p).set (g.N.a k) (.int ((F (g.N.a k):Nat)+1:Int))=cE (fun x=>if x=g.N.a k then F (g.N.a k)+1 else F x) p:=by
      rw[<-BG];rfl
     dsimp only;rw[e4];have s4:av H (upd H3 e (.lst (cE (fun x=>if x=g.N.a k then F (g.N.a k)+1 else F x) p))):=s3.put Sh
     have Ud:upd H3 e (.lst (cE (fun x=>if x=g.N.a k then F (g.N.a k)+1 else F x) p)) e=_:=ae
     generalize upd H3 e (.lst (cE (fun x=>if x=g.N.a k then F (g.N.a k)+1 else F x) p))=H4 at s4 Ud
     generalize hF2:(fun x=>if x=g.N.a k then F (g.N.a k)+1 else F x)=F2 at Ud
     refine(ao rfl (ao rfl (bX (aP.of (s4 _ _ h1)) (ak (j:=1) rfl) (ao rfl (bX (aP.of (s4 _ _ h2)) (ak (j:=k) ex) (bX (aP.of (s4 _ _ hct)) (ak (j:=1) rfl) (jP (aO.of Ud) (ak (bS hb)) (b7 (?_)))))))));refine(ao rfl (ao rfl (bX (aP.of (s4 _ _ h1)) (ak (j:=1) rfl) (ao rfl (bX (aP.of (s4 _ _ h2)) (ak (j:=k) ex) (bX (aP.of (s4 _ _ hct)) (ak (j:=1) rfl) ⟨e,_,_,g.N.b k,rfl,rfl,Ud,pq (by rw[ck];exact hb),?_⟩))))))
     refine(ao rfl ⟨s4.put Sh,?_⟩);rw[ae];have e5:(cE F2 p).set (g.N.b k) (.int ((F2 (g.N.b k):Nat)+1:Int))=cE (fun x=>if x=g.N.b k then F2 (g.N.b k)+1 else F2 x) p:=by
      rw[<-BG];rfl
     dsimp only;rw[e5]
     congr 2
     refine uz fun x _=>?_
     rw[KS,pL,Bool.true_and,show RM.cnt (fun j=>m.testBit j&&g.N.inc j x) k=F x from congrFun hF x]
     unfold RM.Net.inc;have f2:∀ y,F2 y=if y=g.N.a k then F (g.N.a k)+1 else F y:=fun y=>(congrFun hF2 y).symm
     by_cases e1:x=g.N.b k
     ·rw[if_pos e1,f2,if_neg (fun z:g.N.b k=g.N.a k=>ne z.symm),e1,decide_eq_false ne,decide_eq_true rfl]
      rfl
     ·rw[if_neg e1,f2,decide_eq_false (fun z:g.N.b k=x=>e1 z.symm),Bool.xor_false]
      by_cases e2:x=g.N.a k
      ·rw[if_pos e2,e2,decide_eq_true rfl];rfl
      ·rw[if_neg e2,decide_eq_false (fun z:g.N.a k=x=>e2 z.symm)]
       rfl
  ·rintro σ H3 ⟨v3,rfl,s3,GX⟩;rw[Int.toNat_natCast,vB]at GX;exact(ao rfl (q e H3 s3 GX))
theorem ff:Ok T T.iX 1 DN:=by
 refine T.iX.ok fK fun cdv A outer s H vs Q E hr h=>?_
 ·obtain⟨wb,p,ts,g,S,m,rfl,rfl,hw,hm,q⟩:=h;refine⟨_,(ah (aI (i:=2) fK.nd rfl (Or.inr rfl) (bx (own:=["point"]) (frees:=[]) (js:=[]) (az (aj gA) ["web","some","marks","k","old"]) rfl (bf (by rfl) T.bV (aa (aG (bW K) (pv 0) ai) af)) (fun _ _ _ _=>(aX 0 (show(["point"]:List Str).Nodup by decide +kernel))) (fun _ _ _ _=>bY) (fun _ _ _ _=>(pv 0))))
   (ah (cK PassesOwn.never rfl (bf (by rfl) T.bV (aa (aF (ez K) (by rfl) T.b8 PySem.boot_len (aa (aG (bW K) (pv 0) ai) af)) af)) (oX (i:=3) fK.nd rfl (Or.inr rfl))
   (au (bF (aH ee (aL dD (aL tW (pv 1) (pv 3)) ai) ai (aJ _)) (ah (aI (i:=4) fK.nd rfl (Or.inr rfl) (aG (j7 K) (pv 2) (aG (bW K) (aG (bW K) (aG (bW K) (pv 0) ai) (pv 3)) ai)))
   (au (aI (i:=2) fK.nd rfl (Or.inr rfl) (bx (own:=["mark"]) (frees:=["web","marks","k","old"]) (js:=[0,2,3,4]) (az (aj gA) ["web","some","marks","k","old"]) rfl (nX K (pv 2)) (fun _ _ _ _=>(aX 0 (show(["mark","web","marks","k","old"]:List Str).Nodup by decide +kernel))) (fun _ _ _ _=>bY) (fun _ _ _ _=>(aG (j7 K) (eg (aa (pv 0) (aa (aG (j7 K) (pv 2) (aG (bW K) (aG (bW K) (aG (bW K) (pv 1) ai) (pv 3)) ai)) af))) (cT qk (by rfl) T.EO PyProof.Rows.boot_int (aa (cQ ee (pv 0) (pv 4) (aJ _)) af)))))))) aR)))
   (au (aB (aF Oq (by rfl) T.b8 PySem.boot_len (aa (cT (Vb K rfl) (by rfl) T.Se PyProof.Rows.boot_set (aa (pv 2) af)) af)))))),?_⟩
  refine nQ ?_;intro cA cP dm eO fF;obtain⟨bt,xs,h1,h2,h3⟩:=id hw.ex;have vB:=h3.length;have wl:=g.len;have wp:=g.p2;refine(ao rfl (bX (aP.of h1) (ak (j:=0) rfl) (ao rfl ⟨(by lia),(by lia),fun M hM=>cz (lo:=0) (m:=p) (uA (fun x=>x) H M) (.start hM) (fun i acc H3 _ pd=>pd.len) (bU (by lia)) ?_ ?_⟩)))
  ·intro i acc H3 hi pd;rw[Int.zero_add];exact⟨rfl,ao rfl (pd.next hM (av.refl _) rfl)⟩
  intro acc H1 pd;have hM1:H1 M=some (.lst (cE (fun x=>x) p)):=by rw[pd.2.1,pd.2.2]
  have s1:=pd.1;clear pd;refine(ao rfl (bX (aP.of (s1 _ _ h1)) (ak (j:=1) rfl) (lJ rfl (.inr (aP.of (s1 _ _ h2))) (ao rfl ⟨(by lia),(by lia),?_⟩))))
  refine c5 (lo:=0) (n:=(xs.length:Int).toNat) (fun k σ H3=>∃ M v3 v4 L,σ=[some (.ref wb),some (.int (m:Int)),some (.ref M),v3,v4]/\av H H3/\H3 M=some (.lst (cE L p))/\RM.uU g.N (fun k=>m.testBit k) L k) ⟨M,none,none,_,rfl,s1,hM1,RM.uU.start⟩ ?_ ?_
  ·rintro k D' σ H3 hk ⟨M,v3,v4,L,rfl,s3,PN,rel⟩;rw[Int.toNat_natCast]at hk;rw[Int.zero_add];have lP:k<ts.length:=by lia
   obtain⟨ct,ex,hct⟩:=qC (g:=g) h3 lP;have ha:g.N.a k<p:=g.N.al k lP;have hb:g.N.b k<p:=g.N.bl k lP;refine(ao rfl (ao rfl (b7 ⟨(by lia),b7 ⟨(nC rfl),rfl,ao rfl (?_)⟩⟩)))
   rw[Int.toNat_natCast,Cm,eT];cases pL:m.testBit k with
   | false=>exact cC ⟨M,_,_,L,rfl,s3,PN,rel.skip pL⟩
   | true =>
     refine ir (ao rfl (ao rfl (bX (aP.of (s3 _ _ h1)) (ak (j:=1) rfl) (ao rfl (bX (aP.of (s3 _ _ h2)) (ak (j:=k) ex) (bX (aP.of (s3 _ _ hct)) (ak (j:=1) rfl) (jP (aO.of PN) (ak (bS hb)) (?_))))))));refine(ao rfl ⟨M,rfl,⟨_,aO.of PN⟩,fun M2 MM=>bj (xs:=cE L p) (uA (RM.Ox L (g.N.a k) (g.N.b k)) H3 M2) (.start MM) (fun i acc H4 _ pd=>⟨aO.of (pd.1 _ _ PN),pd.len⟩) (by rw[ck];exact dl (Nat.ble_eq.mpr (by lia))) ?_ ?_⟩)
     ·intro i x acc H4 hx pd;obtain⟨hi,rfl⟩:=kN hx;have s4:=s3.trans pd.1;refine⟨rfl,ao rfl (ao rfl (ao rfl (bX (aP.of (s4 _ _ h1)) (ak (j:=1) rfl) (ao rfl (bX (aP.of (s4 _ _ h2)) (ak (j:=k) ex) (bX (aP.of (s4 _ _ hct)) (ak (j:=0) rfl) (jP (aO.of (pd.1 _ _ PN)) (ak (bS ha)) ⟨dl rfl,fun l hl=>?_⟩)))))))⟩
      refine(ao rfl (ao rfl ⟨rfl,.inr (ao rfl (?_))⟩));rw[jC]
      by_cases e:L i=L (g.N.b k)
      ·rw[decide_eq_true e];exact(jP (aO.of ae) (ak (j:=1) rfl) (pd.next MM (av.new hl) (by unfold RM.Ox;rw[if_pos e])))
      ·rw[decide_eq_false e];exact(jP (aO.of ae) (ak (j:=0) rfl) (pd.next MM (av.new hl) (by unfold RM.Ox;rw[if_neg e])))
     ·intro acc H4 pd;rw[ck]at pd;exact⟨M2,_,_,_,rfl,s3.trans pd.1,by rw[pd.2.1,pd.2.2],rel.put lP pL⟩
  ·rintro σ H3 ⟨M,v3,v4,L,rfl,s3,PN,rel⟩;rw[Int.toNat_natCast,vB]at rel;have ens:cE L p=((List.range p).map fun x=>((L x:Nat):Int)).map V.int:=by
    unfold cE;rw[List.map_map];rfl
   refine(ao rfl ⟨M,(List.range p).map (fun x=>((L x:Nat):Int)),rfl,aO.of (by rw[PN,ens]),by rw[List.length_map,List.length_range];lia,fun l S hl=>⟨l,S,_,rfl,ae,?_⟩⟩)
   rw[List.length_map,List.length_range,Hj (g:=fun i=>((L i:Nat):Int)) (fun i hi=>by rw[List.getD_eq_getElem?_getD,List.getElem?_map,List.getElem?_range hi];rfl)]
   have e:=RM.Ml (N:=g.N) (L:=L) rel;have e:(PyProof.Rows.firstMet (fun i=>((L i:Nat):Int)) p).length=_:=e
   rw[e];exact q _ (s3.trans (av.new hl))
theorem oJ:Ok T T.oE 2 KQ:=by
 have ff:=ff T;refine T.oE.ok A4 fun cdv A outer s H vs Q E hr h=>?_
 ·obtain⟨wb,p,ts,g,rfl,hw,q⟩:=h;refine⟨_,(au (aB (aL dS (aL jg (aF (ez K) (by rfl) T.b8 PySem.boot_len (aa (aG (bW K) (pv 0) ai) af)) (aG (bW K) (pv 0) ai)) (aK ff hr T.iX.c aN (aa (pv 0) (aa (aL jg (aL kI ai (aF (ez K) (by rfl) T.b8 PySem.boot_len (aa (aG (bW K) (pv 0) ai) af))) ai) af)))))),?_⟩
  obtain⟨bt,xs,h1,h2,h3⟩:=id hw.ex;have vB:=h3.length;have wl:=g.len;have pos:=Nat.two_pow_pos ts.length;refine(ao rfl (bX (aP.of h1) (ak (j:=1) rfl) (lJ rfl (.inr (aP.of h2)) (ao rfl (bX (aP.of h1) (ak (j:=0) rfl) (b7 (?_)))))));refine(ao rfl (ao rfl (bX (aP.of h1) (ak (j:=1) rfl) (lJ rfl (.inr (aP.of h2)) (b7 ⟨⟨by lia,by lia,by decide⟩,b7 ⟨wb,p,ts,g,_,2^ts.length-1,rfl,?_,hw,by lia,fun H1 s1=>(b7 (?_))⟩⟩)))))
  ·rw[kM,vB]
   lia
  ·have e:(xs.length:Int)-(p:Int)+((RM.cnt (g.N.root (fun k=>(2^ts.length-1).testBit k) ts.length) p:Nat):Int)=(g.N.aU.length:Int):=by
    rw[vB,<-Eu (g:=g)];unfold dZ;rw[RM.i0];rfl
   dsimp only;rw[e];exact q H1 s1
theorem oM:Ok T T.oF 2 KR:=by
 have ff:=ff T;have lF:=lF T;refine T.oF.ok sF fun cdv A outer s H vs Q E hr h=>?_
 ·obtain⟨wb,p,ts,g,S,m,rfl,rfl,hw,hm,q⟩:=h;refine⟨_,(ah (aI (i:=2) sF.nd rfl (Or.inl rfl) (aK lF hr T.ly.c aN (aa (pv 0) (aa (pv 1) af))))
   (ah (bF (PW.pt (gG (aH D8 (pv 1) ai (aJ _)) (fQ (aH nK (aF (ez K) (by rfl) T.b8 PySem.boot_len (aa (bx (own:=["count"]) (frees:=[]) (js:=[]) (az (aj jt) ["web","some","counts"]) rfl (nX K (pv 2)) (fun _ _ _ _=>(aX 0 (show(["count"]:List Str).Nodup by decide +kernel))) (fun _ _ _ _=>(cR (aH (Ik K) (pv 0) (c7 (aa ai (aa ai af))) (by with_unfolding_all rfl)))) (fun _ _ _ _=>(pv 0))) af)) ai (aJ _))))) (au (aB cS)) aR)
   (au (aB (cQ ee (aK ff hr T.iX.c aN (aa (pv 0) (aa (pv 1) af))) (aL dS (aL jg (aG (bW K) (pv 0) ai) (aF (ez K) (by rfl) T.b8 PySem.boot_len (aa (bx (own:=["count"]) (frees:=[]) (js:=[]) (az (aj jt) ["web","some","counts"]) rfl (nX K (pv 2)) (fun _ _ _ _=>(aX 0 (show(["count"]:List Str).Nodup by decide +kernel))) (fun _ _ _ _=>(cR (aH ee (pv 0) ai (aJ _)))) (fun _ _ _ _=>(pv 0))) af))) ai) (aJ _)))))),?_⟩
  refine A5 ?_;intro cA cP dm;obtain⟨bt,xs,h1,h2,h3⟩:=id hw.ex;have wp:=g.p2;refine(ao rfl (ao rfl ⟨wb,p,ts,g,_,m,rfl,rfl,hw,hm,fun D H1 s1 qL=>?_⟩))
  refine(ao rfl (b7 (ao rfl (jh (fun h0=>?_) (fun h0=>?_)))))
  ·have h0:(m:Int)<=0:=of_decide_eq_true h0;exact q H1 false s1 ⟨(fun z=>nomatch z),fun r=>absurd (show m=0 by lia) r.1⟩
  have h0:m≠0:=fun z=>h0 (decide_eq_true (show(m:Int)<=0 by lia))
  refine(ao rfl ⟨D,rfl,⟨_,aO.of qL⟩,fun C hC=>bj (xs:=cE (fun x=>g.N.dg m x) p) (fun i acc H2=>av H1 H2/\H2 C=some (.lst acc)/\acc.length=RM.cnt (fun x=>!decide (0=g.N.dg m x\/2=g.N.dg m x)) i) ⟨av.new hC,ae,rfl⟩ (fun i acc H2 _ f=>⟨aO.of (f.1 _ _ qL),f.2.1,by have:=RM.kL (fun x=>!decide (0=g.N.dg m x\/2=g.N.dg m x)) i;have:=f.2.2;lia⟩) (bU (by rw[ck];lia)) ?_ ?_⟩)
  ·rintro i x acc H2 hx ⟨s2,KC,al⟩;obtain⟨hi,rfl⟩:=kN hx;refine⟨rfl,ao rfl ⟨dl rfl,fun u hu=>(lJ rfl (.inr (aP.of ae)) ⟨rfl,rfl,ao rfl (?_)⟩)⟩⟩
   have e:M5 (.int ((g.N.dg m i:Nat):Int)) [.int 0,.int 2]=decide (0=g.N.dg m i\/2=g.N.dg m i):=PM _ 0 2;have hc1:RM.cnt (fun x=>!decide (0=g.N.dg m x\/2=g.N.dg m x)) (i+1)=RM.cnt (fun x=>!decide (0=g.N.dg m x\/2=g.N.dg m x)) i+if(!decide (0=g.N.dg m i\/2=g.N.dg m i))=true then 1 else 0:=rfl
   dsimp only;rw[if_pos rfl,e];have X9:C≠u:=bg KC hu;cases hb:decide (0=g.N.dg m i\/2=g.N.dg m i) with
   | false =>
     rw[hb]at hc1;refine ir (ao rfl ⟨by rw[aq X9];exact KC,(s2.trans (av.new hu)).put hC,ae,?_⟩)
     rw[List.length_append,hc1,al];rfl
   | true =>
     rw[hb]at hc1;exact cC ⟨s2.trans (av.new hu),by rw[aq X9];exact KC,by rw[hc1,al];rfl⟩
  rintro acc H2 ⟨s2,KC,al⟩;rw[ck]at al;have s12:=s1.trans s2;refine(lJ rfl (.inl (aO.of KC)) (b7 (ao rfl (jh (fun hpos=>?_) (fun hpos=>?_)))))
  ·have hpos:(0:Int)<(acc.length:Int):=of_decide_eq_true hpos;refine q H2 false s12 ⟨(fun z=>nomatch z),fun r=>?_⟩
   obtain⟨x,hx,hf⟩:=RM.mj (show 0<RM.cnt _ p by rw[<-al];lia)
   have d2:=RM.Mf hm r x hx;rw[Bool.not_eq_true',decide_eq_false_iff_not]at hf;exact absurd (d2.imp Eq.symm Eq.symm) hf
  have d2:g.N.D2 m:=fun x hx=>by
   apply Classical.byContradiction;intro hn;have:=RM.m4 (f:=fun x=>!decide (0=g.N.dg m x\/2=g.N.dg m x)) (k:=x) (by
    rw[Bool.not_eq_true',decide_eq_false_iff_not];exact fun z=>hn (z.imp Eq.symm Eq.symm)) (show x<p from hx)
   exact hpos (decide_eq_true (show(0:Int)<(acc.length:Int) by lia))
  refine(ao rfl (ao rfl ⟨wb,p,ts,g,_,m,rfl,rfl,hw.same s12,hm,fun H3 s3=>?_⟩))
  have vC:=s12.trans s3;have oN:=(s2.trans s3) _ _ qL;refine(ao rfl (bX (aP.of (vC _ _ h1)) (ak (j:=0) rfl) (?_)));refine(ao rfl ⟨D,rfl,⟨_,aO.of oN⟩,fun C2 KC=>bj (xs:=cE (fun x=>g.N.dg m x) p) (fun i acc H4=>av H3 H4/\H4 C2=some (.lst acc)/\acc.length=RM.cnt (fun x=>decide (g.N.dg m x=2)) i) ⟨av.new KC,ae,rfl⟩ (fun i acc H4 _ f=>⟨aO.of (f.1 _ _ oN),f.2.1,by have:=RM.kL (fun x=>decide (g.N.dg m x=2)) i;have:=f.2.2;lia⟩) (bU (by rw[ck];lia)) ?_ ?_⟩)
  ·rintro i x acc H4 hx ⟨s4,Ue,Ug⟩;obtain⟨hi,rfl⟩:=kN hx;refine⟨rfl,ao rfl ⟨rfl,ao rfl (?_)⟩⟩;have hc1:RM.cnt (fun x=>decide (g.N.dg m x=2)) (i+1)=RM.cnt (fun x=>decide (g.N.dg m x=2)) i+if decide (g.N.dg m i=2)=true then 1 else 0:=rfl
   have e:decide (V.int ((g.N.dg m i:Nat):Int)=V.int 2)=decide (g.N.dg m i=2):=jC _ 2;rw[e];cases hb:decide (g.N.dg m i=2) with
   | true =>
     rw[hb]at hc1;refine(ao rfl ⟨Ue,s4.put KC,ae,?_⟩);rw[List.length_append,hc1,Ug];rfl
   | false =>
     rw[hb]at hc1;exact⟨s4,Ue,by rw[hc1,Ug];rfl⟩
  ·rintro acc H4 ⟨s4,Ue,Ug⟩;rw[ck]at Ug;refine(lJ rfl (.inl (aO.of Ue)) (b7 (b7 ⟨rfl,q H4 _ (vC.trans s4) ?_⟩)));have h:=RM.Jz hm h0 d2;have hcc:RM.cnt (fun x=>decide (g.N.dg m x=2)) p<=p:=by have:=RM.kL (fun x=>decide (g.N.dg m x=2)) p;lia
   rw[h,decide_eq_true_iff]
   constructor
   ·intro e;have e:=V.int.inj e;show RM.cnt (g.N.root (fun k=>m.testBit k) ts.length) p+RM.cnt (fun x=>decide (g.N.dg m x=2)) p=p+1
    lia
   ·intro e;have e:RM.cnt (g.N.root (fun k=>m.testBit k) ts.length) p+RM.cnt (fun x=>decide (g.N.dg m x=2)) p=p+1:=e
    exact congrArg V.int (by lia)
def KU:Sp:=fun vs H Q _=>∃(x y:Nat),vs=[.int (x:Int),.int (y:Int)]/\∀ v:Bool,(∀ d,x&&&y<2^d->v=RM.bz (fun j=>(x&&&y).testBit j) d)->Q (.bl v) H
theorem jd:Ok T T.nA 1 KU:=by
 refine T.nA.ok ju fun cdv A outer s H vs Q E hr h=>?_
 ·obtain⟨x,y,rfl,q⟩:=h;refine⟨_,(ah (aI (i:=2) ju.nd rfl (Or.inl rfl) (aL yl (pv 0) (pv 1)))
   (ah (aI (i:=3) ju.nd rfl (Or.inl rfl) ai)
   (ah (tU PassesOwn.never (aH nK (pv 2) ai (aJ _)) (ah (aI (i:=3) ju.nd rfl (Or.inl rfl) (aL jg ai (pv 3)))
   (au (aI (i:=2) ju.nd rfl (Or.inl rfl) (aL yl (pv 2) (aL jg (pv 2) ai))))))
   (au (aB (cQ ee (pv 3) ai (aJ _))))))),?_⟩
  refine Dd ?_;intro cA cP dm eO fF;refine(ao rfl (ao rfl (b7 (?_))));have e0:Builtin.bitAnd (x:Int) (y:Int)=((x&&&y:Nat):Int):=and_int x y;refine⟨fun k σ H2=>∃(n:Nat) (c:Bool),σ=[some (.int (x:Int)),some (.int (y:Int)),some (.int (n:Int)),some (.int (c.toNat:Int))]/\H2=H/\(∀ d,x&&&y<2^d->n<2^d/\RM.bz (fun j=>(x&&&y).testBit j) d=(c^^RM.bz (fun j=>n.testBit j) d))/\n=k,⟨x&&&y,x&&&y,false,?_,rfl,fun d hd=>⟨hd,by rw[Bool.false_xor]⟩,rfl⟩,?_⟩
  ·show[_,_,some (V.int (Builtin.bitAnd (x:Int) (y:Int))),_]=_;rw[e0];rfl
  rintro k σ H2 ⟨n,c,rfl,rfl,hc,rfl⟩;refine(ao rfl (b7 (ao rfl (jh (fun hpos=>?_) (fun hpos=>?_)))))
  ·have hpos:(0:Int)<((n:Nat):Int):=of_decide_eq_true hpos;have hlt:n&&&(n-1)<n:=by
    have:=Nat.and_le_right (n:=n) (m:=n-1)
    lia
   refine⟨fun σ H3=>∃(n' : Nat) (c:Bool),σ=[some (.int (x:Int)),some (.int (y:Int)),some (.int (n' : Int)),some (.int (c.toNat:Int))]/\H3=H2/\(∀ d,x&&&y<2^d->n'<2^d/\RM.bz (fun j=>(x&&&y).testBit j) d=(c^^RM.bz (fun j=>n'.testBit j) d))/\n'<n,fun σ H3 ⟨n',c,z1,z2,z3,z4⟩=>⟨n',z4,n',c,z1,z2,z3,rfl⟩,?_⟩
   refine(ao rfl (b7 (ao rfl (ao rfl (b7 (b7 ⟨n&&&(n-1),!c,?_,rfl,fun d hd=>?_,hlt⟩))))))
   ·show[_,_,some (V.int (Builtin.bitAnd (n:Int) ((n:Int)-1))),some (V.int (1-(c.toNat:Int)))]=_;rw[show(n:Int)-1=((n-1:Nat):Int) by lia,and_int]
    cases c<;>rfl
   ·obtain⟨h1,h2⟩:=hc d hd;refine⟨by lia,?_⟩
    rw[h2,RM.Mm d n (by lia) h1]
    cases c<;>cases RM.bz (fun j=>n.testBit j) d<;>rfl
  ·have hz:n=0:=by
    have : ¬(0:Int)<((n:Nat):Int):=fun z=>hpos (decide_eq_true z)
    lia
   subst hz;have ec:decide (V.int (c.toNat:Int)=V.int 1)=c:=by
    cases c
    ·rfl
    ·rfl
   refine(ao rfl ⟨rfl,?_⟩);rw[ec];refine q c fun d hd=>?_
   rw[(hc d hd).2,RM.gQ fun k _=>Nat.zero_testBit k,Bool.xor_false]
def KW:Sp:=fun vs H Q _=>∃ c,vs=[.int c]/\Q (.bl true) H
theorem eK:Ok T T.iD 1 KW:=by
 refine T.iD.ok yV fun cdv A outer s H vs Q E hr h=>?_
 ·obtain⟨c,rfl,k⟩:=h;refine⟨_,(au (aB (tS (aF (z8 K) (by rfl) T.cX PyProof.Rows.boot_isinstance (aa (pv 0) (aa (r9 (by rfl) T.EO PyProof.Rows.boot_int) af))) (tR (HF (aF (z8 K) (by rfl) T.cX PyProof.Rows.boot_isinstance (aa (pv 0) (aa (r9 (by rfl) T.Pf PyProof.Rows.boot_bool) af)))))))),?_⟩
  exact(ao rfl ⟨_,_,_,_,_,rfl,rfl,.int c,Oe K,_,rfl,ir (ao rfl ⟨_,_,_,_,_,rfl,rfl,.int c,Of K,_,rfl,k⟩)⟩)
def KY:Sp:=fun vs H Q _=>∃ w p ts,∃ g:aE p ts,∃(S:Int) (m:Nat),vs=[.ref w,.int S]/\S=(m:Int)/\bu H w p ts/\m<2^ts.length/\∀ H',av H H'->Q (.int (lenOf ts m)) H'
theorem dH:Ok T T.jw 1 KY:=by
 refine T.jw.ok A6 fun cdv A outer s H vs Q E hr h=>?_
 ·obtain⟨wb,p,ts,g,S,m,rfl,rfl,hw,hm,q⟩:=h;refine⟨_,(au (aB (aF (sumK K rfl) (by rfl) T.Ny PyProof.Rows.boot_sum (aa (bx (own:=["k"]) (frees:=["web","some"]) (js:=[0,1]) (az (aj k6) ["web","some"]) rfl (bf (by rfl) T.bV (aa (aF (ez K) (by rfl) T.b8 PySem.boot_len (aa (aG (bW K) (pv 0) ai) af)) af)) (fun _ _ _ _=>(aX 0 (show(["k","web","some"]:List Str).Nodup by decide +kernel))) (fun _ _ _ _=>(cR (aH ee (aL dD (aL tW (pv 2) (pv 0)) ai) ai (aJ _)))) (fun _ _ _ _=>(aG (bW K) (aG (bW K) (aG (bW K) (pv 1) ai) (pv 0)) ai))) af)))),?_⟩
  obtain⟨bt,xs,h1,h2,h3⟩:=id hw.ex;have vB:=h3.length;have wl:=g.len;refine(ao rfl (bX (aP.of h1) (ak (j:=1) rfl) (lJ rfl (.inr (aP.of h2)) (ao rfl ⟨(by lia),(by lia),fun D hD=>cz (lo:=0) (m:=xs.length) (fun i acc H2=>av H H2/\H2 D=some (.lst acc)/\acc=(((List.range i).filter (fun k=>m.testBit k)).map fun k=>(bL ts k).2.2).map V.int) ⟨av.new hD,ae,rfl⟩ (fun i acc H2 _ z=>⟨z.2.1,by rw[z.2.2,List.length_map,List.length_map];exact Nat.le_trans (List.length_filter_le _ _) (by rw[List.length_range];exact Nat.le_refl _)⟩) (bU (by lia)) ?_ ?_⟩))))
  ·rintro i acc H2 hi ⟨s2,jx,rfl⟩;rw[Int.zero_add];obtain⟨c,hxc,hct⟩:=qC (g:=g) h3 (show i<ts.length by lia)
   refine⟨rfl,ao rfl (ao rfl (b7 ⟨(by lia),b7 ⟨(nC rfl),rfl,ao rfl (?_)⟩⟩))⟩
   rw[Int.toNat_natCast,Cm,eT];cases hb:m.testBit i with
   | true =>
     refine(ao rfl (bX (aP.of (s2 _ _ h1)) (ak (j:=1) rfl) (ao rfl (bX (aP.of (s2 _ _ h2)) (ak (j:=i) hxc) (bX (aP.of (s2 _ _ hct)) (ak (j:=2) rfl) ⟨jx,s2.put hD,ae,?_⟩)))));rw[bG,if_pos hb,List.map_append,List.map_append];rfl
   | false =>
     refine⟨s2,jx,?_⟩;rw[bG,if_neg (by rw[hb];decide),List.append_nil]
  ·rintro acc H2 ⟨s2,jx,rfl⟩;refine⟨D,_,rfl,aO.of jx,?_⟩;have e:lenOf ts m=(((List.range xs.length).filter (fun k=>m.testBit k)).map fun k=>(bL ts k).2.2).sum:=by
    unfold lenOf;rw[jj hm,vB]
   rw[<-e];exact q H2 s2
def oD:Option Int->PyData
 | none=>.none
 | some z=>.int z
def EW(q:Pr):PyData:=.tuple [oD q.1,oD q.2]
theorem KZ{K:bK}{H:Hp}(o:Option Int):nB K H (oV o) (oD o):=by
 cases o with
 | none=>exact .eM
 | some z=>exact .int z
theorem EX{K:bK}{H:Hp}:∀{ys:List V} {R:List Pr},Paired (gV H) ys R->DatVs K H ys (R.map EW)
 | _,_,.nil=>.nil
 | _,_,.cons h r=>by
   obtain⟨b,rfl,hb⟩:=h;exact .cons (.tup (aP.of hb) (.cons (KZ _) (.cons (KZ _) .nil))) (EX r)
theorem SN(o:Option Int):(oD o).canLay0=true:=by cases o<;>rfl
theorem EY:∀ R:List Pr,PyData.canLayAll0 (R.map EW)=true
 | []=>rfl
 | q::r=>by
   have ih:=EY r;have e:(EW q).canLay0=true:=by simp[EW,PyData.canLay0,PyData.canLayAll0,SN]
   simp only[List.map_cons,PyData.canLayAll0,ih,Bool.and_true,e]
theorem PR(o:Option Int):PyData.depth (oD o)=0:=by cases o<;>rfl
theorem BH:∀ R:List Pr,PyData.depthAll (R.map EW)<=1
 | []=>Nat.zero_le _
 | q::r=>by
   have ih:=BH r;show max (PyData.depth (EW q)) (PyData.depthAll (r.map EW))<=1;have e:PyData.depth (EW q)=1:=by simp[EW,PyData.depth,PyData.depthAll,PR]
   lia
theorem MN(R:List Pr):(PyData.tuple (R.map EW)).canLay0=true:=by
 have e:(PyData.tuple (R.map EW)).canLay0=PyData.canLayAll0 (R.map EW):=by simp[PyData.canLay0]
 rw[e,EY]
theorem MO{R R2:List Pr}{p:Nat}(h1:R.length=p)(h2:R2.length=p)(h:∀ x s,x<p->sel (iO R x) s=sel (iO R2 x) s):R=R2:=by
 refine List.ext_getElem (h1.trans h2.symm) fun i a b=>?_
 have e0:=h i false (by lia)
 have e1:=h i true (by lia)
 unfold iO at e0 e1;rw[List.getD_eq_getElem?_getD,List.getD_eq_getElem?_getD,List.getElem?_eq_getElem a,List.getElem?_eq_getElem b]at e0 e1;exact Prod.ext e0 e1
theorem DO{p:Nat}{ts:List dJ}{g:aE p ts}{m:Nat}{W W2:List (List Pr)}(s1:FZ p W)(s2:FZ p W2)(b1:lH p ts g m W)(b2:lH p ts g m W2):W=W2:=by
 refine List.ext_getElem (s1.1.trans s2.1.symm) fun i a b=>?_
 have hi:i<p:=by have:=s1.1;lia
 have e1:W.getD i []=W[i]:=by rw[List.getD_eq_getElem?_getD,List.getElem?_eq_getElem a];rfl
 have e2:W2.getD i []=W2[i]:=by rw[List.getD_eq_getElem?_getD,List.getElem?_eq_getElem b];rfl
 rw[<-e1,<-e2];exact MO (s1.row hi) (s2.row hi) fun x s hx=>(b1 i hi x s hx).uniq (b2 i hi x s hx)
def vI(R:List Pr):PyData:=.tuple (R.map EW)
def zH(W:List (List Pr)):PyData:=.tuple (W.map vI)
theorem BI{K:bK}{H:Hp}:∀{ys:List V} {W:List (List Pr)},Paired (RowW H) ys W->DatVs K H ys (W.map vI)
 | _,_,.nil=>.nil
 | _,_,.cons h r=>by
   obtain⟨b,ys,rfl,hb,pr⟩:=h;exact .cons (.tup (aP.of hb) (EX pr)) (BI r)
theorem BJ:∀ W:List (List Pr),PyData.canLayAll0 (W.map vI)=true
 | []=>rfl
 | R::r=>by
   have ih:=BJ r;have e:(vI R).canLay0=true:=MN R;simp only[List.map_cons,PyData.canLayAll0,ih,Bool.and_true,e]
theorem yc:∀ W:List (List Pr),PyData.depthAll (W.map vI)<=2
 | []=>Nat.zero_le _
 | R::r=>by
   have ih:=yc r;show max (PyData.depth (vI R)) (PyData.depthAll (r.map vI))<=2;have e:PyData.depth (vI R)=PyData.depthAll (R.map EW)+1:=by simp[vI,PyData.depth]
   have:=BH R
   lia
theorem MP{K:bK}{H:Hp}{b:Addr}{W:List (List Pr)}(h:fE H b W):nB K H (.ref b) (zH W):=let⟨_,h1,h2⟩:=h;.tup (aP.of h1) (BI h2)
theorem MQ(W:List (List Pr)):(zH W).canLay0=true:=by
 have e:(zH W).canLay0=PyData.canLayAll0 (W.map vI):=by simp[zH,PyData.canLay0]
 rw[e,BJ]
theorem K0(W:List (List Pr)):PyData.depth (zH W)<=3:=by
 have e:PyData.depth (zH W)=PyData.depthAll (W.map vI)+1:=by simp[zH,PyData.depth]
 have:=yc W
 lia
def gE(kept:List Nat):List (Nat×Nat):=kept.map fun b=>(b.log2,b)
def K1:Sp:=fun vs H Q _=>∃(l:Addr) (kept:List Nat) (x:Nat),vs=[.ref l,.int (x:Int)]/\H l=some (.lst (aA kept))/\(∀ b∈kept,b≠0)/\kept.length<=300/\
 (RM.iH (gE kept) x=0->Q (.bl false) H)/\(RM.iH (gE kept) x≠0->Q (.bl true) (upd H l (.lst (aA (kept++[RM.iH (gE kept) x])))))
def DQ:Sp:=fun vs H Q _=>∃(l:Addr) (B:List Nat),vs=[.ref l]/\H l=some (.lst (aA B))/\B.length<=200/\RM.BR B/\∀ D H',H D=none->av H H'->H' D=some (.lst (aA B))->Q (.ref D) H'
theorem K2{rows:List (Nat×Nat)}(h:RM.Jl rows){t r:Nat}(ht:r.testBit t=true)(hz:∀ q∈rows,r.testBit q.1=false):RM.Jl (rows++[(t,r)]):=by
 induction h with
 | nil=>exact .cons .nil ht (fun q hq=>nomatch hq)
 | cons h hr hz' ih =>
   rename_i t' r' rest
   refine .cons (ih fun q hq=>hz q (List.mem_cons_of_mem _ hq)) hr fun q hq=>?_
   rcases List.mem_append.mp hq with hq|hq
   ·exact hz' q hq
   ·have e:q=(t,r):=by simpa using hq
    rw[e];exact hz (t',r') List.mem_cons_self
theorem BK(kept:List Nat):(gE kept).map (·.2)=kept:=by
 unfold gE;rw[List.map_map];exact List.map_id kept
theorem yd(kept:List Nat)(y:Nat):gE (kept++[y])=gE kept++[(y.log2,y)]:=by
 unfold gE;rw[List.map_append];rfl
structure MR(B kept:List Nat):Prop where
 Lh:RM.Jl (gE kept)
 nz:∀ b∈kept,b≠0
 span:∀ x,RM.Sp kept x↔RM.Sp B x
 le:kept.length<=B.length
 len:kept.length=B.length↔RM.Jv B
theorem MR.start:MR [] []:=⟨.nil,(fun b hb=>nomatch hb),fun _=>Iff.rfl,Nat.le_refl _,⟨fun _ i b h=>by simp at h,fun _=>rfl⟩⟩
theorem MR.zero{B kept:List Nat}(h:MR B kept)(x:Nat):RM.iH (gE kept) x=0↔RM.Sp B x:=by
 rw[RM.xK h.Lh,BK];exact h.span x
theorem MR.put{B kept:List Nat}{b:Nat}(h:MR B kept)(hz:RM.iH (gE kept) b≠0):MR (B++[b]) (kept++[RM.iH (gE kept) b]):=by
 have hs : ¬ RM.Sp B b:=fun z=>hz ((h.zero b).mpr z)
 have sI:=RM.yD (gE kept) b;rw[BK]at sI;have hno:=RM.qF h.Lh b;generalize RM.iH (gE kept) b=y at hz sI hno;refine⟨by rw[yd];exact K2 h.Lh (RM.yE hz) hno,fun c hc=>?_,fun x=>?_,?_,?_⟩
 ·rcases List.mem_append.mp hc with hc|hc
  ·exact h.nz c hc
  ·have e:c=y:=by simpa using hc
   rw[e];exact hz
 ·have Tp:RM.Sp (kept++[y]) y:=.mem (List.mem_append_right _ (by simp))
  have Ro:RM.Sp (B++[b]) b:=.mem (List.mem_append_right _ (by simp))
  constructor
  ·refine fun z=>z.mono fun c hc=>?_
   rcases List.mem_append.mp hc with hc|hc
   ·exact((h.span c).mp (.mem hc)).mono fun d hd=>.mem (List.mem_append_left _ hd)
   ·have e:c=y:=by simpa using hc
    rw[e];have:=(((h.span _).mp sI).mono (C:=B++[b]) fun d hd=>.mem (List.mem_append_left _ hd)).xor Ro
    rwa [Nat.xor_comm b y,RM.gX]at this
  ·refine fun z=>z.mono fun c hc=>?_
   rcases List.mem_append.mp hc with hc|hc
   ·exact((h.span c).mpr (.mem hc)).mono fun d hd=>.mem (List.mem_append_left _ hd)
   ·have e:c=b:=by simpa using hc
    rw[e];have:=(sI.mono (C:=kept++[y]) fun d hd=>.mem (List.mem_append_left _ hd)).xor Tp
    rwa [RM.gX]at this
 ·rw[List.length_append,List.length_append];have:=h.le;exact Nat.add_le_add_right this 1
 ·rw[List.length_append,List.length_append,RM.xO];have h1:∀ x:Nat,([x]:List Nat).length=1:=fun _=>rfl
  rw[h1,h1];have:=h.len;exact⟨fun e=>⟨this.mp (by lia),hs⟩,fun z=>by have:=this.mpr z.1;lia⟩
theorem Hl(rows:List (Nat×Nat))(q:Nat×Nat)(x:Nat):RM.iH (rows++[q]) x=if(RM.iH rows x).testBit q.1=true then RM.iH rows x^^^q.2 else RM.iH rows x:=by
 unfold RM.iH;rw[List.foldl_append];rfl
theorem mW:Ok T T.mQ 1 K1:=by
 refine T.mQ.ok k7 fun cdv A outer s H vs Q E hr h=>?_
 ·obtain⟨l,kept,x,rfl,hl,nz,hk,q1,q2⟩:=h;refine⟨_,(ah (cK PassesOwn.never rfl (nX K (pv 0)) (aX 2 k7.nd)
   (au (aI (i:=1) k7.nd rfl (Or.inl rfl) (aF (wY rfl) (by rfl) T.ER PyProof.Rows.boot_min (aa (pv 1) (aa (aL gp (pv 1) (pv 2)) af))))))
   (ah (bF (aH ee (pv 1) ai (aJ _)) (au (aB cS)) aR)
   (ah (dW (JZ K (lZ PySem.F.plainAttrs_list PySem.F.slot_list_append PySem.F.type_list_append c8 (pv 0) (aa (pv 1) af))))
   (au (aB cS))))),?_⟩
  refine yW ?_;intro cA cP dm eO fF;refine(ao rfl ⟨l,rfl,⟨_,aO.of hl⟩,fZ (K:=K) (a:=l) (xs:=aA kept) (fun i σ H2=>∃ v2,σ=[some (.ref l),some (.int ((RM.iH (gE (kept.take i)) x:Nat):Int)),v2]/\H2=H) ⟨none,rfl,rfl⟩ (fun i σ H2 _ ⟨_,_,z⟩=>by rw[z];exact aO.of hl) ?_ ?_⟩)
  ·rintro i y D' σ H2 hi ⟨v2,rfl,rfl⟩;obtain⟨b,hb,rfl⟩:=gP hi;refine(ao rfl (ao rfl (ao rfl (b7 ⟨_,_,rfl,some (.int (b:Int)),?_,rfl⟩))));show[_,some (V.int (if Builtin.bitXor _ _<_ then Builtin.bitXor _ _ else _)),_]=_
   rw[xor_int,Ew,RM.Mi (nz b (List.mem_of_getElem? hb)),take3 hb,yd,Hl]
  ·rintro σ H2 ⟨v2,rfl,rfl⟩;rw[aC,List.take_length];refine(ao rfl ⟨rfl,ao rfl (jh (fun h0=>?_) (fun h0=>?_))⟩)
   ·have h0:=V.int.inj (of_decide_eq_true h0);exact q1 (by lia)
   ·have h0:RM.iH (gE kept) x≠0:=fun z=>h0 (decide_eq_true (by rw[z];rfl))
    refine(ao rfl ⟨.inl ⟨rfl,_,aO.of hl⟩,ao rfl ⟨l,_,_,rfl,rfl,hl,iF (by rw[aC];lia),?_⟩⟩)
    have:=q2 h0;rw[cL]at this;exact this
theorem lG:Ok T T.lz 2 DQ:=by
 have mW:=mW T;refine T.lz.ok nR fun cdv A outer s H vs Q E hr h=>?_
 ·obtain⟨l,B,rfl,hl,hB,ind,q⟩:=h;refine⟨_,(ah (aI (i:=1) nR.nd rfl (Or.inr rfl) (eg af))
   (au (aB (bx (own:=["some"]) (frees:=["kept"]) (js:=[1]) (az (aj iU) ["sets","kept"]) rfl (nX K (pv 0)) (fun _ _ _ _=>(aX 0 (show(["some","kept"]:List Str).Nodup by decide +kernel))) (fun _ _ _ _=>(cR (bM (aK mW hr T.mQ.c aN (aa (pv 1) (aa (pv 0) af)))))) (fun _ _ _ _=>(pv 0)))))),?_⟩
  refine jQ ?_;intro cA;have V8:=(RM.Mj B).mp ind;refine⟨dl rfl,fun Kp Yb=>?_⟩
  have s1:av H (upd H Kp (.lst [])):=av.new Yb;have V9:upd H Kp (.lst []) Kp=some (.lst (aA [])):=ae;generalize upd H Kp (.lst [])=H1 at s1 V9;refine(ao rfl ⟨l,rfl,⟨_,aO.of (s1 _ _ hl)⟩,fun D hD=>bj (xs:=aA B) (fun i acc H2=>∃ kept,av H H2/\H2 Kp=some (.lst (aA kept))/\H2 D=some (.lst acc)/\MR (B.take i) kept/\acc=aA (B.take i)) ⟨[],s1.trans (av.new hD),av.new hD _ _ V9,ae,MR.start,rfl⟩ ?_ (Nat.le_of_lt (iF (by rw[aC];lia))) ?_ ?_⟩)
  ·rintro i acc H2 hi ⟨kept,s2,Wa,jx,kp,rfl⟩;refine⟨aO.of (s2 _ _ hl),jx,?_⟩;rw[aC,List.length_take]
   lia
  ·rintro i x acc H2 hx ⟨kept,s2,Wa,jx,kp,rfl⟩;obtain⟨b,hb,rfl⟩:=gP hx;have OG:=(List.getElem?_eq_some_iff.mp hb).1;have tk:B.take (i+1)=B.take i++[b]:=take3 hb;have lP:kept.length<=300:=by have:=kp.le;rw[List.length_take]at this;lia
   have TQ:D≠Kp:=(bg V9 hD).symm;have hnz:RM.iH (gE kept) b≠0:=fun z=>V8 i b hb ((kp.zero b).mp z)
   have Kx:H D=none:=s1.free hD;refine⟨rfl,ao rfl (ao rfl ⟨Kp,kept,b,rfl,Wa,kp.nz,lP,fun hz=>absurd hz hnz,fun hz=>(ao rfl (?_))⟩)⟩
   have oN:upd H2 Kp (.lst (aA (kept++[RM.iH (gE kept) b]))) D=some (.lst (aA (B.take i))):=by rw[aq TQ];exact jx
   refine(ao rfl ⟨oN,kept++[RM.iH (gE kept) b],(s2.put Yb).put Kx,by rw[aq TQ.symm,ae],ae,?_,by rw[tk,cL]⟩)
   rw[tk];exact kp.put hz
  ·rintro acc H2 ⟨kept,s2,Wa,jx,kp,rfl⟩;rw[aC,List.take_length]at jx;exact q D H2 (s1.free hD) s2 jx
def MS:Sp:=fun vs H Q _=>∃(x y:Option Int) (l:Int),vs=[oV x,oV y,.int l]/\Q (.bl (uM x y l)) H
def Ho:Sp:=fun vs H Q _=>∃ w p ts,∃ g:aE p ts,∃(m:Nat) (b:Addr) (W:List (List Pr)),vs=[.ref w,.int (m:Int),.ref b]/\bu H w p ts/\fE H b W/\FZ p W/\CC p ts m W/\Q (.bl true) H
def K3:Sp:=fun vs H Q _=>∃ w p ts,∃ g:aE p ts,∃(r m:Nat) (b:Addr) (W:List (List Pr)),vs=[.ref w,.int (r:Int),.int (m:Int),.ref b]/\bu H w p ts/\fE H b W/\FZ p W/\CC p ts m W/\r<2^ts.length/\g.N.par r m=true/\(∀ i,i<p->∀ d,(iO (W.getD i []) i).2=some d->lenOf ts r<=d)/\∀ H',av H H'->Q (.bl true) H'
theorem MT(a:Option Int):N1 (oV a) (V.int 0)=true:=by cases a<;>rfl
theorem K4(q:Pr)(sb:Bool):([oV q.1,oV q.2]:List V)[sb.toNat]?=some (oV (sel q sb)):=by cases sb<;>rfl
theorem K5(m k:Nat):(m:Int)/2^((k:Nat):Int).toNat%2=((m.testBit k).toNat:Int):=by
 rw[Int.toNat_natCast,<-eT];unfold bit;obtain⟨h0,h1⟩:=l7 ((m:Int)/2^k) 2 (by decide)
 by_cases h:(m:Int)/2^k%2=1
 ·rw[decide_eq_true h,h];rfl
 ·rw[decide_eq_false h];have:(m:Int)/2^k%2=0:=by lia
  rw[this];rfl
theorem iL:Ok T T.iK 1 MS:=by
 refine T.iK.ok qW fun cdv A outer s H vs Q E hr h=>?_
 ·obtain⟨x,y,l,rfl,q⟩:=h;refine⟨_,(ah (bF (PW.pt (gG (aH qj (pv 0) iE (aJ _)) (fQ (aH qj (pv 1) iE (aJ _))))) (au (aB (tS (cQ qj (pv 0) iE (aJ _)) (tR (cQ qj (pv 1) iE (aJ _)))))) aR)
   (au (aB (cQ D8 (aF HR (by rfl) T.Sb PyProof.Rows.boot_abs (aa (aL jg (pv 0) (pv 1)) af)) (pv 2) (aJ _))))),?_⟩
  refine fH ?_;intro cA cP;cases x with
  | none =>
    refine(ao rfl ⟨rfl,ao rfl (Ih rfl (ao rfl ⟨rfl,ao rfl (Ih rfl (ao rfl ⟨rfl,?_⟩))⟩))⟩);cases y with
    | none=>exact q
    | some y=>exact q
  | some x =>
    cases y with
    | none=>exact(ao rfl ⟨rfl,ao rfl (vS (fun z=>nomatch z) (ao rfl ⟨rfl,ao rfl (Ih rfl (ao rfl ⟨rfl,ao rfl (vS (fun z=>nomatch z) q)⟩))⟩))⟩)
    | some y=>exact(ao rfl ⟨rfl,ao rfl (vS (fun z=>nomatch z) (ao rfl ⟨rfl,ao rfl (vS (fun z=>nomatch z) (ao rfl (ao rfl (b7 (ao rfl (ao rfl (b7 (q))))))))⟩))⟩)
theorem fW:Ok T T.fV 2 Ho:=by
 have iL:=iL T;refine T.fV.ok aZ fun cdv A outer s H vs Q E hr h=>?_
 ·obtain⟨wb,p,ts,g,m,b,W,rfl,hw,hW,sq,st,q⟩:=h;refine⟨_,(ah (bF (aH nJ (aF (ez K) (by rfl) T.b8 PySem.boot_len (aa (pv 2) af)) (aG (bW K) (pv 0) ai) (aJ _)) (au (aB cS)) aR)
   (ah (cK PassesOwn.never rfl (bf (by rfl) T.bV (aa (aG (bW K) (pv 0) ai) af)) (aX 3 aZ.nd)
   (ah (bF (PW.pt (gG (aH nJ (aF (ez K) (by rfl) T.b8 PySem.boot_len (aa (aG (bW K) (pv 2) (pv 3)) af)) (aG (bW K) (pv 0) ai) (aJ _)) (fQ (aH nJ (aG (bW K) (aG (bW K) (aG (bW K) (pv 2) (pv 3)) (pv 3)) ai) ai (aJ _))))) (au (aB cS)) aR)
   (au (cK PassesOwn.never rfl (bf (by rfl) T.bV (aa (aF (ez K) (by rfl) T.b8 PySem.boot_len (aa (aG (bW K) (pv 0) ai) af)) af)) (aX 4 aZ.nd)
   (ah (yj (aG (bW K) (aG (bW K) (pv 0) ai) (pv 4)) (Fq K (n:=3) rfl (aS (aX 5 aZ.nd) (aS (aX 6 aZ.nd) (aS (aX 7 aZ.nd) dX)))))
   (ah (aI (i:=8) aZ.nd rfl (Or.inl rfl) (aL dD (aL tW (pv 1) (pv 4)) ai))
   (au (cK PassesOwn.never rfl (bf (by rfl) T.bV (aa ai af)) (aX 9 aZ.nd)
   (ah (aI (i:=10) aZ.nd rfl (Or.inl rfl) (aG (bW K) (aG (bW K) (aG (bW K) (pv 2) (pv 3)) (pv 5)) (pv 9)))
   (au (bF (cZ (bM (aK iL hr T.iK.c aN (aa (pv 10) (aa (aG (bW K) (aG (bW K) (aG (bW K) (pv 2) (pv 3)) (pv 6)) (aL dD (aL dS (pv 9) (pv 8)) ai)) (aa (pv 7) af)))))) (au (aB cS)) aR)))))))))))
   (au (aB cS)))),?_⟩
  refine nH ?_;intro cA cP dm eO fF lN sE xZ x6 x8 mG lR;obtain⟨bt,xs,h1,h2,h3⟩:=id hw.ex;have vB:=h3.length;have wl:=g.len;have wp:=g.p2;obtain⟨ws,hws,Qw⟩:=id hW;have wsl:ws.length=p:=by rw[Qw.length,sq.1]
  refine(ao rfl (lJ rfl (.inr (aP.of hws)) (ao rfl (bX (aP.of h1) (ak (j:=0) rfl) ⟨rfl,ao rfl (?_)⟩))));rw[decide_eq_true (show V.int ((ws.length:Nat):Int)=V.int (p:Int) by rw[wsl])]
  refine cC (ao rfl (bX (aP.of h1) (ak (j:=0) rfl) (ao rfl ⟨(by lia),(by lia),?_⟩)))
  refine c5 (lo:=0) (n:=(p:Int).toNat) (fun i σ H2=>∃ v3 v4 v5 v6 v7 v8 v9 v10,σ=[some (.ref wb),some (.int (m:Int)),some (.ref b),v3,v4,v5,v6,v7,v8,v9,v10]/\H2=H) ⟨none,none,none,none,none,none,none,none,rfl,rfl⟩ ?_ ?_
  ·rintro i D' σ H2 hi ⟨v3,v4,v5,v6,v7,v8,v9,v10,rfl,rfl⟩;rw[Int.toNat_natCast]at hi;rw[Int.zero_add];obtain⟨x,hx,bR,ys,rfl,Hz,K6⟩:=Ring.gW Qw (i:=i) (by rw[sq.1];exact hi) []
   have rl:=sq.row hi;have ysl:ys.length=p:=by rw[K6.length,rl]
   obtain⟨bP,eP,zO⟩:=RowW.at K6 (i:=i) (by lia)
   obtain⟨Uh,Hr⟩:=st i hi;have Uh:(iO (W.getD i []) i).1=some 0:=Uh;generalize W.getD i []=R at K6 rl zO Uh Hr;refine(ao rfl (ao rfl (bX (aP.of hws) (ak (j:=i) hx) (lJ rfl (.inr (aP.of Hz)) (ao rfl (bX (aP.of h1) (ak (j:=0) rfl) ⟨rfl,ao rfl (?_)⟩))))));rw[decide_eq_true (show V.int ((ys.length:Nat):Int)=V.int (p:Int) by rw[ysl])]
   refine cC (ao rfl (ao rfl (bX (aP.of hws) (ak (j:=i) hx) (ao rfl (bX (aP.of Hz) (ak (j:=i) eP) (bX (aP.of zO) (ak (j:=0) rfl) ⟨MT _,_,rfl,?_⟩))))));rw[Uh,decide_eq_true (show oV (some 0)=V.int 0 from rfl)]
   refine cC (ao rfl (bX (aP.of h1) (ak (j:=1) rfl) (lJ rfl (.inr (aP.of h2)) (ao rfl ⟨(by lia),(by lia),?_⟩))))
   refine c5 (lo:=0) (n:=(xs.length:Int).toNat) (fun k σ H3=>∃ v4 v5 v6 v7 v8 v9 v10,σ=[some (.ref wb),some (.int (m:Int)),some (.ref b),some (.int (i:Int)),v4,v5,v6,v7,v8,v9,v10]/\H3=H2) ⟨_,_,_,_,_,_,_,rfl,rfl⟩ ?_ ?_
   ·rintro k D2 σ H3 hk ⟨v4,v5,v6,v7,v8,v9,v10,rfl,rfl⟩;rw[Int.toNat_natCast]at hk;rw[Int.zero_add];have lP:k<ts.length:=by lia
    obtain⟨ct,ex,hct⟩:=qC (g:=g) h3 lP;have ha:g.N.a k<p:=g.N.al k lP;have hb:g.N.b k<p:=g.N.bl k lP;refine(ao rfl (bX (aP.of h1) (ak (j:=1) rfl) (ao rfl (bX (aP.of h2) (ak (j:=k) ex) ⟨ct,_,rfl,aP.of hct,rfl,_,_,rfl,_,_,rfl,_,_,rfl,rfl,?_⟩))));refine(ao rfl (ao rfl (b7 ⟨(by lia),b7 ⟨(nC rfl),?_⟩⟩)))
    dsimp only;rw[K5];have near:=(AD R (bL ts k) (m.testBit k)).mp (Hr k lP);have near:∀ sb:Bool,uM (sel (iO R (g.N.a k)) sb) (sel (iO R (g.N.b k)) (sb^^m.testBit k)) (bL ts k).2.2=true:=near;generalize g.N.a k=ua at ha near;generalize g.N.b k=ub at hb near;generalize m.testBit k=tb at near;obtain⟨bA,eA,hbA⟩:=RowW.at K6 (i:=ua) (by lia)
    obtain⟨bB,eB,hbB⟩:=RowW.at K6 (i:=ub) (by lia)
    refine(ao rfl ⟨(by decide),(by decide),?_⟩)
    refine c5 (lo:=0) (n:=(2:Int).toNat) (fun n σ H4=>∃ v9 v10,σ=[some (.ref wb),some (.int (m:Int)),some (.ref b),some (.int (i:Int)),some (.int (k:Int)),some (.int (ua:Int)),some (.int (ub:Int)),some (.int (bL ts k).2.2),some (.int (tb.toNat:Int)),v9,v10]/\H4=H3) ⟨_,_,rfl,rfl⟩ ?_ ?_
    ·rintro n D3 σ H4 hn ⟨v9,v10,rfl,rfl⟩;rw[Int.zero_add];have hn2:n<2:=hn;obtain⟨sb,rfl⟩:∃ sb:Bool,n=sb.toNat:=by
      have:n=0\/n=1:=by lia
      rcases this with rfl|rfl
      ·exact⟨false,rfl⟩
      ·exact⟨true,rfl⟩
     refine(ao rfl (ao rfl (bX (aP.of hws) (ak (j:=i) hx) (ao rfl (bX (aP.of Hz) (ak (j:=ua) eA) (ao rfl (bX (aP.of hbA) (ak (j:=sb.toNat) (K4 _ sb)) (?_))))))));have et:((sb.toNat:Int)+(tb.toNat:Int))%2=(((sb^^tb).toNat:Nat):Int):=by cases sb<;>cases tb<;>rfl
     refine(ao rfl (ao rfl (ao rfl (bX (aP.of hws) (ak (j:=i) hx) (ao rfl (bX (aP.of Hz) (ak (j:=ub) eB) (ao rfl (ao rfl (b7 (b7 ⟨(nC rfl),bX (aP.of hbB) ((by rw[et];exact ak (K4 _ (sb^^tb)))) (ao rfl ⟨_,_,_,rfl,_,rfl,?_⟩)⟩))))))))))
     rw[near sb];exact cC ⟨_,_,rfl,rfl⟩
    ·rintro σ H4 ⟨v9,v10,rfl,rfl⟩;exact⟨_,_,_,_,_,_,_,rfl,rfl⟩
   ·rintro σ H3 ⟨v4,v5,v6,v7,v8,v9,v10,rfl,rfl⟩;exact⟨_,_,_,_,_,_,_,_,rfl,rfl⟩
  ·rintro σ H2 ⟨v3,v4,v5,v6,v7,v8,v9,v10,rfl,rfl⟩;exact q
theorem gF:Ok T T.gD 3 K3:=by
 have jd:=jd T;have fW:=fW T;have dH:=dH T;refine T.gD.ok fU fun cdv A outer s H vs Q E hr h=>?_
 ·obtain⟨wb,p,ts,g,r,m,b,W,rfl,hw,hW,sq,st,Yc,hp,ns,q⟩:=h;refine⟨_,(ah (bF (PW.pt (gG (cZ (bM (aK jd hr T.nA.c aN (aa (pv 1) (aa (pv 2) af))))) (fQ (cZ (bM (aK fW hr T.fV.c aN (aa (pv 0) (aa (pv 2) (aa (pv 3) af))))))))) (au (aB cS)) aR)
   (ah (cK PassesOwn.never rfl (bf (by rfl) T.bV (aa (aG (bW K) (pv 0) ai) af)) (aX 4 fU.nd)
   (ah (aI (i:=5) fU.nd rfl (Or.inl rfl) (aG (bW K) (aG (bW K) (aG (bW K) (pv 3) (pv 4)) (pv 4)) ai))
   (au (bF (PW.pt (B3 (aH ym (pv 5) iE (aJ _)) (yi (aH wW (pv 5) (aK dH hr T.jw.c aN (aa (pv 0) (aa (pv 1) af))) (aJ _))))) (au (aB cS)) aR))))
   (au (aB cS)))),?_⟩
  refine ou ?_;intro cA cP dm eO fF lN;obtain⟨bt,xs,h1,h2,h3⟩:=id hw.ex;have wp:=g.p2;obtain⟨ws,hws,Qw⟩:=id hW;refine(ao rfl (ao rfl ⟨r,m,rfl,fun v hv=>(ao rfl (?_))⟩))
  have hv2:v=true:=by
   rw[hv ts.length (Nat.lt_of_le_of_lt Nat.and_le_left Yc),<-hp];exact RM.bN fun k _=>Nat.testBit_and ..
  subst hv2;refine cC (ao rfl (ao rfl (ao rfl ⟨wb,p,ts,g,m,b,W,rfl,hw,hW,sq,st,_,rfl,cC ?_⟩)));refine(ao rfl (bX (aP.of h1) (ak (j:=0) rfl) (ao rfl ⟨(by lia),(by lia),?_⟩)))
  refine c5 (lo:=0) (n:=(p:Int).toNat) (fun i σ H2=>∃ v4 v5,σ=[some (.ref wb),some (.int (r:Int)),some (.int (m:Int)),some (.ref b),v4,v5]/\av H H2) ⟨none,none,rfl,av.refl _⟩ ?_ ?_
  ·rintro i D' σ H2 hi ⟨v4,v5,rfl,s2⟩;rw[Int.toNat_natCast]at hi;rw[Int.zero_add];obtain⟨x,hx,bR,ys,rfl,Hz,K6⟩:=Ring.gW Qw (i:=i) (by rw[sq.1];exact hi) []
   have rl:=sq.row hi;obtain⟨bP,eP,zO⟩:=RowW.at K6 (i:=i) (by lia)
   have Yd:=ns i hi;refine(ao rfl (ao rfl (bX (aP.of (s2 _ _ hws)) (ak (j:=i) hx) (ao rfl (bX (aP.of (s2 _ _ Hz)) (ak (j:=i) eP) (bX (aP.of (s2 _ _ zO)) (ak (j:=1) rfl) (?_)))))));dsimp only;generalize (iO (W.getD i []) i).2=o at Yd;cases o with
   | none=>exact(ao rfl ⟨rfl,ao rfl (Eh rfl ⟨_,_,rfl,s2⟩)⟩)
   | some d =>
     have hd:=Yd d rfl;refine(ao rfl ⟨rfl,ao rfl (KJ (fun z=>nomatch z) (ao rfl (ao rfl (ao rfl ⟨wb,p,ts,g,_,r,rfl,rfl,hw.same s2,Yc,fun H3 s3=>(b7 (ao rfl (jh (fun h=>?_) (fun _=>⟨_,_,rfl,s2.trans s3⟩))))⟩))))⟩)
     have h:d<lenOf ts r:=of_decide_eq_true h
     lia
  ·rintro σ H2 ⟨v4,v5,rfl,s2⟩;exact q H2 s2
def DR:Sp:=fun vs H Q _=>∃ w p ts,∃ g:aE p ts,∃(bb:Addr) (ys:List V) (tr:List Hh),vs=[.ref w,.ref bb]/\bu H w p ts/\H bb=some (.tup ys)/\Paired (rT H) ys tr/\tr.length=g.N.aU.length/\(∀ t∈tr,t.1<2^ts.length/\t.2.1<2^ts.length/\FZ p t.2.2)/\∀ H',av H H'->Q (.bl true) H'
theorem mX:Ok T T.mR 3 DR:=by
 have oJ:=oJ T;have eK:=eK T;refine T.mR.ok e7 fun cdv A outer s H vs Q E hr h=>?_
 ·obtain⟨wb,p,ts,g,bb,ys,tr,rfl,hw,BV,K7,Ui,hlt,q⟩:=h;refine⟨_,(ah (bF (PW.pt (gG (cZ (bM (aF (z8 K) (by rfl) T.cX PyProof.Rows.boot_isinstance (aa (pv 1) (aa (r9 (by rfl) T.iY PyProof.Rows.boot_tuple) af))))) (fQ (aH nJ (aF (ez K) (by rfl) T.b8 PySem.boot_len (aa (pv 1) af)) (aK oJ hr T.oE.c aN (aa (pv 0) af)) (aJ _))))) (au (aB cS)) aR)
   (ah (cK PassesOwn.never rfl (LR K (pv 1)) (aX 2 e7.nd)
   (ah (bF (PW.pt (gG (cZ (bM (aF (z8 K) (by rfl) T.cX PyProof.Rows.boot_isinstance (aa (pv 2) (aa (r9 (by rfl) T.iY PyProof.Rows.boot_tuple) af))))) (gG (aH nJ (aF (ez K) (by rfl) T.b8 PySem.boot_len (aa (pv 2) af)) ai (aJ _)) (fQ (cZ (bM (aF (z8 K) (by rfl) T.cX PyProof.Rows.boot_isinstance (aa (aG (bW K) (pv 2) ai) (aa (r9 (by rfl) T.iY PyProof.Rows.boot_tuple) af))))))))) (au (aB cS)) aR)
   (ah (cK PassesOwn.never rfl (LR K (o5 (Vc) (pv 2) sY (sZ ai))) (aX 3 e7.nd)
   (au (bF (PW.pt (gG (cZ (bM (aK eK hr T.iD.c aN (aa (pv 3) af)))) (gG (aH wW (pv 3) ai (aJ _)) (fQ (aH D9 (pv 3) (aL kI ai (aF (ez K) (by rfl) T.b8 PySem.boot_len (aa (aG (bW K) (pv 0) ai) af))) (aJ _)))))) (au (aB cS)) aR)))
   (au (cK PassesOwn.never rfl (LR K (aG (bW K) (pv 2) ai)) (aX 4 e7.nd)
   (ah (bF (PW.pt (gG (cZ (bM (aF (z8 K) (by rfl) T.cX PyProof.Rows.boot_isinstance (aa (pv 4) (aa (r9 (by rfl) T.iY PyProof.Rows.boot_tuple) af))))) (fQ (aH nK (aF (ez K) (by rfl) T.b8 PySem.boot_len (aa (bx (own:=["pair"]) (frees:=[]) (js:=[]) (az (aj gh) ["web","base","triple","some","row","pair","parts"]) rfl (LR K (pv 4)) (fun _ _ _ _=>(aX 0 (show(["pair"]:List Str).Nodup by decide +kernel))) (fun _ _ _ _=>(cR (cZ (bM (aF (z8 K) (by rfl) T.cX PyProof.Rows.boot_isinstance (aa (pv 0) (aa (r9 (by rfl) T.iY PyProof.Rows.boot_tuple) af))))))) (fun _ _ _ _=>(pv 0))) af)) ai (aJ _))))) (au (aB cS)) aR)
   (au (cK PassesOwn.never rfl (LR K (pv 4)) (aX 5 e7.nd)
   (ah (eR (i:=6) e7.nd rfl rfl (own:=["part"]) (frees:=[]) (js:=[]) (az (aj gh) ["web","base","triple","some","row","pair","parts"]) rfl (LR K (pv 5)) (fun _ _ _ _=>(aX 0 (show(["part"]:List Str).Nodup by decide +kernel))) (fun _ _ _ _=>(cR (aH ym (pv 0) iE (aJ _)))) (fun _ _ _ _=>(pv 0)))
   (au (bF (PW.pt (gG (aH nJ (aF (ez K) (by rfl) T.b8 PySem.boot_len (aa (pv 5) af)) ai (aJ _)) (fQ (aH nK (aF (ez K) (by rfl) T.b8 PySem.boot_len (aa (bx (own:=["part"]) (frees:=[]) (js:=[]) (az (aj gh) ["web","base","triple","some","row","pair","parts"]) rfl (nX K (pv 6)) (fun _ _ _ _=>(aX 0 (show(["part"]:List Str).Nodup by decide +kernel))) (fun _ _ _ _=>(cR (cZ (bM (aK eK hr T.iD.c aN (aa (pv 0) af)))))) (fun _ _ _ _=>(pv 0))) af)) ai (aJ _))))) (au (aB cS)) aR)))))))))))
   (au (aB cS)))),?_⟩
  refine yX ?_;intro cA cP dm eO fF lN sE xZ x6 x8 mG lR A3 J0 J7;obtain⟨bt,xs,h1,h2,h3⟩:=id hw.ex;have vB:=h3.length;have wl:=g.len;have wp:=g.p2;have O8:(1:Int)*2^((xs.length:Nat):Int).toNat=((2^ts.length:Nat):Int):=by rw[kM,vB]
  have SO:=K7.length;refine(ao rfl ⟨_,_,_,_,_,rfl,rfl,.tup BV,ue K,_,rfl,cC ?_⟩);refine(ao rfl (lJ rfl (.inr (aP.of BV)) (ao rfl ⟨wb,p,ts,g,rfl,hw,fun H1 s1=>⟨rfl,ao rfl (?_)⟩⟩)))
  rw[decide_eq_true (show V.int ((ys.length:Nat):Int)=V.int (g.N.aU.length:Int) by rw[SO,Ui])]
  refine cC (ao rfl ⟨bb,rfl,⟨_,aP.of (s1 _ _ BV)⟩,oY (K:=K) (a:=bb) (xs:=ys) (fun i σ H2=>∃ v2 v3 v4 v5 v6,σ=[some (.ref wb),some (.ref bb),v2,v3,v4,v5,v6]/\av H H2) ⟨none,none,none,none,none,rfl,s1⟩ (fun i σ H2 _ ⟨_,_,_,_,_,_,z⟩=>aP.of (z _ _ BV)) ?_ ?_⟩)
  ·rintro i y σ H2 hy ⟨v2,v3,v4,v5,v6,rfl,s2⟩;obtain⟨t,hti,c,b,rfl,hc,ws,hws,Qw⟩:=Paired.kc K7 hy;obtain⟨l1,l2,sq⟩:=hlt t (List.mem_of_getElem? hti);refine(ao rfl ⟨_,_,_,_,_,rfl,rfl,.tup (s2 _ _ hc),ue K,_,rfl,cC ?_⟩);refine(ao rfl (lJ rfl (.inr (aP.of (s2 _ _ hc))) ⟨rfl,ao rfl (cC ?_)⟩));refine(ao rfl (bX (aP.of (s2 _ _ hc)) (ak (j:=2) rfl) ⟨_,_,_,_,_,rfl,rfl,.tup (s2 _ _ hws),ue K,_,rfl,cC ?_⟩));refine(ao rfl (ao rfl ⟨c,_,rfl,s2 _ _ hc,fun c2 H3 s3 hc2=>?_⟩))
   have ec:qm ([.int (t.1:Int),.int (t.2.1:Int),.ref b]:List V) none (some 2)=[.int (t.1:Int),.int (t.2.1:Int)]:=rfl;rw[ec]at hc2;have EU:=s2.trans s3;refine⟨c2,rfl,⟨_,aP.of hc2⟩,oY (K:=K) (a:=c2) (xs:=[.int (t.1:Int),.int (t.2.1:Int)]) (fun j σ H4=>∃ v3 v4 v5 v6,σ=[some (.ref wb),some (.ref bb),some (.ref c),v3,v4,v5,v6]/\H4=H3) ⟨_,_,_,_,rfl,rfl⟩ (fun j σ H4 _ ⟨_,_,_,_,_,z⟩=>by rw[z];exact aP.of hc2) ?_ ?_⟩
   ·rintro j z σ H4 hz ⟨v3,v4,v5,v6,rfl,rfl⟩;obtain⟨n,rfl,hn⟩:∃ n:Nat,z = .int (n:Int)/\n<2^ts.length:=by
     match j,hz with
     | 0,hz=>exact⟨t.1,(Option.some.inj hz).symm,l1⟩
     | 1,hz=>exact⟨t.2.1,(Option.some.inj hz).symm,l2⟩
    refine(ao rfl (ao rfl (ao rfl (cC (ao rfl (b7 (ao rfl (jh (fun h=>?_) (fun _=>?_)))))))))
    ·have h:(n:Int)<0:=of_decide_eq_true h
     lia
    refine(ao rfl (ao rfl (bX (aP.of (EU _ _ h1)) (ak (j:=1) rfl) (lJ rfl (.inr (aP.of (EU _ _ h2))) (b7 ⟨⟨by lia,by lia,by decide⟩,b7 (ao rfl (jh (fun h=>?_) (fun _=>⟨_,_,_,_,rfl,rfl⟩)))⟩)))))
    rw[O8]at h;have h:((2^ts.length:Nat):Int)<=(n:Int):=of_decide_eq_true h
    lia
   rintro σ H4 ⟨v3,v4,v5,v6,rfl,rfl⟩;refine(ao rfl (bX (aP.of (EU _ _ hc)) (ak (j:=2) rfl) ⟨b,rfl,⟨_,aP.of (EU _ _ hws)⟩,oY (K:=K) (a:=b) (xs:=ws) (fun j σ H5=>∃ v4 v5 v6,σ=[some (.ref wb),some (.ref bb),some (.ref c),v3,v4,v5,v6]/\av H H5) ⟨_,_,_,rfl,EU⟩ (fun j σ H5 _ ⟨_,_,_,_,z⟩=>aP.of (z _ _ hws)) ?_ ?_⟩))
   ·rintro j z σ H5 hz ⟨v4,v5,v6,rfl,s5⟩;obtain⟨R,hRj,bR,rs,rfl,Hz,K6⟩:=Paired.kc Qw hz;have rl:R.length=p:=sq.2 R (List.mem_of_getElem? hRj);have T9:rs.length=p:=by rw[K6.length,rl]
    refine(ao rfl ⟨_,_,_,_,_,rfl,rfl,.tup (s5 _ _ Hz),ue K,_,rfl,cC ?_⟩);refine(ao rfl ⟨bR,rfl,⟨_,aP.of (s5 _ _ Hz)⟩,fun D hD=>o9 (K:=K) (a:=bR) (xs:=rs) (fun i acc H6=>av H5 H6/\H6 D=some (.lst acc)/\acc=[]) ⟨av.new hD,ae,rfl⟩ (fun i acc H6 _ z=>⟨aP.of (z.1 _ _ (s5 _ _ Hz)),z.2.1,by rw[z.2.2];exact Nat.zero_le _⟩) (bU (by lia)) ?_ ?_⟩)
    ·rintro n x acc H6 hx ⟨s6,Ph,rfl⟩;obtain⟨qq,_,d,rfl,hd⟩:=Paired.kc K6 hx;exact⟨rfl,ao rfl ⟨_,_,_,_,_,rfl,rfl,.tup (s6 _ _ (s5 _ _ hd)),ue K,_,rfl,s6,Ph,rfl⟩⟩
    rintro acc H6 ⟨s6,Ph,rfl⟩;have Ye:=s5.trans s6;refine(lJ rfl (.inl (aO.of Ph)) (b7 (ao rfl (jh (fun z=>absurd (of_decide_eq_true z) (by decide)) (fun _=>?_)))))
    refine(ao rfl ⟨bR,rfl,⟨_,aP.of (Ye _ _ Hz)⟩,oY (K:=K) (a:=bR) (xs:=rs) (fun n σ H7=>∃ v5 v6,σ=[some (.ref wb),some (.ref bb),some (.ref c),v3,some (.ref bR),v5,v6]/\av H H7) ⟨_,_,rfl,Ye⟩ (fun n σ H7 _ ⟨_,_,_,z⟩=>aP.of (z _ _ Hz)) ?_ ?_⟩)
    ·rintro n x σ H7 hx ⟨v5,v6,rfl,s7⟩;obtain⟨qq,_,d,rfl,hd⟩:=Paired.kc K6 hx;have Wb:=s7 _ _ hd;refine(ao rfl ⟨d,rfl,⟨_,aP.of Wb⟩,fun D2 jx=>o9 (K:=K) (a:=d) (xs:=[oV qq.1,oV qq.2]) (fun i acc H8=>av H7 H8/\H8 D2=some (.lst acc)/\∃ zs:List Int,acc=zs.map V.int/\zs.length<=i) ⟨av.new jx,ae,[],rfl,Nat.le_refl _⟩ (fun i acc H8 _ ⟨z1,z2,zs,z3,z4⟩=>⟨aP.of (z1 _ _ Wb),z2,by rw[z3,List.length_map];exact z4⟩) (bU (show 2<=24 by decide)) ?_ ?_⟩)
     ·rintro k y acc H8 hy ⟨s8,xh,zs,rfl,zl⟩;obtain⟨o,rfl⟩:∃ o,y=oV o:=by
       match k,hy with
       | 0,hy=>exact⟨_,(Option.some.inj hy).symm⟩
       | 1,hy=>exact⟨_,(Option.some.inj hy).symm⟩
      cases o with
      | none=>exact⟨rfl,ao rfl ⟨rfl,ao rfl (Eh rfl ⟨s8,xh,zs,rfl,by lia⟩)⟩⟩
      | some x=>exact⟨rfl,ao rfl ⟨rfl,ao rfl (KJ (fun z=>nomatch z) (ao rfl ⟨xh,s8.put jx,ae,zs++[x],by rw[List.map_append];rfl,by rw[List.length_append,List.length_singleton];lia⟩))⟩⟩
     rintro acc H8 ⟨s8,xh,zs,rfl,zl⟩;have zl:zs.length<=2:=zl;have s78:=s7.trans s8;refine(ao rfl (lJ rfl (.inr (aP.of (s8 _ _ Wb))) ⟨rfl,ao rfl (cC ?_)⟩));refine(ao rfl ⟨D2,rfl,⟨_,aO.of xh⟩,fun D3 oN=>bj (K:=K) (a:=D2) (xs:=zs.map V.int) (fun i acc H9=>av H8 H9/\H9 D3=some (.lst acc)/\acc=[]) ⟨av.new oN,ae,rfl⟩ (fun i acc H9 _ z=>⟨aO.of (z.1 _ _ xh),z.2.1,by rw[z.2.2];exact Nat.zero_le _⟩) (bU (by rw[List.length_map];lia)) ?_ ?_⟩)
     ·rintro k y acc H9 hy ⟨s9,PU,rfl⟩;obtain⟨x,_,rfl⟩:=List.mem_map.mp (List.mem_of_getElem? hy);exact⟨rfl,ao rfl (ao rfl (ao rfl ⟨s9,PU,rfl⟩))⟩
     rintro acc H9 ⟨s9,PU,rfl⟩;exact(lJ rfl (.inl (aO.of PU)) (b7 (ao rfl (jh (fun z=>absurd (of_decide_eq_true z) (by decide)) (fun _=>⟨_,_,rfl,s78.trans s9⟩)))))
    ·rintro σ H7 ⟨v5,v6,rfl,s7⟩;exact⟨_,_,_,rfl,s7⟩
   ·rintro σ H5 ⟨v4,v5,v6,rfl,s5⟩;exact⟨_,_,_,_,_,rfl,s5⟩
  ·rintro σ H2 ⟨v2,v3,v4,v5,v6,rfl,s2⟩;exact q H2 s2
def DS:Sp:=fun vs H Q _=>∃ w p ts,∃ g:aE p ts,∃(bb:Addr) (ys:List V) (tr:List Hh),vs=[.ref w,.ref bb]/\bu H w p ts/\H bb=some (.tup ys)/\Paired (rT H) ys tr/\RM.LB g.N (aY ts) (tr.map (·.1))/\(tr.map (·.1)).Pairwise (kE ts)/\MarksOf g.N (tr.map (·.1)) (tr.map (·.2.1))/\(∀ t∈tr,FZ p t.2.2/\lH p ts g t.2.1 t.2.2)/\∀ H',av H H'->Q (.bl true) H'
theorem ye{f:Nat->Bool}:∀{rs:List Nat} {i r0:Nat},rs[i]?=some r0->(∀(j r:Nat),rs[j]?=some r->f r=decide (i=j))->rs.filter f=[r0]
 | [],i,r0,h,_=>by simp at h
 | x::rs,0,r0,h,hf=>by
   have e:x=r0:=by simpa using h
   have h0:=hf 0 x rfl;rw[List.filter_cons,if_pos (by rw[h0];rfl),e]
   congr 1
   rw[List.filter_eq_nil_iff];intro y hy;obtain⟨j,hj⟩:=List.getElem?_of_mem hy;rw[hf (j+1) y (by simpa using hj)]
   simp
 | x::rs,i+1,r0,h,hf=>by
   have h0:=hf 0 x rfl;rw[List.filter_cons,if_neg (by rw[h0];simp)]
   exact ye (i:=i) (by simpa using h) fun j r hj=>by
    rw[hf (j+1) r (by simpa using hj)]
    exact decide_eq_decide.mpr (by lia)
abbrev Pq:=Addr×Int×Int
def zQ(q:Pq):PyData:=.tuple [.int q.2.1,.int q.2.2]
theorem zI{K:bK}{H:Hp}:∀{ps:List Pq},(∀ q∈ps,H q.1=some (.tup [.int q.2.1,.int q.2.2]))->DatVs K H (ps.map fun q=>V.ref q.1) (ps.map zQ)
 | [],_=>.nil
 | q::r,h=>.cons (.tup (aP.of (h q List.mem_cons_self)) (.cons (.int _) (.cons (.int _) .nil))) (zI fun q' hq=>h q' (List.mem_cons_of_mem _ hq))
theorem EZ:∀ ps:List Pq,PyData.canLayAll0 (ps.map zQ)=true
 | []=>rfl
 | q::r=>by
   have ih:=EZ r;have e:(zQ q).canLay0=true:=by simp[zQ,PyData.canLay0,PyData.canLayAll0]
   simp only[List.map_cons,PyData.canLayAll0,ih,Bool.and_true,e]
theorem BL:∀ ps:List Pq,PyData.depthAll (ps.map zQ)<=1
 | []=>Nat.zero_le _
 | q::r=>by
   have ih:=BL r;show max (PyData.depth (zQ q)) (PyData.depthAll (r.map zQ))<=1;have e:PyData.depth (zQ q)=1:=by simp[zQ,PyData.depth,PyData.depthAll]
   lia
theorem E1(ps:List Pq):(PyData.list (ps.map zQ)).canLay0=true:=by
 have e:(PyData.list (ps.map zQ)).canLay0=PyData.canLayAll0 (ps.map zQ):=by simp[PyData.canLay0]
 rw[e,EZ]
theorem vJ(ps:List Pq):SeqAt.shaped (.list (ps.map zQ))=true:=by
 unfold SeqAt.shaped;rw[E1,Bool.true_and];refine decide_eq_true ?_;have h:=BL ps;have e2:PyData.depth (PyData.list (ps.map zQ))=PyData.depthAll (ps.map zQ)+1:=by simp[PyData.depth]
 lia
theorem MU{ps ps' : List Pq}(hp:ps'.Perm ps)(h1:ps.Pairwise (fun x y=>kx x.2<=kx y.2))(h2:ps'.Pairwise (fun x y=>kx x.2<=kx y.2))(hok:∀ q∈ps,Ll q.2):ps'.map zQ=ps.map zQ:=by
 have e:ps'.map (fun q=>kx q.2)=ps.map (fun q=>kx q.2):=PySem.W.lks_uniq (hp.map _) (by rw[List.pairwise_map];exact h2) (by rw[List.pairwise_map];exact h1)
 have hl:=hp.length_eq;refine List.ext_getElem (by rw[List.length_map,List.length_map,hl]) fun i a b=>?_
 rw[List.getElem_map,List.getElem_map];have ha:i<ps'.length:=by rw[List.length_map]at a;exact a
 have hb:i<ps.length:=by lia
 have e1:=congrArg (fun l=>l[i]?) e
 rw[List.getElem?_map,List.getElem?_map,List.getElem?_eq_getElem ha,List.getElem?_eq_getElem hb]at e1;have e1:kx ps'[i].2=kx ps[i].2:=Option.some.inj e1;have o1:=hok _ (hp.mem_iff.mp (List.getElem_mem ha));have o2:=hok _ (List.getElem_mem hb);unfold kx at e1;unfold Ll at o1 o2;unfold zQ;have x1:ps'[i].2.1=ps[i].2.1:=by lia
 have x2:ps'[i].2.2=ps[i].2.2:=by lia
 rw[x1,x2]
theorem mY:Ok T T.mS 4 DS:=by
 have oM:=oM T;have lG:=lG T;have dH:=dH T;have jd:=jd T;have gF:=gF T;refine T.mS.ok e8 fun cdv A outer s H vs Q E hr h=>?_
 ·obtain⟨wb,p,ts,g,bb,ys,tr,rfl,hw,BV,K7,lb,pw,mo,al,q⟩:=h;refine⟨_,(ah (eR (i:=2) e8.nd rfl rfl (own:=["triple"]) (frees:=[]) (js:=[]) (az (aj eI) ["web","base","rings","pairs","ring","marks","worths"]) rfl (LR K (pv 1)) (fun _ _ _ _=>(aX 0 (show(["triple"]:List Str).Nodup by decide +kernel))) (fun _ _ _ _=>bY) (fun _ _ _ _=>(aG (bW K) (pv 0) ai)))
   (ah (bF (aH nK (aF (ez K) (by rfl) T.b8 PySem.boot_len (aa (bx (own:=["ring"]) (frees:=["web"]) (js:=[0]) (az (aj eI) ["web","base","rings","pairs","ring","marks","worths"]) rfl (nX K (pv 2)) (fun _ _ _ _=>(aX 0 (show(["ring","web"]:List Str).Nodup by decide +kernel))) (fun _ _ _ _=>(cR (cZ (bM (aK oM hr T.oF.c aN (aa (pv 1) (aa (pv 0) af))))))) (fun _ _ _ _=>(pv 0))) af)) ai (aJ _)) (au (aB cS)) aR)
   (ah (bF (aH (uf K hr.units) (aK lG hr T.lz.c aN (aa (pv 2) af)) (pv 2) (aJ _)) (au (aB cS)) aR)
   (ah (eR (i:=3) e8.nd rfl rfl (own:=["ring"]) (frees:=["web"]) (js:=[0]) (az (aj eI) ["web","base","rings","pairs","ring","marks","worths"]) rfl (nX K (pv 2)) (fun _ _ _ _=>(aX 0 (show(["ring","web"]:List Str).Nodup by decide +kernel))) (fun _ _ _ _=>bY) (fun _ _ _ _=>(c7 (aa (aK dH hr T.jw.c aN (aa (pv 1) (aa (pv 0) af))) (aa (pv 0) af)))))
   (ah (bF (aH (uf K hr.units) (pv 3) (aF (JY K) (by rfl) T.Bv PyProof.Rows.boot_sorted (aa (pv 3) af)) (aJ _)) (au (aB cS)) aR)
   (ah (cK PassesOwn.never rfl (LR K (pv 1)) (Fq K (n:=3) rfl (aS (aX 4 e8.nd) (aS (oX (i:=5) e8.nd rfl (Or.inr rfl)) (aS (aX 6 e8.nd) dX))))
   (ah (bF (aH (uf K hr.units) (bx (own:=["other"]) (frees:=["marks"]) (js:=[5]) (az (aj eI) ["web","base","rings","pairs","ring","marks","worths"]) rfl (nX K (pv 2)) (fun _ _ _ _=>(aX 0 (show(["other","marks"]:List Str).Nodup by decide +kernel))) (fun _ _ _ _=>(cR (bM (aK jd hr T.nA.c aN (aa (pv 0) (aa (pv 1) af)))))) (fun _ _ _ _=>(pv 0))) (eg (aa (pv 4) af)) (aJ _)) (au (aB cS)) aR)
   (au (bF (cZ (bM (aK gF hr T.gD.c aN (aa (pv 0) (aa (pv 4) (aa (pv 5) (aa (pv 6) af))))))) (au (aB cS)) aR))))
   (au (aB cS)))))))),?_⟩
  refine yY ?_;intro cA cP dm eO fF lN sE xZ x6 x8 mG lR A3;have wl:=g.len;have SO:=K7.length;have Ui:tr.length<=24:=by
   have h1:g.N.aU.length<=(List.range g.N.n).length:=List.length_filter_le ..;rw[List.length_range,<-lb.1.len,List.length_map]at h1;exact Nat.le_trans h1 wl
  generalize hrs:tr.map (·.1)=rs at lb pw mo;have T9:rs.length=tr.length:=by rw[<-hrs,List.length_map]
  have item:∀{l:List Nat} {i:Nat} {v:V},(aA l)[i]?=some v->∃ c,l[i]?=some c/\v = .int (c:Int):=fun {l i v} h=>by
   unfold aA at h;rw[List.getElem?_map]at h;obtain⟨c,h1,h2⟩:=Option.map_eq_some_iff.mp h;exact⟨c,h1,h2.symm⟩
  refine(ao rfl ⟨bb,rfl,⟨_,aP.of BV⟩,fun X hX=>o9 (K:=K) (a:=bb) (xs:=ys) (fun i acc H2=>av H H2/\H2 X=some (.lst acc)/\acc=aA (rs.take i)) ⟨av.new hX,ae,rfl⟩ (fun i acc H2 _ z=>⟨aP.of (z.1 _ _ BV),z.2.1,by rw[z.2.2,aC,List.length_take];lia⟩) (bU (by lia)) ?_ ?_⟩)
  ·rintro i x acc H2 hx ⟨s2,hX2,rfl⟩;obtain⟨t,hti,c,b,rfl,hc,_⟩:=Paired.kc K7 hx;have w9:rs[i]?=some t.1:=by rw[<-hrs,List.getElem?_map,hti];rfl
   refine⟨rfl,ao rfl (bX (aP.of (s2 _ _ hc)) (ak (j:=0) rfl) ⟨hX2,s2.put hX,ae,?_⟩)⟩;rw[List.take_add_one,w9];exact(cL _ _).symm
  rintro acc H2 ⟨s2,hX2,rfl⟩;rw[SO,<-T9,List.take_length]at hX2;refine(ao rfl ⟨X,rfl,⟨_,aO.of hX2⟩,fun D hD=>bj (K:=K) (a:=X) (xs:=aA rs) (fun i acc H3=>av H2 H3/\H3 D=some (.lst acc)/\acc=[]) ⟨av.new hD,ae,rfl⟩ (fun i acc H3 _ z=>⟨aO.of (z.1 _ _ hX2),z.2.1,by rw[z.2.2];exact Nat.zero_le _⟩) (bU (by rw[aC];lia)) ?_ ?_⟩)
  ·rintro i x acc H3 hx ⟨s3,oN,rfl⟩;obtain⟨r,w9,rfl⟩:=item hx;obtain⟨g1,g2⟩:=lb.1.ring r (List.mem_of_getElem? w9);refine⟨rfl,ao rfl (ao rfl ⟨wb,p,ts,g,_,r,rfl,rfl,hw.same (s2.trans s3),g2,fun H4 d s4 hd=>(ao rfl (?_))⟩)⟩
   rw[hd.mpr g1];exact⟨s3.trans s4,s4 _ _ oN,rfl⟩
  rintro acc H3 ⟨s3,oN,rfl⟩;have EU:=s2.trans s3;have BZ:=s3 _ _ hX2;refine(lJ rfl (.inl (aO.of oN)) (b7 (ao rfl (jh (fun z=>absurd (of_decide_eq_true z) (by decide)) (fun _=>?_)))))
  refine(ao rfl ⟨X,rs,rfl,BZ,by lia,lb.1.ind,fun D2 H4 jx s4 Wc=>?_⟩)
  have NH:=s4 _ _ BZ;refine(ao rfl ⟨_,_,.lst (aO.of Wc) (kh rs),.lst (aO.of NH) (kh rs),iy _,iy _,_,rfl,?_⟩);rw[Aj];refine cC ?_;have PV:=EU.trans s4;have big:(2:Nat)^ts.length<=2^24:=Nat.pow_le_pow_right (by decide) wl
  have Mx:∀ r∈rs,r<2^ts.length:=fun r hr=>(lb.1.ring r hr).2
  refine(ao rfl ⟨X,rfl,⟨_,aO.of NH⟩,fun Y hY=>bj (K:=K) (a:=X) (xs:=aA rs) (fun i acc H5=>av H4 H5/\H5 Y=some (.lst acc)/\∃ ps:List Pq,acc=(ps.map fun q=>V.ref q.1)/\(∀ q∈ps,H5 q.1=some (.tup [.int q.2.1,.int q.2.2]))/\ps.map (·.2)=(rs.take i).map fun r=>(lenOf ts r,(r:Int))) ⟨av.new hY,ae,[],rfl,(fun q hq=>(List.not_mem_nil hq).elim),rfl⟩ (fun i acc H5 _ ⟨z1,z2,ps,z3,_,z5⟩=>⟨aO.of (z1 _ _ NH),z2,?_⟩) (bU (by rw[aC];lia)) ?_ ?_⟩)
  ·have h5:=congrArg List.length z5;rw[List.length_map,List.length_map,List.length_take]at h5;rw[z3,List.length_map]
   lia
  ·rintro i x acc H5 hx ⟨s5,Uj,ps,rfl,SQ,Qx⟩;obtain⟨r,w9,rfl⟩:=item hx;refine⟨rfl,ao rfl (ao rfl ⟨wb,p,ts,g,_,r,rfl,rfl,hw.same (PV.trans s5),Mx r (List.mem_of_getElem? w9),fun H6 s6=>(ao rfl ⟨dl rfl,fun c hc=>?_⟩)⟩)⟩
   have s7:av H6 (upd H6 c (.tup [.int (lenOf ts r),.int (r:Int)])):=av.new hc;have Wd:=s6.trans s7;have Yg:=Wd _ _ Uj;have tp:c6 (upd H6 c (.tup [.int (lenOf ts r),.int (r:Int)])) (upd (upd H6 c (.tup [.int (lenOf ts r),.int (r:Int)])) Y (.lst ((ps.map fun q=>V.ref q.1)++[.ref c]))):=c6.put Yg
   refine⟨Yg,(s5.trans Wd).put hY,ae,ps++[(c,lenOf ts r,(r:Int))],by rw[List.map_append];rfl,fun q hq=>?_,?_⟩
   ·rcases List.mem_append.mp hq with z|z
    ·exact tp _ _ (Wd _ _ (SQ q z))
    ·rw[List.mem_singleton.mp z];exact tp _ _ ae
   ·rw[List.map_append,Qx,List.take_add_one,w9];show _=List.map _ (List.take i rs++[r]);rw[List.map_append];rfl
  rintro acc H5 ⟨s5,Uj,ps,rfl,SQ,Qx⟩;rw[aC,List.take_length]at Qx;have psl:ps.length=rs.length:=by have:=congrArg List.length Qx;rw[List.length_map,List.length_map]at this;exact this
  have hok:∀ q∈ps,Ll q.2:=fun q hq=>by
   have:q.2∈ps.map (·.2):=List.mem_map.mpr ⟨q,hq,rfl⟩;rw[Qx]at this;obtain⟨r,hr,e⟩:=List.mem_map.mp this;have:=Mx r hr;rw[<-e];exact⟨by show(0:Int)<=(r:Int);lia,by show(r:Int)<1073741824;lia⟩
  have psw:ps.Pairwise (fun x y=>kx x.2<=kx y.2):=by
   have h1:(ps.map (·.2)).Pairwise (fun x y=>kx x<=kx y):=by
    rw[Qx,List.pairwise_map];refine List.Pairwise.imp_of_mem (fun {x y} hx hy h=>?_) pw
    have hx:=Mx x hx;have hy:=Mx y hy;unfold kE at h;show lenOf ts x*1073741824+(x:Int)<=lenOf ts y*1073741824+(y:Int)
    lia
   rw[List.pairwise_map]at h1;exact h1
  have Uk:=PV.trans s5;refine(ao rfl (ao rfl ⟨Y,ps,rfl,aO.of Uj,SQ,hok,by lia,fun l ps' hl Mz We=>?_⟩))
  have s6:av H5 (upd H5 l (.lst (ps'.map fun q=>V.ref q.1))):=av.new hl
  refine⟨_,_,.lst (aO.of (s6 _ _ Uj)) (zI fun q hq=>s6 _ _ (SQ q hq)),.lst (aO.of ae) (zI fun q hq=>s6 _ _ (SQ q (Mz.mem_iff.mp hq))),vJ _,vJ _,_,rfl,?_⟩
  rw[MU Mz psw We hok,SeqAt.eqv_refl _ (E1 _)];refine cC ?_;have SR:=Uk.trans s6;have DK:=s6 _ _ (s5 _ _ NH);generalize upd H5 l (.lst (ps'.map fun q=>V.ref q.1))=H6 at SR DK
  have hL:=i8 g;refine(ao rfl ⟨bb,rfl,⟨_,aP.of (SR _ _ BV)⟩,oY (K:=K) (a:=bb) (xs:=ys) (fun i σ H7=>∃ v4 v5 v6,σ=[some (.ref wb),some (.ref bb),some (.ref X),some (.ref Y),v4,v5,v6]/\av H H7/\H7 X=some (.lst (aA rs))) ⟨none,none,none,rfl,SR,DK⟩ (fun i σ H7 _ ⟨_,_,_,_,z,_⟩=>aP.of (z _ _ BV)) ?_ ?_⟩)
  ·rintro i y σ H7 hy ⟨v4,v5,v6,rfl,s7,Qy⟩;obtain⟨t,hti,c,b,rfl,hc,hW⟩:=Paired.kc K7 hy;obtain⟨sq,bw⟩:=al t (List.mem_of_getElem? hti);have w9:rs[i]?=some t.1:=by rw[<-hrs,List.getElem?_map,hti];rfl
   have hmi:(tr.map (·.2.1))[i]?=some t.2.1:=by rw[List.getElem?_map,hti];rfl
   obtain⟨ml,PX⟩:=mo.2 i t.2.1 hmi;have ml:t.2.1<2^ts.length:=ml;have rl:=Mx t.1 (List.mem_of_getElem? w9);have own:g.N.par t.1 t.2.1=true:=by rw[PX i t.1 w9];exact decide_eq_true rfl
   refine⟨c,_,rfl,aP.of (s7 _ _ hc),rfl,_,_,rfl,_,_,rfl,_,_,rfl,rfl,?_⟩;refine(ao rfl ⟨X,rfl,⟨_,aO.of Qy⟩,fun D3 oN=>bj (K:=K) (a:=X) (xs:=aA rs) (fun j acc H8=>av H7 H8/\H8 D3=some (.lst acc)/\acc=aA ((rs.take j).filter fun r=>g.N.par r t.2.1)) ⟨av.new oN,ae,rfl⟩ (fun j acc H8 _ z=>⟨aO.of (z.1 _ _ Qy),z.2.1,?_⟩) (bU (by rw[aC];lia)) ?_ ?_⟩)
   ·rw[z.2.2,aC];refine Nat.le_trans (List.length_filter_le _ _) ?_;rw[List.length_take]
    lia
   ·rintro j x acc H8 hx ⟨s8,xh,rfl⟩;obtain⟨r,Yh,rfl⟩:=item hx;refine⟨rfl,ao rfl (ao rfl ⟨r,t.2.1,rfl,fun v hv=>(ao rfl (?_))⟩)⟩
    have hv2:v=g.N.par r t.2.1:=by
     rw[hv ts.length (Nat.lt_of_le_of_lt Nat.and_le_left (Mx r (List.mem_of_getElem? Yh)))];exact RM.bN fun k _=>Nat.testBit_and ..
    have etk:rs.take (j+1)=rs.take j++[r]:=by rw[List.take_add_one,Yh];rfl
    rw[etk,List.filter_append];cases Yi:v with
    | true =>
      rw[Yi]at hv2;refine ir (ao rfl ⟨xh,s8.put oN,ae,?_⟩);rw[List.filter_cons,if_pos hv2.symm,List.filter_nil,cL]
    | false =>
      rw[Yi]at hv2;refine cC ⟨s8,xh,?_⟩;rw[List.filter_cons,if_neg (by rw[<-hv2];decide),List.filter_nil,List.append_nil]
   rintro acc H8 ⟨s8,xh,rfl⟩;rw[aC,List.take_length,ye w9 PX]at xh;refine(ao rfl ⟨dl rfl,fun l2 hl2=>?_⟩)
   have s9:av H8 (upd H8 l2 (.lst [.int (t.1:Int)])):=av.new hl2;refine⟨_,_,.lst (aO.of (s9 _ _ xh)) (kh [t.1]),.lst (aO.of ae) (kh [t.1]),iy _,iy _,_,rfl,?_⟩;rw[Aj];have SD:=s8.trans s9;have Wf:=s7.trans SD;refine cC (ao rfl (ao rfl (ao rfl (ao rfl ⟨wb,p,ts,g,t.1,t.2.1,b,t.2.2,rfl,hw.same Wf,hW.same Wf,sq,bw.stands,rl,own,F6 bw fun r2 h2 h3 h4=>?_,fun So Qs=>(ao rfl (cC ⟨_,_,_,rfl,Wf.trans Qs,Qs _ _ (SD _ _ Qy)⟩))⟩))))
   obtain⟨b2,GZ,Tw,hb4⟩:=lb.2 r2 t.2.1 h3 h2 h4;obtain⟨j,hj⟩:=List.getElem?_of_mem GZ;rw[PX j b2 hj]at Tw;have ej:i=j:=of_decide_eq_true Tw;subst ej;rw[w9]at hj;have ej:=Option.some.inj hj;rw[CH rl,ej];exact hb4
  ·rintro σ H7 ⟨v4,v5,v6,rfl,s7,_⟩;exact q H7 s7
theorem vK{p:Nat}{ts:List dJ}{g:aE p ts}{rs rs' : List Nat}(lb:RM.LB g.N (aY ts) rs)(lb' : RM.LB g.N (aY ts) rs')(pw:rs.Pairwise (kE ts))(Wg:rs'.Pairwise (kE ts))
 (lr:∃ bs,RM.CS g.N (aY ts) (g.N.aU.map fun c=>2^c) bs []/\rs.Perm bs) (Wh:∃ bs,RM.CS g.N (aY ts) (g.N.aU.map fun c=>2^c) bs []/\rs'.Perm bs):rs=rs':=by
 have MG:∀ k,k<g.N.n->0<aY ts k:=fun k hk=>by
  have:=(g.vW _ (eU hk)).l0;unfold aY
  lia
 obtain⟨bs,l1,p1⟩:=lr;obtain⟨bs',l2,p2⟩:=Wh;have el:bs.length=bs'.length:=by rw[<-p1.length_eq,<-p2.length_eq,lb.1.len,lb'.1.len]
 obtain⟨rfl,_⟩:=l1.uniq MG l2 el;have big:(2:Nat)^ts.length<=2^24:=Nat.pow_le_pow_right (by decide) g.len
 have lt:∀ r∈rs,r<2^ts.length:=fun r hr=>(lb.1.ring r hr).2
 have lt' : ∀ r∈rs',r<2^ts.length:=fun r hr=>(lb'.1.ring r hr).2
 have Yj:∀{rs:List Nat},(∀ r∈rs,r<2^ts.length)->rs.Pairwise (kE ts)->(rs.map fun r=>lenOf ts r*1073741824+(r:Int)).Pairwise (·<=·):=fun {rs} hlt O8=>by
  rw[List.pairwise_map];refine List.Pairwise.imp_of_mem (fun {x y} hx hy h=>?_) O8
  have hx:=hlt x hx;have hy:=hlt y hy;unfold kE at h
  lia
 have hp:rs.Perm rs':=p1.trans p2.symm;have e:=PySem.W.lks_uniq (hp.map fun r=>lenOf ts r*1073741824+(r:Int)) (Yj lt pw) (Yj lt' Wg)
 refine List.ext_getElem hp.length_eq fun i a b=>?_
 have e1:=congrArg (fun l=>l[i]?) e
 rw[List.getElem?_map,List.getElem?_map,List.getElem?_eq_getElem a,List.getElem?_eq_getElem b]at e1;have e1:lenOf ts rs[i]*1073741824+(rs[i]:Int)=lenOf ts rs'[i]*1073741824+(rs'[i]:Int):=Option.some.inj e1;have b1:=lt _ (List.getElem_mem a);have b2:=lt' _ (List.getElem_mem b)
 lia
theorem Hq{p:Nat}{ts:List dJ}{g:aE p ts}{tr E2:List Hh}(lb:RM.LB g.N (aY ts) (tr.map (·.1)))(lb' : RM.LB g.N (aY ts) (E2.map (·.1)))(pw:(tr.map (·.1)).Pairwise (kE ts))(Wg:(E2.map (·.1)).Pairwise (kE ts))
 (lr:∃ bs,RM.CS g.N (aY ts) (g.N.aU.map fun c=>2^c) bs []/\(tr.map (·.1)).Perm bs) (Wh:∃ bs,RM.CS g.N (aY ts) (g.N.aU.map fun c=>2^c) bs []/\(E2.map (·.1)).Perm bs)
 (mk:tr.map (·.2.1)=(List.range (tr.map (·.1)).length).map (fun i=>orM (RM.cF (RM.fq (tr.map (·.1)) (tr.map (·.1)).length) i))) (mk' : E2.map (·.2.1)=(List.range (E2.map (·.1)).length).map (fun i=>orM (RM.cF (RM.fq (E2.map (·.1)) (E2.map (·.1)).length) i)))
 (al:∀ t∈tr,FZ p t.2.2/\lH p ts g t.2.1 t.2.2) (al' : ∀ t∈E2,FZ p t.2.2/\lH p ts g t.2.1 t.2.2):tr=E2:=by
 have Wi:tr.map (·.1)=E2.map (·.1):=vK lb lb' pw Wg lr Wh;have MJ:tr.map (·.2.1)=E2.map (·.2.1):=by rw[mk,mk',Wi]
 have hl:tr.length=E2.length:=by have:=congrArg List.length Wi;rw[List.length_map,List.length_map]at this;exact this
 refine List.ext_getElem hl fun i a b=>?_
 have x1:=congrArg (fun l=>l[i]?) Wi
 have x2:=congrArg (fun l=>l[i]?) MJ
 rw[List.getElem?_map,List.getElem?_map,List.getElem?_eq_getElem a,List.getElem?_eq_getElem b]at x1 x2;have x1:tr[i].1=E2[i].1:=Option.some.inj x1;have x2:tr[i].2.1=E2[i].2.1:=Option.some.inj x2;obtain⟨s1,w1⟩:=al _ (List.getElem_mem a);obtain⟨s2,w2⟩:=al' _ (List.getElem_mem b);rw[x2]at w1;exact Prod.ext x1 (Prod.ext x2 (DO s1 s2 w1 w2))
def DT(t:Hh):PyData:=.tuple [.int (t.1:Int),.int (t.2.1:Int),zH t.2.2]
theorem zJ{K:bK}{H:Hp}:∀{ys:List V} {tr:List Hh},Paired (rT H) ys tr->DatVs K H ys (tr.map DT)
 | _,_,.nil=>.nil
 | _,_,.cons h r=>by
   obtain⟨c,b,rfl,hc,hW⟩:=h;exact .cons (.tup (aP.of hc) (.cons (.int _) (.cons (.int _) (.cons (MP hW) .nil)))) (zJ r)
theorem E3:∀ tr:List Hh,PyData.canLayAll0 (tr.map DT)=true
 | []=>rfl
 | t::r=>by
   have ih:=E3 r;have e:(DT t).canLay0=true:=by simp[DT,PyData.canLay0,PyData.canLayAll0,MQ]
   simp only[List.map_cons,PyData.canLayAll0,ih,Bool.and_true,e]
theorem BN:∀ tr:List Hh,PyData.depthAll (tr.map DT)<=4
 | []=>Nat.zero_le _
 | t::r=>by
   have ih:=BN r;show max (PyData.depth (DT t)) (PyData.depthAll (r.map DT))<=4;have h:=K0 t.2.2;have e:PyData.depth (DT t)<=PyData.depth (zH t.2.2)+1:=by simp[DT,PyData.depth,PyData.depthAll]
   lia
theorem E4(tr:List Hh):(PyData.tuple (tr.map DT)).canLay0=true:=by
 have e:(PyData.tuple (tr.map DT)).canLay0=PyData.canLayAll0 (tr.map DT):=by simp[PyData.canLay0]
 rw[e,E3]
theorem vL(tr:List Hh):SeqAt.shaped (.tuple (tr.map DT))=true:=by
 unfold SeqAt.shaped;rw[E4,Bool.true_and];refine decide_eq_true ?_;have h:=BN tr;have e2:PyData.depth (PyData.tuple (tr.map DT))=PyData.depthAll (tr.map DT)+1:=by simp[PyData.depth]
 lia
theorem rY{K:bK}{H:Hp}:∀ l:List Int,DatVs K H (l.map V.int) (l.map PyData.int)
 | []=>.nil
 | x::r=>.cons (.int x) (rY r)
theorem lay_ints:∀ l:List Int,PyData.canLayAll0 (l.map PyData.int)=true
 | []=>rfl
 | x::r=>by
   have ih:=lay_ints r;have e:(PyData.int x).canLay0=true:=by simp[PyData.canLay0]
   simp only[List.map_cons,PyData.canLayAll0,ih,Bool.and_true,e]
theorem yf:∀ l:List Int,PyData.depthAll (l.map PyData.int)=0
 | []=>rfl
 | x::r=>by
   show max (PyData.depth (PyData.int x)) (PyData.depthAll (r.map PyData.int))=0;rw[yf r];rfl
theorem shaped_ints(l:List Int):SeqAt.shaped (.list (l.map PyData.int))=true:=by
 unfold SeqAt.shaped;have e:(PyData.list (l.map PyData.int)).canLay0=PyData.canLayAll0 (l.map PyData.int):=by simp[PyData.canLay0]
 rw[e,lay_ints,Bool.true_and];refine decide_eq_true ?_;have e2:PyData.depth (PyData.list (l.map PyData.int))=PyData.depthAll (l.map PyData.int)+1:=by simp[PyData.depth]
 rw[e2,yf]
 lia
theorem K8(l:List Int):(PyData.list (l.map PyData.int)).canLay0=true:=by
 have e:(PyData.list (l.map PyData.int)).canLay0=PyData.canLayAll0 (l.map PyData.int):=by simp[PyData.canLay0]
 rw[e,lay_ints]
def zK(K:bK)(tb:sN):Sp:=fun vs H Q _=>∃(a:Addr) (ns:List Int),vs=[.ref a]/\aO K H a (ns.map V.int)/\ns.length<=63/\TabsAt tb H/\∀ H',Q (.bl true) H'
theorem SS:Ok T T.Nv 12 (zK K [(a.gi,n8 "by_length",eW),(a.cG,n8 "least_ways",cj)]):=by
 have rX:=rX T;have mX:=mX T;have mY:=mY T;have dH:=dH T;have eK:=eK T;have iZ:=iZ T;have rV:=rV T;refine T.Nv.ok qX fun cdv A outer s H vs Q E hr h=>?_
 ·obtain⟨b,ns,rfl,hS,hn,hT,fin⟩:=h;have KH:=hT _ List.mem_cons_self;have Hx:=hT _ (List.mem_cons_of_mem _ List.mem_cons_self);refine⟨_,(ah (aI (i:=1) qX.nd rfl (Or.inr rfl) (aK rX hr T.rM.c aN (aa (pv 0) (aa ai (aa ai af)))))
   (ah (aI (i:=2) qX.nd rfl (Or.inl rfl) (aK iZ hr T.iW.c aN (aa (pv 1) af)))
   (ah (bF (PW.pt (gG (cZ (bM (aK mX hr T.mR.c aN (aa (pv 1) (aa (pv 2) af))))) (gG (cZ (bM (aK mY hr T.mS.c aN (aa (pv 1) (aa (pv 2) af))))) (fQ (aH (uf K hr.units) (aK iZ hr T.iW.c aN (aa (pv 1) af)) (pv 2) (aJ _)))))) (au (aB cS)) aR)
   (ah (eR (i:=3) qX.nd rfl rfl (own:=["triple"]) (frees:=["web"]) (js:=[1]) (az (aj A7) ["script","web","base","due","turn","found"]) rfl (LR K (pv 2)) (fun _ _ _ _=>(aX 0 (show(["triple","web"]:List Str).Nodup by decide +kernel))) (fun _ _ _ _=>bY) (fun _ _ _ _=>(aK dH hr T.jw.c aN (aa (pv 1) (aa (aG (bW K) (pv 0) ai) af)))))
   (ah (cK PassesOwn.never rfl (bf (by rfl) T.bV (aa ai af)) (aX 4 qX.nd)
   (ah (aI (i:=5) qX.nd rfl (Or.inl rfl) (aK rV hr T.rK.c aN (aa (pv 1) af)))
   (ah (bF (PW.pt (gG (cZ (bM (aF (z8 K) (by rfl) T.cX PyProof.Rows.boot_isinstance (aa (pv 5) (aa (r9 (by rfl) T.Dv PyProof.Rows.boot_list) af))))) (fQ (aH (uf K hr.units) (pv 5) (pv 3) (aJ _))))) (au (aB cS)) aR)
   (ah (bF (aH nK (aF (ez K) (by rfl) T.b8 PySem.boot_len (aa (bx (own:=["one"]) (frees:=[]) (js:=[]) (az (aj A7) ["script","web","base","due","turn","found"]) rfl (nX K (pv 5)) (fun _ _ _ _=>(aX 0 (show(["one"]:List Str).Nodup by decide +kernel))) (fun _ _ _ _=>(cR (cZ (bM (aK eK hr T.iD.c aN (aa (pv 0) af)))))) (fun _ _ _ _=>(pv 0))) af)) ai (aJ _)) (au (aB cS)) aR)
   (au (dW (JZ K (lZ PySem.F.plainAttrs_list PySem.F.slot_list_append PySem.F.type_list_append c8 (pv 5) (aa ai af)))))))))
   (au (aB cS))))))),?_⟩
  refine Pc ?_;intro cA cP dm eO fF lN sE xZ x6 x8 mG lR;refine(ao rfl ⟨b,ns,10,5,rfl,hS,hn,by decide,fun wb p ts H1 s1 g p2 p6 t10 hw=>?_⟩)
  have Wj:=s1 _ _ Hx;have htb:=s1 _ _ KH;refine(ao rfl ⟨wb,p,ts,g,rfl,hw,Wj,htb,fun bb ys tr H2 hbn s2 BV K7 lb pw mo al lr mk=>?_⟩)
  have SO:=K7.length;have Ui:tr.length=g.N.aU.length:=by rw[<-lb.1.len,List.length_map]
  have Wm:tr.length<=24:=by
   have h1:g.N.aU.length<=(List.range g.N.n).length:=List.length_filter_le ..;rw[List.length_range]at h1;have h2:g.N.n=ts.length:=rfl
   lia
  have Yk:∀ t∈tr,t.1<2^ts.length:=fun t ht=>(lb.1.ring t.1 (List.mem_map.mpr ⟨t,ht,rfl⟩)).2
  have mgs:∀ t∈tr,t.2.1<2^ts.length:=fun t ht=>by
   obtain⟨i,hi⟩:=List.getElem?_of_mem ht;exact(mo.2 i t.2.1 (by rw[List.getElem?_map,hi];rfl)).1
  refine(ao rfl (ao rfl ⟨wb,p,ts,g,bb,ys,tr,rfl,hw.same s2,BV,K7,Ui,fun t ht=>⟨Yk t ht,mgs t ht,(al t ht).1⟩,fun H3 s3=>(ao rfl (cC ?_))⟩))
  have EU:=s2.trans s3;refine(ao rfl (ao rfl ⟨wb,p,ts,g,bb,ys,tr,rfl,hw.same EU,s3 _ _ BV,Paired.imp' (fun _ _ z=>rT.tups s3.tups z) K7,lb,pw,mo,al,fun H4 s4=>(ao rfl (cC ?_))⟩))
  have PV:=EU.trans s4;refine(ao rfl ⟨wb,p,ts,g,rfl,hw.same PV,PV _ _ Wj,PV _ _ htb,fun bb2 ys2 MV H5 abi s5 Wn Wo lb2 pw2 mo2 al2 lr2 mk2=>?_⟩)
  have Uk:=PV.trans s5;have Wq:=(s3.trans s4).trans s5;obtain rfl:MV=tr:=Hq lb2 lb pw2 pw lr2 lr mk2 mk al2 al;have SV:=Paired.imp' (fun _ _ z=>rT.tups Wq.tups z) K7
  refine(ao rfl ⟨_,_,.tup (aP.of Wn) (zJ Wo),.tup (aP.of (Wq _ _ BV)) (zJ SV),vL _,vL _,_,rfl,?_⟩);rw[SeqAt.eqv_refl _ (E4 _)];refine cC ?_;have SW:=Wq _ _ BV;refine(ao rfl ⟨bb,rfl,⟨_,aP.of SW⟩,fun X hX=>o9 (K:=K) (a:=bb) (xs:=ys) (fun i acc H6=>av H5 H6/\H6 X=some (.lst acc)/\acc=((MV.take i).map fun t=>lenOf ts t.1).map V.int) ⟨av.new hX,ae,rfl⟩ (fun i acc H6 _ z=>⟨aP.of (z.1 _ _ SW),z.2.1,by rw[z.2.2,List.length_map,List.length_map,List.length_take];lia⟩) (bU (by lia)) ?_ ?_⟩)
  ·rintro i x acc H6 hx ⟨s6,DK,rfl⟩;obtain⟨t,hti,c,b',rfl,hc,_⟩:=Paired.kc SV hx;have hc6:=s6 _ _ hc;refine⟨rfl,ao rfl (ao rfl (bX (aP.of hc6) (ak (j:=0) rfl) ⟨wb,p,ts,g,_,t.1,rfl,rfl,hw.same (Uk.trans s6),Yk t (List.mem_of_getElem? hti),fun H7 s7=>⟨s7 _ _ DK,(s6.trans s7).put hX,ae,?_⟩⟩))⟩
   rw[List.take_add_one,hti];show _=List.map V.int (List.map _ (List.take i MV++[t]));rw[List.map_append,List.map_append];rfl
  rintro acc H6 ⟨s6,DK,rfl⟩;rw[SO,List.take_length]at DK;have SR:=Uk.trans s6;have Wr:(MV.map fun t=>lenOf ts t.1)=(MV.map (·.1)).map (lenOf ts):=by rw[List.map_map];rfl
  rw[Wr]at DK;refine(ao rfl ⟨(by decide),(by decide),?_⟩)
  refine c5 (lo:=0) (n:=(2:Int).toNat) (fun i σ H7=>∃ v4 v5,σ=[some (.ref b),some (.ref wb),some (.ref bb),some (.ref X),v4,v5]/\av H1 H7/\H7 X=some (.lst (((MV.map (·.1)).map (lenOf ts)).map V.int))) ⟨none,none,rfl,SR,DK⟩ ?_ ?_
  ·rintro i D' σ H7 hi ⟨v4,v5,rfl,s7,Qy⟩;refine(ao rfl ⟨wb,p,ts,g,rfl,hw.same s7,s7 _ _ Wj,s7 _ _ htb,fun D rs H8 hD s8 xh lb8 pw8 lr8=>?_⟩)
   obtain rfl:rs=MV.map (·.1):=vK lb8 lb pw8 pw lr8 lr;have PD:=s8 _ _ Qy;have hDX:X≠D:=fun z=>by rw[<-z,Qy]at hD;cases hD
   have qL:H1 D=none:=s7.free hD;refine(ao rfl ⟨_,_,_,_,_,rfl,rfl,.lst xh,Og K,_,rfl,cC ?_⟩);refine(ao rfl (ao rfl ⟨_,_,.lst (aO.of xh) (rY _),.lst (aO.of PD) (rY _),shaped_ints _,shaped_ints _,_,rfl,?_⟩));rw[SeqAt.eqv_refl _ (K8 _)];refine cC ?_;have SX:((MV.map (·.1)).map (lenOf ts)).length<=24:=by rw[List.length_map,List.length_map];exact Wm
   have Ws:=PD;generalize (MV.map (·.1)).map (lenOf ts)=zs at xh SX;refine(ao rfl ⟨D,rfl,⟨_,aO.of xh⟩,fun D2 jx=>bj (K:=K) (a:=D) (xs:=zs.map V.int) (fun i acc H9=>av H8 H9/\H9 D2=some (.lst acc)/\acc=[]) ⟨av.new jx,ae,rfl⟩ (fun i acc H9 _ z=>⟨aO.of (z.1 _ _ xh),z.2.1,by rw[z.2.2];exact Nat.zero_le _⟩) (bU (by rw[List.length_map];exact SX)) ?_ ?_⟩)
   ·rintro n y acc H9 hy ⟨s9,PU,rfl⟩;obtain⟨x,_,rfl⟩:=List.mem_map.mp (List.mem_of_getElem? hy);exact⟨rfl,ao rfl (ao rfl (ao rfl ⟨s9,PU,rfl⟩))⟩
   rintro acc H9 ⟨s9,PU,rfl⟩;refine(lJ rfl (.inl (aO.of PU)) (b7 (ao rfl (jh (fun z=>absurd (of_decide_eq_true z) (by decide)) (fun _=>?_)))))
   have SY:=s9 _ _ xh;have hbig:(100:Nat)<sizeLine:=by decide
   refine(ao rfl ⟨(.inl ⟨rfl,_,aO.of SY⟩),D,_,_,rfl,rfl,SY,(by rw[List.length_map];lia),?_⟩)
   exact⟨_,_,rfl,((s7.trans s8).trans s9).put qL,by rw[aq hDX];exact s9 _ _ Ws⟩
  ·rintro σ H7 ⟨v4,v5,rfl,s7,_⟩;exact fin _
end
section
variable {l:PySem.W.OpenLaw}{w:World}{K:bK}{h:Heap}{mg:lT}{fa f0 f1 f2 f3 f4 f5 f6 f7 f8 f9 Yl Ym Yn Yo Yp Yq Yr Ys Yt Yu Yv Yw Yx Yy Yz YA YB YC YD YE YF YG f32 YH YI YJ YK YL YM YN YO YQ YR YS YT YU YV YW YX YY YZ Y0 Y3 Y4 Y5 Y6 Y7 Y8 Y9 Za Zb f61 vM vN rZ vO qg fg nS dR:Addr}{d0 d1 d2 d3 d4 d5 d6 d7 d8 d9 d10 d11 d12 d13 d14 d15 d16 d17 d18 d19 d20 d21 d22 d23 d24 d25 d26 d27 d28 d29 d30 d31 d32 d33 d34 d35 d36 d37 d38 d39 d40 d41 d42 d43 d44 d45 d46 d47 d48 d49 d50 d51 d52 d53 d54 d55 d56 d57 d58 d59 d60 d61:FuncData}{ts:List Addr}
open PySem.W
theorem all_mk(X:K.In h)(G:h.Ns mainGlobals mg)(hfa:mg "law"=some (.ref fa))(te:ts=[fg,dR])
 (d_BadSet:nsIn K mainGlobals "BadSet"=some (some (.ref vM)))
 (d_BadPoint:nsIn K mainGlobals "BadPoint"=some (some (.ref vN)))
 (d_NoChord:nsIn K mainGlobals "NoChord"=some (some (.ref rZ)))
 (d_NoBase:nsIn K mainGlobals "NoBase"=some (some (.ref vO)))
 (xc_BadSet:excIn K vM [.type "ValueError",.type "Exception",.type "BaseException",.type "object"] "ValueError.__new__"=true)
 (xc_NoChord:excIn K rZ [.type "ValueError",.type "Exception",.type "BaseException",.type "object"] "ValueError.__new__"=true)
 (xc_NoBase:excIn K vO [.type "ValueError",.type "Exception",.type "BaseException",.type "object"] "ValueError.__new__"=true)
 (nt:noTabs K=true) (pn:([fg,dR]:List Addr).Nodup) (pi:∀ p∈([fg,dR]:List Addr),p∈ts)
 (a0:Dk K "has_tie" qM f0 d0)
 (a1:Dk K "ties_in" nh f1 d1)
 (a2:Dk K "set_of" vf f2 d2)
 (a3:Dk K "all_ties" oh f3 d3)
 (a4:Dk K "is_set" vg f4 d4)
 (a5:Dk K "check_set" mE f5 d5)
 (a6:Dk K "triples_in" iQ f6 d6)
 (a7:Dk K "length_of" jF f7 d7)
 (a8:Dk K "odd_points" iR f8 d8)
 (a9:Dk K "drawn_together" eV f9 d9)
 (VD:Dk K "pieces" pR Yl d10)
 (VE:Dk K "rank" CY Ym d11)
 (VF:Dk K "is_even" qN Yn d12)
 (a13:Dk K "forest_trails" fL Yo d13)
 (a14:Dk K "forest" vh Yp d14)
 (a15:Dk K "chords" vj Yq d15)
 (a16:Dk K "ring_closed" jR Yr d16)
 (a17:Dk K "chord_ring" kP Ys d17)
 (a18:Dk K "is_ring" nk Yt d18)
 (a19:Dk K "is_ring_number" gY Yu d19)
 (Zc:Pa K "by_length" jG Yv d20 qg fg)
 (a21:Dk K "common" vn Yw d21)
 (a22:Dk K "bears_oddly" jS Yx d22)
 (a23:Dk K "is_side" qP Yy d23)
 (a24:Dk K "cut_of" pV Yz d24)
 (a25:Dk K "side_of" nq YA d25)
 (a26:Dk K "steps_by_point" eX YB d26)
 (Zd:Pa K "least_ways" gz YC d27 nS dR)
 (a28:Dk K "length_of_way" iI YD d28)
 (a29:Dk K "worths_of_ways" eY YE d29)
 (a30:Dk K "all_least_ways" eZ YF d30)
 (a31:Dk K "worths_of_all" fM YG d31)
 (a32:Dk K "worths_for" kT f32 d32)
 (a33:Dk K "least_odd" jH YH d33)
 (a34:Dk K "reduced" qS YI d34)
 (a35:Dk K "with_row" om YJ d35)
 (a36:Dk K "rows_of" qT YK d36)
 (a37:Dk K "is_base" nu YL d37)
 (a38:Dk K "marks_for" jI YM d38)
 (a39:Dk K "least_rings" fJ YN d39)
 (a40:Dk K "least_base" iT YO d40)
 (a41:Dk K "lengths" nv YQ d41)
 (a42:Dk K "_law_cell_at" jU YR d42)
 (a43:Dk K "_law_mixed" mJ YS d43)
 (a44:Dk K "_law_length" kX YT d44)
 (a45:Dk K "_law_tie" qU YU d45)
 (a46:Dk K "_law_web" g7 YV d46)
 (a47:Dk K "_law_whole" mK YW d47)
 (a48:Dk K "_law_counts" kZ YX d48)
 (a49:Dk K "_law_pieces" gA YY d49)
 (a50:Dk K "_law_rank" oq YZ d50)
 (a51:Dk K "_law_ring" jt Y0 d51)
 (a52:Dk K "_law_long" k6 Y3 d52)
 (a53:Dk K "_law_odd" qV Y4 d53)
 (a54:Dk K "_law_added" mL Y5 d54)
 (a55:Dk K "_law_chosen" iU Y6 d55)
 (a56:Dk K "_law_pair_fits" iJ Y7 d56)
 (a57:Dk K "_law_worths_stand" fT Y8 d57)
 (a58:Dk K "_law_least_shown" gB Y9 d58)
 (a59:Dk K "_law_kinds" gh Za d59)
 (a60:Dk K "_law_right" eI Zb d60)
 (Wu:Dk K "law" A7 f61 d61)
 (zL:Ng K "ValueError")
 (S0:Ng K "abs")
 (S3:Ng K "all")
 (PY:Ng K "bool")
 (BO:Ng K "enumerate")
 (S4:Ng K "int")
 (zM:Ng K "isinstance")
 (S5:Ng K "len")
 (P0:Ng K "list")
 (S6:Ng K "max")
 (S7:Ng K "min")
 (MW:Ng K "range")
 (S8:Ng K "set")
 (K9:Ng K "sorted")
 (S9:Ng K "sum")
 (MX:Ng K "tuple")
 (Tc:Ng K "zip")
 : ∃(fd:FuncData) (tb:sN),((tb.map (·.1)).Nodup/\noTabs K=true/\∀ p∈tb,p.1∈ts/\∃ c,codeHdIn K c p.1=true)/\(∀(s:Shared) (v:Value),BindsTo s fd ⟨[v],[]⟩ [("script",v)])/\∀ base:Heap,K.In base->base.Ns mainGlobals mg->lX l.prog w K mg base Eg 12 fa fd ["script"] (zK K tb):=by
 have e:=hfa.symm.trans (mg_of X G Wu.n);cases e;have T:∀ base,Txt l.prog w base K mg ⟨f0,_,f1,_,f2,_,f3,_,f4,_,f5,_,f6,_,f7,_,f8,_,f9,_,Yl,_,Ym,_,Yn,_,Yo,_,Yp,_,Yq,_,Yr,_,Ys,_,Yt,_,Yu,_,Yv,_,Yw,_,Yx,_,Yy,_,Yz,_,YA,_,YB,_,YC,_,YD,_,YE,_,YF,_,YG,_,f32,_,YH,_,YI,_,YJ,_,YK,_,YL,_,YM,_,YN,_,YO,_,YQ,_,YR,_,YS,_,YT,_,YU,_,YV,_,YW,_,YX,_,YY,_,YZ,_,Y0,_,Y3,_,Y4,_,Y5,_,Y6,_,Y7,_,Y8,_,Y9,_,Za,_,Zb,_,fa,_,vM,vN,rZ,vO,qg,fg,nS,dR⟩:=fun _=>⟨lS X G a0,AZ X G a1,lS X G a2,AZ X G a3,lS X G a4,lS X G a5,lS X G a6,lS X G a7,lS X G a8,Qi X G a9,lS X G VD,AZ X G VE,lS X G VF,AZ X G a13,AZ X G a14,AZ X G a15,Qi X G a16,lS X G a17,lS X G a18,lS X G a19,dl2 X G Zc,lS X G a21,lS X G a22,lS X G a23,lS X G a24,lS X G a25,lS X G a26,dl3 X G Zd,AZ X G a28,AZ X G a29,lS X G a30,AZ X G a31,lS X G a32,lS X G a33,lS X G a34,lS X G a35,AZ X G a36,lS X G a37,lS X G a38,AZ X G a39,AZ X G a40,AZ X G a41,lS X G a42,lS X G a43,lS X G a44,Qi X G a45,Qi X G a46,AZ X G a47,lS X G a48,lS X G a49,AZ X G a50,lS X G a51,lS X G a52,lS X G a53,lS X G a54,AZ X G a55,Qi X G a56,Qi X G a57,dn4 X G a58,lS X G a59,lS X G a60,AZ X G Wu,mg_none_of X G zL.n,mg_none_of X G S0.n,mg_none_of X G S3.n,mg_none_of X G PY.n,mg_none_of X G BO.n,mg_none_of X G S4.n,mg_none_of X G zM.n,mg_none_of X G S5.n,mg_none_of X G P0.n,mg_none_of X G S6.n,mg_none_of X G S7.n,mg_none_of X G MW.n,mg_none_of X G S8.n,mg_none_of X G K9.n,mg_none_of X G S9.n,mg_none_of X G MX.n,mg_none_of X G Tc.n,mg_of X G d_BadSet,mg_of X G d_BadPoint,mg_of X G d_NoChord,mg_of X G d_NoBase,fun h1 X1 G1=>Ck X1 G1 d_BadSet xc_BadSet,fun h1 X1 G1=>Ck X1 G1 d_NoChord xc_NoChord,fun h1 X1 G1=>Ck X1 G1 d_NoBase xc_NoBase⟩
 exact⟨_,[(fg,n8 "by_length",eW),(dR,n8 "least_ways",cj)],⟨pn,nt,fun p hp=>⟨pi _ (List.mem_map_of_mem (f:=(·.1)) hp),by simp only[List.mem_cons,List.not_mem_nil,or_false]at hp;rcases hp with rfl | rfl;all_goals first | exact⟨_,Zc.F.hd⟩ | exact⟨_,Zd.F.hd⟩⟩⟩,Pb Wu,fun base _ _=>SS (T base)⟩
end
theorem walk{l:PySem.W.OpenLaw}{q:Program}{loose:List Str}{XP:(Str->Option Value)->Heap->Prop}{YP:World->Heap->Prop}{d:DefRec}{K:Params->bK}{ts:List Addr}(hn:l.most=some 63)(Q8:d.params.defaults=[])
 (hY:∀(w:World) (h:Heap),YP w h->(K w.params).In h/\∀ P∈ts,h.get? P=some (PySem.W.tabObj #[]))
 (F:∀(w:World) (mg:lT) (fa:Addr) (h:Heap),(K w.params).In h->h.Ns mainGlobals mg->mg d.name=some (.ref fa)->
  ∃(fd:FuncData) (tb:sN),((tb.map (·.1)).Nodup/\PySem.W.noTabs (K w.params)=true/\∀ p∈tb,p.1∈ts/\∃ c,PySem.W.codeHdIn (K w.params) c p.1=true)/\(∀(s:Shared) (u:Value),BindsTo s fd ⟨[u],[]⟩ [("script",u)])/\∀ base:Heap,(K w.params).In base->base.Ns mainGlobals mg->lX l.prog w (K w.params) mg base Eg 12 fa fd ["script"] (zK (K w.params) tb)) :
 PySem.W.WalkO q loose XP YP l.row.toRowW d [] (fun f vs=>PySem.call f vs) :=
 L2.JO (n:=63) (k:=12) (x:="script") (CX:=fun _=>Eg) (sp:=fun w=>zK (K w.params)) hn (by decide) Q8 ⟨rfl,by decide,by decide⟩ hY F (fun _ _ a ns tb hl hT hS=>⟨a,ns,rfl,hS,hl,hT,fun _=>rfl⟩) fun _ _ _ _ _ z=>z
end K28
namespace PySem.W.Fast
def tw4109223052196157311:=()
def tw10592149184950379383:=()
def tw14111637937579952298:=()
def tw5322609409788263173:=()
def tw12449291624497970688:=()
def tw17504486015589885210:=()
def tw3477330653538035447:=()
def tw11956174461124389450:=()
def tw4818315607379619961:=()
def tw9268834212782037371:=()
def tw12199326379827866437:=()
def tw5528926031364364294:=()
def tw9114027820399870301:=()
def tw12682361120779216736:=()
def tw2854172781541529552:=()
def tw11580382116307337340:=()
def tw8997783068411249954:=()
def tw11931293423901017322:=()
def tw17637653163729574544:=()
def tw5922945438819656347:=()
def tw10599062380080746293:=()
def tw7927325583597059697:=()
def tw4062977007178626731:=()
def tw13806631553797163395:=()
def tw12239655023086416334:=()
def tw11594628925585376938:=()
def tw13730850473897448382:=()
def tw2491807990809226411:=()
def tw14780304262900670459:=()
def tw1312274602632874433:=()
def tw9272358090149476714:=()
def tw8780799997505436507:=()
def tw4156669331849784575:=()
def tw12525202525020555532:=()
def tw17195380310299600784:=()
def tw8875110014317878447:=()
def tw1448182294709087928:=()
def tw16134125756280454595:=()
def tw17809125149002103383:=()
def tw11701952875063575475:=()
def tw3830375178332225468:=()
def tw11989729424660715318:=()
def tw12645683633732992970:=()
def tw10970763101620213238:=()
def tw11917346738512184677:=()
def tw6109284265303864642:=()
def tw5595129217064439211:=()
def tw120805375353834644:=()
def tw8791970597407817692:=()
def tw4033361888943355623:=()
def tw9133623627429945792:=()
def tw320611172522261462:=()
def tw16727752385712060721:=()
def tw3758935788358380341:=()
def tw16234952989125200443:=()
def tw8402815856426077440:=()
def tw13149131592782469963:=()
def tw7722576512228629812:=()
def tw16802511356482987474:=()
def tw13765979449620537315:=()
def tw5665624581405618278:=()
def tw241994318596180342:=()
def tw10822735947193274930:=()
def tw16195280879432609781:=()
def tw2708875842233530483:=()
def tw692510465825427561:=()
def tw10488474580201987575:=()
def tw10730371063038412678:=()
def tw1634883029670848784:=()
def tw8227621759572075397:=()
def tw5407367404603160559:=()
def tw10112038792947779771:=()
def tw16284265877451233952:=()
def tw14152892949879148577:=()
def tw5787930259956657103:=()
def tw16508542668346865910:=()
def tw13137278254794962422:=()
def tw6807651205842637242:=()
def tw1520962150699404518:=()
def tw8964064185369621878:=()
def tw12904429879391973778:=()
def tw562228120915759400:=()
def tw5682298357863207202:=()
def tw7951612363105071642:=()
def tw2246095431756796028:=()
def tw13240462948226538692:=()
def tw7093234798474357493:=()
def tw13577308155964212124:=()
def tw16097741740025492091:=()
def tw4691745440467457991:=()
def tw12158307361797686600:=()
def tw10986934067910743804:=()
end PySem.W.Fast
open PySem PySem.W PyProof.Rows
set_option maxRecDepth 100000 in
set_option maxHeartbeats 0 in
theorem PySem.Challenge.cw_ringbase_k28_least_bases_told_holds : PySem.Challenge.rw_ringbase_k28_least_bases_told.Holds := by
 w_on;o_law;k_head;(case hw=>w_witness2)
 k_fill
 refine K28.walk (l:=PySem.Challenge.rw_ringbase_k28_least_bases_told) rfl rfl (fun w h Y=>⟨PySem.W.km_in_of Y,PySem.W.km_tabs_of Y⟩) ?F
 case F =>
  intro w mg fa h KX G hmg;refine' K28.all_mk KX G hmg ?te ?d_BadSet ?d_BadPoint ?d_NoChord ?d_NoBase ?xc_BadSet ?xc_NoChord ?xc_NoBase ?nt ?pn ?pi ..
  (case te=>exact rfl)
  (case d_BadSet=>k_is)
  (case d_BadPoint=>k_is)
  (case d_NoChord=>k_is)
  (case d_NoBase=>k_is)
  any_goals (refine' L2.dk ?ga ?gl ?gc ?gk;(case ga=>k_is);(case gl=>k_is);(case gc=>k_is);(case gk=>k_is))
  any_goals (refine' L2.dkL ?ga ?gl ?gc ?gk ?gd;(case ga=>k_is);(case gl=>k_is);(case gd=>kernel_rfl);(case gc=>k_is);(case gk=>k_is))
  any_goals (refine' L2.Ng.mk ?ga;(case ga=>k_is))
  (case xc_BadSet=>k_exc)
  (case xc_NoChord=>k_exc)
  (case xc_NoBase=>k_exc)
  (case nt=>kernel_rfl)
  (case pn=>decide)
  (case pi=>decide)
