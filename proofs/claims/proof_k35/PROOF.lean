import PyProof.Rows.All
import Wide.All
import OpenK.AllK
import Wide.FinOn
import Lean
import PyProof.EqAt
import PyProof.EqKinds
import PyProof.TupleCall
import PySem.Challenge.RW_ringbase_k35_papers_of_rings
set_option Elab.async false
set_option linter.all false
set_option maxRecDepth 100000
abbrev cU:=@decide_eq_true
abbrev ff:=@decide_eq_false
abbrev i6:=@of_decide_eq_true
abbrev oU:=@List.mem_append_right
abbrev lU:=@List.mem_cons_of_mem
abbrev nv:=@List.mem_of_getElem?
abbrev Hx:=@Bool.eq_false_iff
abbrev ny:=@List.getElem?_eq_some_iff
abbrev Ac:=@Option.map_eq_some_iff
abbrev Kf:=@List.mem_append_left
abbrev aW:=List (PySem.Addr×PySem.Obj)
abbrev ig:=PySem.Value->PySem.Shared->Prop
abbrev kX:=PySem.Str->Option PySem.Value
abbrev bO:=PySem.W.Frag
namespace L2
open PySem PySem.Spec PyProof.Rows
abbrev dB:=@wpAny_bind
abbrev Key:=Sum Int Str
def Hy:Key->Value->Bool
 | .inl k,v=>Value.isInt k v
 | .inr x,v=>Value.isStrOf x v
def Nu(w:World):Key->Int
 | .inl k=>hashInt k
 | .inr x=>hashStr w x
theorem cO:∀{k:Key} {v:Value},Hy k v=true->(∃ i t,k=Sum.inl i/\v=Value.int i t)\/(∃ x t,k=Sum.inr x/\v=Value.str x t)
 | .inl i,v,h=>by
   obtain⟨t,e⟩:=Value.isInt_shape (k:=i) (v:=v) h;exact .inl ⟨i,t,rfl,e⟩
 | .inr x,v,h=>by
   obtain⟨t,e⟩:=Value.isStrOf_shape (x:=x) (v:=v) h;exact .inr ⟨x,t,rfl,e⟩
theorem Ip(a b:Int):decide ((Sum.inl a:Key)=Sum.inl b)=(a==b):=by
 by_cases e:a=b
 ·subst e;simp
 ·have h : ¬(Sum.inl a:Key)=Sum.inl b:=fun q=>e (Sum.inl.inj q)
  rw[ff h];exact(beq_eq_false_iff_ne.mpr e).symm
theorem Iq(a b:Str):decide ((Sum.inr a:Key)=Sum.inr b)=decide (a=b):=by
 by_cases e:a=b
 ·subst e;simp
 ·have h : ¬(Sum.inr a:Key)=Sum.inr b:=fun q=>e (Sum.inr.inj q)
  rw[ff h,ff e]
theorem Ir(a:Int)(b:Str):decide ((Sum.inl a:Key)=Sum.inr b)=false:=ff (fun q=>nomatch q)
theorem Iu(a:Str)(b:Int):decide ((Sum.inr a:Key)=Sum.inl b)=false:=ff (fun q=>nomatch q)
def Ad(prog:Program)(w:World):PySem.KeyKind prog w Key where
 is:=Hy
 hash:=Nu w
 inj:=fun v a b ha hb=>by
  rcases cO ha with⟨i,t,rfl,rfl⟩|⟨x,t,rfl,rfl⟩
  ·rcases cO hb with⟨j,u,rfl,e⟩|⟨y,u,rfl,e⟩
   ·injection e with e1 _;rw[e1]
   ·exact nomatch e
  ·rcases cO hb with⟨j,u,rfl,e⟩|⟨y,u,rfl,e⟩
   ·exact nomatch e
   ·injection e with e1 _;rw[e1]
 byValue:=fun k v h=>by
  rcases cO h with⟨i,t,rfl,rfl⟩|⟨x,t,rfl,rfl⟩<;>rfl
 pyHash:=fun hv h=>by
  rcases cO hv with⟨i,t,rfl,rfl⟩|⟨x,t,rfl,rfl⟩
  ·exact wpAny_pyHash_int h
  ·exact wpAny_pyHash_str h
 eqBool:=fun hu hv h=>by
  rcases cO hu with⟨i,t,rfl,rfl⟩|⟨x,t,rfl,rfl⟩
  ·rcases cO hv with⟨j,u,rfl,rfl⟩|⟨y,u,rfl,rfl⟩
   ·rw[Ip]at h;exact wpAny_eqBool_int h
   ·rw[Ir]at h;exact SeqAt.EqAt.int_str i t y u _ _ _ _ h
  ·rcases cO hv with⟨j,u,rfl,rfl⟩|⟨y,u,rfl,rfl⟩
   ·rw[Iu]at h;exact SeqAt.EqAt.str_int x t j u _ _ _ _ h
   ·rw[Iq]at h;exact wpAny_eqBool_str h
 «strs»:=fun k x t v h=>by
  rcases cO h with⟨i,u,rfl,e⟩|⟨y,u,rfl,e⟩
  ·exact nomatch e
  ·injection e with e1 _
   subst e1;cases v<;>rfl
inductive V where
 | fL | bl (b:Bool) | int (i:Int) | str (x:Str) | De (b:Array UInt8) | Kg (b:UInt64) | ref (a:Addr) | ty (n:String)
 deriving DecidableEq
def RelV:V->Value->Prop
 | .fL,u=>u=Value.none
 | .bl b,u=>u=Value.bool b
 | .int i,u=>∃ t,u=Value.int i t
 | .str x,u=>∃ t,u=Value.str x t
 | .De b,u=>∃ t,u=Value.bytes b t
 | .Kg b,u=>∃ t,u=Value.float b t
 | .ref a,u=>u=Value.ref a
 | .ty n,u=>u=Value.type n
abbrev Vals:List V->List Value->Prop:=Paired RelV
theorem Vals.length{xs:List V}{us:List Value}(r:Vals xs us):xs.length=us.length:=Paired.length r
theorem Vals.get:∀{xs:List V} {us:List Value} {i:Nat} {x:V},Vals xs us->xs[i]?=some x->∃ u,us[i]?=some u/\RelV x u
 | _,_,_,_,.nil,e=>by simp at e
 | _,_,0,_,.cons r _,e=>by simp at e;subst e;exact⟨_,rfl,r⟩
 | _,_,i+1,x,.cons _ t,e=>by
   obtain⟨u,h1,h2⟩:=Vals.get (i:=i) (x:=x) t (by simpa using e)
   exact⟨u,by simpa using h1,h2⟩
theorem Vals.set{x:V}{u:Value}(r:RelV x u):∀{xs:List V} {us:List Value} (i:Nat),Vals xs us->Vals (xs.set i x) (us.set i u)
 | _,_,_,.nil=>.nil
 | _,_,0,.cons _ t=>.cons r t
 | _,_,i+1,.cons q t=>.cons q (Vals.set r i t)
theorem Vals.append:∀{xs ys:List V} {us ws:List Value},Vals xs us->Vals ys ws->Vals (xs++ys) (us++ws)
 | _,_,_,_,.nil,s=>s
 | _,_,_,_,.cons r t,s=>.cons r (Vals.append t s)
theorem Vals.take:∀{xs:List V} {us:List Value} (n:Nat),Vals xs us->Vals (xs.take n) (us.take n)
 | _,_,0,_=>.nil
 | _,_,_+1,.nil=>.nil
 | _,_,n+1,.cons r t=>.cons r (Vals.take n t)
theorem Vals.drop:∀{xs:List V} {us:List Value} (n:Nat),Vals xs us->Vals (xs.drop n) (us.drop n)
 | _,_,0,r=>r
 | _,_,_+1,.nil=>.nil
 | _,_,n+1,.cons _ t=>Vals.drop n t
def Iv:Option V->Option Value->Prop
 | some v,some u=>RelV v u
 | none,none=>True
 | _,_=>False
def KV{κ:Type}:List (κ×V)->List (κ×Value)->Prop:=Paired fun(p:κ×V) (q:κ×Value)=>p.1=q.1/\RelV p.2 q.2
def kV:Key->V
 | .inl i=>.int i
 | .inr x=>.str x
inductive HO where
 | lst (xs:List V)
 | tup (xs:List V)
 | dK (kvs:List (Key×V)) | dT (kvs:List (List Key×V))
 | set (S:Int->Bool) (n:Nat)
 | ins (C dx:Addr) (fs:List (Str×V))
 | own (x:Addr)
 | xd (fs:List (Str×V))
 | met (f x:Addr)
 | Bb (lo hi:Int)
 | pY (o:Obj) (u:HO)
 | kQ (ps:Array Value)
 | ext (φ:Heap->Prop)
abbrev Hp:=Addr->Option HO
def upd(H:Hp)(a:Addr)(o:HO):Hp:=fun b=>if b=a then some o else H b
theorem af{H:Hp}{a:Addr}{o:HO}:upd H a o a=some o:=by unfold upd;rw[if_pos rfl]
theorem av{H:Hp}{a b:Addr}{o:HO}(h:b≠a):upd H a o b=H b:=by unfold upd;rw[if_neg h]
theorem dm{H:Hp}{a b:Addr}{o u:HO}(h:H a=some o)(h' : H b=some u)(d:o≠u):a≠b:=by
 intro e;subst e;rw[h]at h';exact d (Option.some.inj h')
theorem bf{H:Hp}{a b:Addr}{o:HO}(h:H a=some o)(h' : H b=none):a≠b:=by
 intro e;subst e;rw[h]at h';cases h'
def F3(qs:Array Value):Str:=match (qs[0]?:Option Value) with | some (Value.str q _)=>q | _=>""
section
variable (P:Program)(w:World)
def bN(H:Hp)(h:Heap)(a:Addr):HO->Prop
 | .lst xs=>xs.length<=sizeLine/\∃(its:List Value) (n:Nat),Vals xs its/\h.get? a=some { cls:=.type "list",data:=.seq its.toArray n}
 | .tup xs=>xs.length<=sizeLine/\∃ its:List Value,Vals xs its/\IsTup h a its.toArray
 | .dK kvs=>kvs.length<=sizeLine/\(a==sysModules)=false/\∃ vs,KV kvs vs/\h.DictOf (Ad P w) a vs
 | .dT kvs=>kvs.length<=sizeLine/\(a==sysModules)=false/\∃ xs:List (List Key×Addr×Value),
  Paired (fun(p:List Key×V) (q:List Key×Addr×Value)=>p.1=q.1/\H q.2.1=some (.tup (p.1.map kV))/\RelV p.2 q.2.2) kvs xs/\
  ∃ o es ep,h.get? a=some o/\o.ExactDict/\o.data = .dict es ep/\es.toList=xs.map (entryOfKey (tupleKind (Ad P w)))/\(xs.map (·.1)).Nodup
 | .set S n=>h.SetOf (intKind P w) a S n
 | .ins C dx fs=>H dx=some (.own a)/\fs.length<=1000/\dx≠a/\h.get? a=some (PySem.W.instObj C dx)/\
  ∃ mA,h.Ns1 dx mA/\(∀ f,Iv (fs.lookup f) (mA f))/\PySem.Within mA (fs.map (·.1))
 | .own _=>∃ o,h.get? a=some o
 | .xd fs=>∃ mA,h.Ns1 a mA/\∀ f,Iv (fs.lookup f) (mA f)
 | .Bb lo hi=>∃ t u v,h.get? a=some { cls:=.type "range",data:=.fields #[.int lo t,.int hi u,.int 1 v]}
 | .pY o u=>h.get? a=some o/\bN H h a u
 | .kQ qs=>∃ ps:Array Value,h.get? a=some { cls:=.none,data:=.fields ps}/\((qs.size=3/\(ps = #[]\/∃ c,ps = #[qs.getD 1 .none,qs.getD 2 .none,.ref c]/\H c=some (.own a)/\h.CodeRec (.ref c) (F3 qs)))\/∃ q l k,qs = #[q,l,k]++ps/\ps.size=3)
 | .met f x=>h.get? a=some (PySem.W.methodObj (.ref f) (.ref x))
 | .ext φ=>φ h/\(∃ o,h.get? a=some o)/\∀ h1 h2:Heap,φ h1->(∀ o,h1.get? a=some o->h2.get? a=some o)->φ h2
def nE(H:Hp)(h:Heap):Prop:=∀ a o,H a=some o->bN P w H h a o
end
section
variable {P:Program}{w:World}{H H' : Hp}{h h' : Heap}{a:Addr}{o:HO}
theorem bN.lt(x:bN P w H h a o):a<h.objs.size:=by
 cases o with
 | lst xs=>obtain⟨_,_,_,_,e⟩:=x;exact Heap.lt_size e
 | tup xs=>obtain⟨_,_,_,p⟩:=x;exact p.lt
 | dK kvs=>obtain⟨_,_,_,_,o,_,_,e,_⟩:=x;exact Heap.lt_size e
 | dT kvs=>obtain⟨_,_,_,_,o,_,_,e,_⟩:=x;exact Heap.lt_size e
 | set S n=>obtain⟨o,_,_,_,e,_⟩:=x;exact Heap.lt_size e
 | ins C dx fs=>obtain⟨_,_,_,e,_⟩:=x;exact Heap.lt_size e
 | own y=>obtain⟨_,e⟩:=x;exact Heap.lt_size e
 | xd fs=>obtain⟨_,⟨_,_,_,e,_⟩,_⟩:=x;exact Heap.lt_size e
 | Bb lo hi=>obtain⟨_,_,_,e⟩:=x;exact Heap.lt_size e
 | pY ob u=>obtain⟨e,_⟩:=x;exact Heap.lt_size e
 | kQ ps=>obtain⟨_,e,_⟩:=x;exact Heap.lt_size e
 | met f y=>exact Heap.lt_size (show h.get? a=some _ from x)
 | ext φ=>obtain⟨_,⟨_,e⟩,_⟩:=x;exact Heap.lt_size e
theorem Paired.Iw{α β:Type}{F G:α->β->Prop}:∀{l₁:List α} {l₂:List β},Paired F l₁ l₂->(∀ a b,F a b->G a b)->Paired G l₁ l₂
 | _,_,.nil,_=>.nil
 | _,_,.cons r t,f=>.cons (f _ _ r) (Paired.Iw t f)
theorem Paired.imp'{α β:Type}{F G:α->β->Prop}(f:∀ a b,F a b->G a b){l₁:List α}{l₂:List β}(r:Paired F l₁ l₂):Paired G l₁ l₂:=Paired.Iw r f
theorem bN.stay(x:bN P w H h a o)(k:∀ b u,(b=a\/H b=some (.own a))->h.get? b=some u->h'.get? b=some u)
 (ho:∀ b,H b=some (.own a)->H' b=some (.own a)) (ht:∀ b xs,H b=some (.tup xs)->H' b=some (.tup xs)):bN P w H' h' a o:=by
 induction o with
 | lst xs=>obtain⟨z,its,n,r,e⟩:=x;exact⟨z,its,n,r,k _ _ (.inl rfl) e⟩
 | tup xs=>obtain⟨z,its,r,ob,e,c⟩:=x;exact⟨z,its,r,ob,k _ _ (.inl rfl) e,c⟩
 | dK kvs=>obtain⟨z,y,vs,r,ob,es,ep,e,c⟩:=x;exact⟨z,y,vs,r,ob,es,ep,k _ _ (.inl rfl) e,c⟩
 | dT kvs =>
   obtain⟨z,y,xs,r,ob,es,ep,e,c⟩:=x;exact⟨z,y,xs,Paired.Iw r fun p q z=>⟨z.1,ht _ _ z.2.1,z.2.2⟩,ob,es,ep,k _ _ (.inl rfl) e,c⟩
 | set S n=>obtain⟨ob,es,ep,t,e,c⟩:=x;exact⟨ob,es,ep,t,k _ _ (.inl rfl) e,c⟩
 | ins C dx fs =>
   obtain⟨d,z,ne,e,mA,⟨od,es,ep,e2,c⟩,r⟩:=x;exact⟨ho _ d,z,ne,k _ _ (.inl rfl) e,mA,⟨od,es,ep,k _ _ (.inr d) e2,c⟩,r⟩
 | own y=>obtain⟨ob,e⟩:=x;exact⟨ob,k _ _ (.inl rfl) e⟩
 | xd fs=>obtain⟨mA,⟨od,es,ep,e,c⟩,r⟩:=x;exact⟨mA,⟨od,es,ep,k _ _ (.inl rfl) e,c⟩,r⟩
 | Bb lo hi=>obtain⟨t,u,v,e⟩:=x;exact⟨t,u,v,k _ _ (.inl rfl) e⟩
 | pY ob u ih=>obtain⟨e,q⟩:=x;exact⟨k _ _ (.inl rfl) e,ih q⟩
 | kQ qs =>
   obtain⟨ps,e,f⟩:=x;refine⟨ps,k _ _ (.inl rfl) e,?_⟩;rcases f with⟨hz,f|⟨c,e1,e2,c',oc,vs,tq,hc,ho',hd,hv⟩⟩|f
   ·exact .inl ⟨hz,.inl f⟩
   ·cases hc;exact .inl ⟨hz,.inr ⟨c,e1,ho _ e2,c,oc,vs,tq,rfl,k _ _ (.inr e2) ho',hd,hv⟩⟩
   ·exact .inr f
 | met f y =>
   have e:h.get? a=some (PySem.W.methodObj (.ref f) (.ref y)):=x;show h'.get? a=some (PySem.W.methodObj (.ref f) (.ref y));exact k a _ (.inl rfl) e
 | ext φ=>obtain⟨p,⟨o,e⟩,st⟩:=x;exact⟨st _ _ p fun o q=>k _ _ (.inl rfl) q,⟨o,k _ _ (.inl rfl) e⟩,st⟩
theorem nE.lt(x:nE P w H h)(e:H a=some o):a<h.objs.size:=(x a o e).lt
theorem nE.fresh(x:nE P w H h)(e:h.objs.size<=a):H a=none:=by
 cases q:H a with
 | none=>rfl
 | some u=>exact absurd (Nat.lt_of_lt_of_le (x.lt q) e) (Nat.lt_irrefl _)
theorem nE.kept(x:nE P w H h)(k:∀ b u,h.get? b=some u->h'.get? b=some u):nE P w H h':=fun a o e =>
 (x a o e).stay (fun b u _ q=>k b u q) (fun _ q=>q) fun _ _ q=>q
theorem nE.laid(x:nE P w H h)(k:∀ b u,h.get? b=some u->h'.get? b=some u)(hp:h.objs.size<=a)(new:bN P w (upd H a o) h' a o):nE P w (upd H a o) h':=fun b u e=>by
 have hn:=x.fresh hp
 by_cases hb:b=a
 ·subst hb;rw[af]at e;cases e;exact new
 ·rw[av hb]at e;exact(x b u e).stay (fun c v _ q=>k c v q) (fun c q=>by rw[av (bf q hn)];exact q) fun c xs q=>by rw[av (bf q hn)];exact q
end
def Rd(H:Hp)(a:Addr)(u:HO):Prop:=H a=some u\/∃ o,H a=some (.pY o u)
theorem Rd.ok{P:Program}{w:World}{H:Hp}{h:Heap}{a:Addr}{u:HO}(r:Rd H a u)(x:nE P w H h):bN P w H h a u:=by
 rcases r with r|⟨o,r⟩
 ·exact x a u r
 ·obtain⟨_,q⟩:=x a _ r;exact q
def ML:Option HO->Prop
 | some (.lst _)=>True
 | some (.dK _)=>True
 | some (.dT _)=>True
 | some (.set _ _)=>True
 | some (.ins _ _ _)=>True
 | some (.ext _)=>True
 | _=>False
section
variable {P:Program}{w:World}{H:Hp}{h h' : Heap}{x e:Addr}{o' : HO}
theorem nE.write(ok:nE P w H h)(mu:ML (H x))(he:e=x\/H e=some (.own x))(k:∀ b u,b≠e->h.get? b=some u->h'.get? b=some u)(Kh:∃ u,h'.get? e=some u)
 (new:bN P w (upd H x o') h' x o'):nE P w (upd H x o') h':=fun b u q=>by
 have KH:∀ c y,H c=some (.own y)->c≠x:=fun c y r z=>by subst z;rw[r]at mu;exact mu
 have Nv:∀ c xs,H c=some (.tup xs)->c≠x:=fun c xs r z=>by subst z;rw[r]at mu;exact mu
 by_cases hb:b=x
 ·subst hb;rw[af]at q;cases q;exact new
 ·rw[av hb]at q
  by_cases Iz:b=e
  ·have q' : H b=some (.own x):=by
    rcases he with z|z
    ·exact absurd (Iz.trans z) hb
    ·rw[Iz];exact z
   rw[q]at q';cases q';obtain⟨v,hv⟩:=Kh;exact⟨v,by rw[Iz];exact hv⟩
  ·refine(ok b u q).stay (fun c v hc r=>k c v ?_ r) (fun c r=>by rw[av (KH c b r)];exact r) fun c xs r=>by rw[av (Nv c xs r)];exact r
   rcases hc with rfl|hc
   ·exact Iz
   ·rintro rfl;rcases he with z|z
    ·exact KH c b hc z
    ·rw[hc]at z;cases z;exact hb rfl
end
structure Un(fs ex:List Addr)(H H' : Hp)(h h' : Heap):Prop where
 keep:∀ b o,h.get? b=some o->H b=none->b∉fs->b∉ex->h'.get? b=some o
 slot:∀ b o,h.get? b=some o->H b=none->b∈fs->b∉ex->∃ sl,h'.get? b=some { o with slots:=sl}
 free:∀ b o,h.get? b=some o->H b=none->b∉ex->H' b=none
 there:∀ b o,h.get? b=some o->b∉ex->∃ o',h'.get? b=some o'
 tups:∀ b xs,H b=some (.tup xs)->H' b=some (.tup xs)
 kT:∀ b o u,H b=some (.pY o u)->H' b=some (.pY o u)
 kY:∀ b ps,H b=some (.kQ ps)->∃ more,H' b=some (.kQ (ps++more))
section
variable {fs fs' ex ex' : List Addr}{H H1 H2:Hp}{h h1 h2 h' : Heap}{a x e:Addr}{o:HO}
theorem Un.any(u:Un fs ex H H1 h h1){b:Addr}{ob:Obj}(q:h.get? b=some ob)(n:H b=none)(hx:b∉ex):∃ sl,h1.get? b=some { ob with slots:=sl}:=by
 by_cases hb:b∈fs
 ·exact u.slot b ob q n hb hx
 ·exact⟨ob.slots,u.keep b ob q n hb hx⟩
theorem Un.kept(k:∀ b u,h.get? b=some u->h'.get? b=some u):Un fs ex H H h h' :=
 ⟨fun b ob q _ _ _=>k b ob q,fun b ob q _ _ _=>⟨ob.slots,k b ob q⟩,fun _ _ _ n _=>n,fun b ob q _=>⟨ob,k b ob q⟩,fun _ _ q=>q,fun _ _ _ q=>q,fun _ ps q=>⟨#[],by rw[q];simp⟩⟩
theorem Un.refl:Un fs ex H H h h:=Un.kept fun _ _ q=>q
theorem Un.laid(k:∀ b u,h.get? b=some u->h'.get? b=some u)(hp:h.objs.size<=a)(hn:H a=none):Un fs ex H (upd H a o) h h' where
 keep:=fun b u q _ _ _=>k b u q
 slot:=fun b u q _ _ _=>⟨u.slots,k b u q⟩
 free:=fun b u q n _=>by rw[av (Nat.ne_of_lt (Nat.lt_of_lt_of_le (Heap.lt_size q) hp))];exact n
 there:=fun b u q _=>⟨u,k b u q⟩
 tups:=fun b xs q=>by rw[av (bf q hn)];exact q
 kT:=fun b u xs q=>by rw[av (bf q hn)];exact q
 kY:=fun b ps q=>⟨#[],by rw[av (bf q hn),q];simp⟩
theorem Un.write(mu:ML (H x))(he:e=x\/H e=some (.own x))(k:∀ b u,b≠e->h.get? b=some u->h'.get? b=some u)(Kh:∃ u,h'.get? e=some u):Un fs ex H (upd H x o) h h':=by
 have hx:∀ b,H b=none->b≠x:=fun b n z=>by subst z;rw[n]at mu;exact mu
 have hb:∀ b,H b=none->b≠e:=fun b n z=>by
  subst z;rcases he with r|r
  ·exact hx b n r
  ·rw[n]at r;cases r
 have hm:∀ b u,H b=some u->¬ ML (some u)->b≠x:=fun b u q nm z=>by subst z;rw[q]at mu;exact nm mu
 refine⟨fun b u q n _ _=>k b u (hb b n) q,fun b u q n _ _=>⟨u.slots,k b u (hb b n) q⟩,fun b u q n _=>by rw[av (hx b n)];exact n,fun b u q _=>?_,
  fun b xs q=>by rw[av (hm b _ q fun z=>z)];exact q,fun b u xs q=>by rw[av (hm b _ q fun z=>z)];exact q,fun b ps q=>⟨#[],by rw[av (hm b _ q fun z=>z),q];simp⟩⟩
 by_cases Iz:b=e
 ·subst Iz;exact Kh
 ·exact⟨u,k b u Iz q⟩
end
def Kl(h:Heap)(H:Hp):List Addr:=(List.range h.objs.size).filter fun a=>(H a).isSome
def wB(h:Heap)(H:Hp):Heap:=PySem.W.hideAll h (Kl h H)
theorem Bc(h:Heap)(H:Hp):(wB h H).objs.size=h.objs.size:=PySem.W.hideAll_size _ _
theorem qN{h:Heap}{H:Hp}{b:Addr}{o:Obj}(e:h.get? b=some o)(n:H b=none):(wB h H).get? b=some o :=
 PySem.W.hideAll_get _ e fun hm=>by
  have q:(H b).isSome=true:=(List.mem_filter.mp hm).2;rw[n]at q;simp at q
theorem F4{h:Heap}{H:Hp}{b:Addr}{o:Obj}(e:(wB h H).get? b=some o):h.get? b=some o/\H b=none:=by
 have e' : h.get? b=some o:=PySem.W.of_hideAll (Kl h H) e;refine⟨e',?_⟩;cases q:H b with
 | none=>rfl
 | some x =>
   have hm:b∈Kl h H:=List.mem_filter.mpr ⟨List.mem_range.mpr (Heap.lt_size e'),by simp[q]⟩
   have z:(wB h H).get? b=none:=PySem.W.hideAll_none (Kl h H) hm;rw[z]at e;cases e
def qx(g h:Heap)(L:Addr):aW:=(List.range h.objs.size).filterMap fun a=>if a=L\/(g.get? a).isSome=true then none else(h.get? a).map fun o=>(a,o)
theorem wC{g h:Heap}{L a:Addr}{o:Obj}(h1:a≠L)(h2:g.get? a=none)(h3:h.get? a=some o):(a,o)∈qx g h L :=
 List.mem_filterMap.mpr ⟨a,List.mem_range.mpr (Heap.lt_size h3),by simp[h1,h2,h3]⟩
theorem qO{g h:Heap}{L:Addr}{p:Addr×Obj}(hp:p∈qx g h L):p.1≠L/\g.get? p.1=none/\h.get? p.1=some p.2:=by
 obtain⟨b,_,e⟩:=List.mem_filterMap.mp hp
 split at e
 ·cases e
 ·rename_i hn
  cases q:h.get? b with
  | none=>rw[q]at e;simp at e
  | some u =>
    rw[q]at e;simp only[Option.map_some,Option.some.injEq]at e;subst e;refine⟨fun z=>hn (.inl z),?_,q⟩
    show g.get? b=none;cases r:g.get? b with
    | none=>rfl
    | some v=>exact(hn (.inr (by simp[r]))).elim
def rest(g h:Heap)(L d:Addr):aW:=(qx g h L).filter fun p=>decide (p.1≠d)
theorem Ae{g h:Heap}{L d:Addr}:∀ p∈rest g h L d,p.1≠d:=fun p hp=>i6 (List.mem_filter.mp hp).2
theorem Df{g h:Heap}{L d a:Addr}{o:Obj}(h1:a≠L)(h2:g.get? a=none)(h3:h.get? a=some o)(h4:a≠d):(a,o)∈rest g h L d :=
 List.mem_filter.mpr ⟨wC h1 h2 h3,cU h4⟩
theorem Dg{g h:Heap}{L:Addr}:News g L h (qx g h L):=fun p hp=>let⟨a,b,c⟩:=qO hp;⟨c,a,b⟩
theorem nF{g h h' : Heap}{L d:Addr}{m:kX}(k:∀ b o,g.get? b=some o->h.get? b=some o)(F:Fr g L h' m)(N:News g L h' (rest g h L d)):
 ∀ b o,b≠L->b≠d->h.get? b=some o->h'.get? b=some o:=fun b o h1 h2 e=>by
 cases q:g.get? b with
 | some u =>
   have:=k b u q;rw[e]at this;cases this;exact F.keep b _ q
 | none=>exact(N (b,o) (Df h1 q e h2)).1
structure Mod(K:bO)(mg:kX)(base:Heap):Prop where
 MM:K.In base
 glob:base.Ns mainGlobals mg
 blt:∃ mb,base.Ns builtinsNs mb/\∀ x:Str,x≠"__name__"->mb x=bootBuiltins x
 nolimit:base.NoLimit
 bmain:∃ bm ob,mg "__builtins__"=some (.ref bm)/\bm≠builtinsNs/\base.get? bm=some ob/\ob.cls = .type "module"/\ob.dict=some builtinsNs/\ob.data = .plain
structure Cx where
 prog:Program
 w:World
 K:bO
 mg:Str->Option Value
 base:Heap
 A:Around
 N:List Str
 s₀:Shared
 H₀:Hp
 env:Env
 outer:List Env
 stack:List Env
 ex:List Addr
 fn:Str->Bool
 calm:Bool
 pn:aW
 xe:Value->Shared->Prop
def frs(l:List Env):List Addr:=l.filterMap (·.frame)
abbrev Cx.fs(X:Cx):List Addr:=frs X.outer
def MN(sc:Scope)(x:Str):Prop:=sc.names.lookup x=some .local\/sc.names.lookup x=some .cell\/sc.names.lookup x=some .free
def Loc(sc:Scope)(x:Str):Prop:=sc.names.lookup x=some .local\/sc.names.lookup x=some .cell
def Look(env:Env)(h:Heap)(m:kX)(x:Str)(u:Value):Prop :=
 (env.kindOf x=some .local/\m x=some u)\/((env.kindOf x=some .cell\/env.kindOf x=some .free)/\∃ c,env.cells.lookup x=some c/\h.IsCell c (some u))
structure Cx.Ok(X:Cx):Prop where
 mod:Mod X.K X.mg X.base
 kind:X.env.scope.kind = .function
 glob:X.env.globals=mainGlobals
 blt:X.env.builtins=builtinsNs
 above:X.s₀.heap.objs.size<=X.env.locals
 inj:∀ x y c,X.env.cells.lookup x=some c->X.env.cells.lookup y=some c->x=y
 has:∀ x,(X.env.kindOf x=some .cell\/X.env.kindOf x=some .free)->∃ c,X.env.cells.lookup x=some c
 Km:∀ x c,X.fn x=true->X.env.cells.lookup x=some c->X.s₀.heap.objs.size<=c
 hd:X.calm=true->X.A.handled=none
 frames:X.A.frames=some X.stack
 FL:X.stack=X.outer\/(X.stack=X.env::X.outer/\X.env.frame=some X.env.locals)
 Nx:∀ b∈X.ex,b≠X.env.locals/\∀ x c,X.env.cells.lookup x=some c->c≠b
 bs:∀ b o,X.base.get? b=some o->X.s₀.heap.get? b=some o/\X.H₀ b=none
 FN:X.base.objs.size<=X.s₀.heap.objs.size
 Bd:∀ b o,X.base.get? b=some o->b∉X.ex
 Dh:∀ b∈X.ex,b∉X.fs
 funs:X.s₀.heap.FunFrames X.base X.outer
 Hz:∀ b∈X.fs,X.H₀ b=none
structure Inv(X:Cx)(pq:aW)(σ:List (Option V))(H:Hp)(s:Shared):Prop where
 ok:X.Ok
 os:s.os=X.s₀.os
 bare:AllBare s.gens
 base:Un X.fs X.ex X.H₀ H X.s₀.heap s.heap
 loc:∃ m,s.heap.Ns X.env.locals m/\∀(i:Nat) (x:Str) (v:V),X.N[i]?=some x->σ[i]?=some (some v)->MN X.env.scope x->∃ u,RelV v u/\Look X.env s.heap m x u
 cell:∀ x c,X.env.cells.lookup x=some c->∃ v,s.heap.IsCell c v
 free:H X.env.locals=none
 fD:∀ x c,X.env.cells.lookup x=some c->H c=none
 pin:∀ p∈X.pn++pq,s.heap.get? p.1=some p.2/\H p.1=none/\p.1≠X.env.locals/\p.1∉X.fs/\∀ v,p.2.data≠.cell v
 hok:nE X.prog X.w H s.heap
 len:σ.length=X.N.length
section
variable {X:Cx}{pq:aW}{σ:List (Option V)}{H H' : Hp}{s:Shared}{h' : Heap}
theorem Cx.Ok.Ny(ok:X.Ok){b:Addr}{o:Obj}(e:X.base.get? b=some o):b∉X.fs:=fun hb=>by
 have:=(ok.funs.mem hb).1;rw[e]at this;cases this
theorem Inv.bs(I:Inv X pq σ H s):∀ b o,X.base.get? b=some o->s.heap.get? b=some o/\H b=none:=fun b o e =>
 ⟨I.base.keep b o (I.ok.bs b o e).1 (I.ok.bs b o e).2 (I.ok.Ny e) (I.ok.Bd b o e),I.base.free b o (I.ok.bs b o e).1 (I.ok.bs b o e).2 (I.ok.Bd b o e)⟩
theorem Inv.bk(I:Inv X pq σ H s):∀ b o,X.base.get? b=some o->s.heap.get? b=some o:=fun b o e=>(I.bs b o e).1
theorem Inv.mod(I:Inv X pq σ H s):Mod X.K X.mg X.base:=I.ok.mod
theorem Inv.ua(I:Inv X pq σ H s):X.K.In s.heap:=I.ok.mod.MM.keeps I.bk
theorem Inv.nolimit(I:Inv X pq σ H s):s.heap.NoLimit:=I.ok.mod.nolimit.keeps I.bk
theorem Inv.fr(I:Inv X pq σ H s):∃ m,Fr X.base X.env.locals s.heap m :=
 let⟨m,hn,_⟩:=I.loc
 ⟨m,hn,I.bk,Nat.le_trans I.ok.FN I.ok.above⟩
theorem Inv.lt(I:Inv X pq σ H s):X.env.locals<s.heap.objs.size:=let⟨_,hn,_⟩:=I.loc;hn.lt
theorem Inv.sz(I:Inv X pq σ H s):X.s₀.heap.objs.size<=s.heap.objs.size:=Nat.le_trans I.ok.above (Nat.le_of_lt I.lt)
theorem Inv.KI(I:Inv X pq σ H s){a:Addr}(h:s.heap.objs.size<=a):a∉X.fs:=fun hb=>by
 obtain⟨_,o,ho,_⟩:=I.ok.funs.mem hb;exact absurd (Nat.lt_of_lt_of_le (Heap.lt_size ho) (Nat.le_trans I.sz h)) (Nat.lt_irrefl _)
theorem Inv.F5(I:Inv X pq σ H s):∀ x c,X.env.cells.lookup x=some c->c≠X.env.locals:=fun x c e z=>by
 obtain⟨v,o,ho,hd⟩:=I.cell x c e;obtain⟨m,⟨o',es,ep,ho',hd',_⟩,_⟩:=I.loc;rw[z,ho']at ho;cases ho;rw[hd']at hd;cases hd
theorem Inv.funs(I:Inv X pq σ H s):s.heap.FunFrames X.base X.outer:=by
 have all:∀(l:List Env),(∀ b∈frs l,b∈X.fs)->X.s₀.heap.FunFrames X.base l->s.heap.FunFrames X.base l:=by
  intro l
  induction l with
  | nil=>intro _ _;trivial
  | cons env r ih =>
    intro hs hl;obtain⟨hk,⟨L,o,hf,hn,ho,hd⟩,hr⟩:=hl;have hL:L∈X.fs:=hs L (by unfold frs;rw[List.filterMap_cons,hf];exact List.mem_cons_self)
    obtain⟨sl,e⟩:=I.base.slot L o ho (I.ok.Hz L hL) hL fun z=>I.ok.Dh L z hL
    exact⟨hk,⟨L,_,hf,hn,e,hd⟩,ih (fun b hb=>hs b (by unfold frs;rw[List.filterMap_cons,hf];exact lU _ hb)) hr⟩
 exact all X.outer (fun _ hb=>hb) I.ok.funs
theorem Inv.stack(I:Inv X pq σ H s):s.heap.FunFrames X.base X.stack:=by
 rcases I.ok.FL with e|⟨e,hf⟩
 ·rw[e];exact I.funs
 ·rw[e];obtain⟨m,hn,_⟩:=I.loc;refine .cons (by rw[I.ok.kind];decide) hf hn ?_ I.funs
  exact Heap.get?_none_of_le (Nat.le_trans I.ok.FN I.ok.above)
theorem Inv.qP(I:Inv X pq σ H s):∀ b∈frs X.stack,b∈X.env.locals::X.fs:=fun b hb=>by
 rcases I.ok.FL with e|⟨e,hf⟩
 ·rw[e]at hb;exact lU _ hb
 ·rw[e]at hb;unfold frs at hb;rw[List.filterMap_cons,hf]at hb;exact hb
theorem Inv.qy(I:Inv X pq σ H s):∀ b∈frs X.stack,H b=none:=fun b hb=>by
 rcases List.mem_cons.mp (I.qP b hb) with e|hb
 ·rw[e];exact I.free
 ·obtain⟨_,o,ho,_⟩:=I.ok.funs.mem hb;exact I.base.free b o ho (I.ok.Hz b hb) fun z=>I.ok.Dh b z hb
theorem Inv.step{g' : Array GenState}{t' : Nat}{d' : Drawn}{ch:List Addr}(I:Inv X pq σ H s)
 (hch:∀ b∈ch,(b∈X.ex\/X.s₀.heap.objs.size<=b)/\b≠X.env.locals/\(∀ x c,X.env.cells.lookup x=some c->c≠b)/\∀ p∈X.pn++pq,p.1≠b)
 (keep:∀ b o,b≠X.env.locals->b∉X.fs->b∉ch->s.heap.get? b=some o->H b=none->h'.get? b=some o)
 (slot:∀ b o,b≠X.env.locals->b∈X.fs->b∉ch->s.heap.get? b=some o->H b=none->∃ sl,h'.get? b=some { o with slots:=sl}) (free:∀ b o,b∉ch->s.heap.get? b=some o->H b=none->H' b=none)
 (there:∀ b o,b∉ch->s.heap.get? b=some o->∃ o',h'.get? b=some o')
 (tups:∀ b xs,H b=some (.tup xs)->H' b=some (.tup xs)) (kT:∀ b o u,H b=some (.pY o u)->H' b=some (.pY o u)) (kY:∀ b ps,H b=some (.kQ ps)->∃ more,H' b=some (.kQ (ps++more)))
 (ns:∀ m,s.heap.Ns X.env.locals m->h'.Ns X.env.locals m) (hok:nE X.prog X.w H' h') (hg:AllBare g') :
 Inv X pq σ H' { s with heap:=h',gens:=g',drawn:=d',toks:=t'}:=by
 have Pc:∀ b o,X.s₀.heap.get? b=some o->b≠X.env.locals:=fun b o e=>Nat.ne_of_lt (Nat.lt_of_lt_of_le (Heap.lt_size e) I.ok.above)
 have MO:∀ b o,X.s₀.heap.get? b=some o->b∉X.ex->b∉ch:=fun b o e hx hb=>by
  rcases(hch b hb).1 with z|z
  ·exact hx z
  ·exact absurd (Nat.lt_of_lt_of_le (Heap.lt_size e) z) (Nat.lt_irrefl _)
 have cellK:∀ x c,X.env.cells.lookup x=some c->∀ v,s.heap.IsCell c v->h'.IsCell c v:=fun x c e v ⟨o,ho,hd⟩=>by
  have KJ:c∉ch:=fun z=>(hch c z).2.2.1 x c e rfl
  by_cases hc:c∈X.fs
  ·obtain⟨sl,q⟩:=slot c o (I.F5 x c e) hc KJ ho (I.fD x c e);exact⟨_,q,hd⟩
  ·exact⟨o,keep c o (I.F5 x c e) hc KJ ho (I.fD x c e),hd⟩
 refine⟨I.ok,I.os,hg,⟨fun b o e n hb hx=>?_,fun b o e n hb hx=>?_,fun b o e n hx=>?_,fun b o e hx=>?_,fun b xs e=>tups b xs (I.base.tups b xs e),fun b o xs e=>kT b o xs (I.base.kT b o xs e),fun b ps e=>?_⟩,?_,fun x c e=>?_,?_,fun x c e=>?_,fun p hp=>?_,hok,I.len⟩
 ·exact keep b o (Pc b o e) hb (MO b o e hx) (I.base.keep b o e n hb hx) (I.base.free b o e n hx)
 ·obtain⟨sl,e1⟩:=I.base.slot b o e n hb hx;obtain⟨MP,e2⟩:=slot b _ (Pc b o e) hb (MO b o e hx) e1 (I.base.free b o e n hx);exact⟨MP,e2⟩
 ·obtain⟨o',e1⟩:=I.base.there b o e hx;exact free b o' (MO b o e hx) e1 (I.base.free b o e n hx)
 ·obtain⟨o',e1⟩:=I.base.there b o e hx;exact there b o' (MO b o e hx) e1
 ·obtain⟨m1,e1⟩:=I.base.kY b ps e;obtain⟨m2,e2⟩:=kY b _ e1;exact⟨m1++m2,by rw[e2,Array.append_assoc]⟩
 ·obtain⟨m,hn,hl⟩:=I.loc;refine⟨m,ns m hn,fun i x v e1 e2 e3=>?_⟩
  obtain⟨u,r,l⟩:=hl i x v e1 e2 e3;refine⟨u,r,?_⟩;rcases l with l|⟨k,c,e,z⟩
  ·exact .inl l
  ·exact .inr ⟨k,c,e,cellK x c e _ z⟩
 ·obtain⟨v,z⟩:=I.cell x c e;exact⟨v,cellK x c e v z⟩
 ·obtain⟨m,⟨o,_,_,ho,_⟩,_⟩:=I.loc;exact free _ o (fun z=>(hch _ z).2.1 rfl) ho I.free
 ·obtain⟨v,o,ho,hd⟩:=I.cell x c e;exact free c o (fun z=>(hch c z).2.2.1 x c e rfl) ho (I.fD x c e)
 ·obtain⟨e,n,ne,nf,d⟩:=I.pin p hp;have KJ:p.1∉ch:=fun z=>(hch p.1 z).2.2.2 p hp rfl
  exact⟨keep p.1 p.2 ne nf KJ e n,free p.1 p.2 KJ e n,ne,nf,d⟩
theorem Inv.un{t' : Nat}(I:Inv X pq σ H s)(u:Un X.fs [] H H' s.heap h')(hok:nE X.prog X.w H' h'):Inv X pq σ H' { s with heap:=h',toks:=t'}:=by
 obtain⟨m,⟨o,es,ep,ho,r⟩,_⟩:=id I.loc;obtain⟨sl,hL⟩:=u.any ho I.free (by simp)
 exact I.step (g':=s.gens) (d':=s.drawn) (ch:=[]) (fun _ z=>nomatch z) (fun b o _ hb _ e n=>u.keep b o e n hb (by simp)) (fun b o _ hb _ e n=>u.slot b o e n hb (by simp)) (fun b o _ e n=>u.free b o e n (by simp)) (fun b o _ e=>u.there b o e (by simp)) u.tups u.kT u.kY (fun m' hm=>by
  obtain⟨o',es',MQ,ho',r'⟩:=hm;rw[ho]at ho';cases ho';exact⟨_,es',MQ,hL,r'⟩) hok I.bare
theorem Inv.call{g' : Array GenState}{t' : Nat}{d' : Drawn}{ch:List Addr}(I:Inv X pq σ H s)(u:Un (frs X.stack) ch H H' s.heap h')(hok:nE X.prog X.w H' h')(hg:AllBare g')
 (hch:∀ b∈ch,(b∈X.ex\/X.s₀.heap.objs.size<=b)/\b≠X.env.locals/\(∀ x c,X.env.cells.lookup x=some c->c≠b)/\∀ p∈X.pn++pq,p.1≠b) :
 Inv X pq σ H' { s with heap:=h',gens:=g',drawn:=d',toks:=t'}:=by
 obtain⟨m,⟨o,es,ep,ho,r⟩,_⟩:=id I.loc;obtain⟨sl,hL⟩:=u.any ho I.free fun z=>(hch _ z).2.1 rfl
 exact I.step (ch:=ch) hch (fun b o hL hb hc e n=>u.keep b o e n (fun z=>(List.mem_cons.mp (I.qP b z)).elim hL hb) hc) (fun b o _ _ hc e n=>u.any e n hc) (fun b o hc e n=>u.free b o e n hc) (fun b o hc e=>u.there b o e hc) u.tups u.kT u.kY (fun m' hm=>by
  obtain⟨o',es',MQ,ho',r'⟩:=hm;rw[ho]at ho';cases ho';exact⟨_,es',MQ,hL,r'⟩) hok hg
theorem Inv.turned{t' : Nat}{it:Addr}(I:Inv X pq σ H s)(k:∀ b o,b≠it->s.heap.get? b=some o->h'.get? b=some o)(hn:H it=none)(hL:it≠X.env.locals)
 (h1:it∈X.ex\/X.s₀.heap.objs.size<=it) (h2:∀ x c,X.env.cells.lookup x=some c->c≠it) (h3:∀ p∈X.pn++pq,p.1≠it):Inv X pq σ H { s with heap:=h',toks:=t'}:=by
 have Pd:∀ b u,H b=some u->b≠it:=fun b u e z=>by rw[z,hn]at e;cases e
 refine I.step (g':=s.gens) (d':=s.drawn) (ch:=[it]) (fun b hb=>?_) (fun b o _ _ hc e _=>k b o (fun z=>hc (by simp[z])) e) (fun b o _ _ hc e _=>⟨o.slots,k b o (fun z=>hc (by simp[z])) e⟩) (fun _ _ _ _ n=>n)
  (fun b o hc e=>⟨o,k b o (fun z=>hc (by simp[z])) e⟩) (fun _ _ e=>e) (fun _ _ _ e=>e) (fun b ps e=>⟨#[],by rw[e];simp⟩) (fun m hm=>?_) (fun b u e=>?_) I.bare
 ·have e:b=it:=by simpa using hb
  subst e;exact⟨h1,hL,h2,h3⟩
 ·obtain⟨o,es,ep,ho,r⟩:=hm;exact⟨o,es,ep,k _ o (Ne.symm hL) ho,r⟩
 ·refine(I.hok b u e).stay (fun c v hc q=>k c v ?_ q) (fun _ q=>q) fun _ _ q=>q
  rcases hc with z|z
  ·rw[z];exact Pd b u e
  ·exact Pd c _ z
theorem Inv.tok(I:Inv X pq σ H s)(t:Nat):Inv X pq σ H { s with toks:=t}:=I.un (h':=s.heap) (t':=t) Un.refl I.hok
theorem Inv.kept{t' : Nat}(I:Inv X pq σ H s)(k:∀ b u,s.heap.get? b=some u->h'.get? b=some u):Inv X pq σ H { s with heap:=h',toks:=t'}:=I.un (Un.kept k) (I.hok.kept k)
theorem Inv.laid{a:Addr}{o:HO}{t' : Nat}(I:Inv X pq σ H s)(k:∀ b u,s.heap.get? b=some u->h'.get? b=some u)(hp:s.heap.objs.size<=a)(new:bN X.prog X.w (upd H a o) h' a o):
 Inv X pq σ (upd H a o) { s with heap:=h',toks:=t'}:=I.un (Un.laid k hp (I.hok.fresh hp)) (I.hok.laid k hp new)
theorem Inv.write{x e:Addr}{o:HO}{t' : Nat}(I:Inv X pq σ H s)(mu:ML (H x))(he:e=x\/H e=some (.own x))(k:∀ b u,b≠e->s.heap.get? b=some u->h'.get? b=some u)(Kh:∃ u,h'.get? e=some u)
 (new:bN X.prog X.w (upd H x o) h' x o):Inv X pq σ (upd H x o) { s with heap:=h',toks:=t'}:=I.un (Un.write mu he k Kh) (I.hok.write mu he k Kh new)
theorem Inv.weak{σ' : List (Option V)}(I:Inv X pq σ H s)(hl:σ'.length=σ.length)(w:∀(i:Nat) v,σ'[i]?=some (some v)->σ[i]?=some (some v)):Inv X pq σ' H s :=
 ⟨I.ok,I.os,I.bare,I.base,let⟨m,hn,hl'⟩:=I.loc;⟨m,hn,fun i x v e1 e2 e3=>hl' i x v e1 (w i v e2) e3⟩,I.cell,I.free,I.fD,I.pin,I.hok,hl.trans I.len⟩
theorem Inv.iq{qz:aW}(I:Inv X pq σ H s)(h:∀ p∈qz,s.heap.get? p.1=some p.2/\H p.1=none/\p.1≠X.env.locals/\p.1∉X.fs/\∀ v,p.2.data≠.cell v):Inv X qz σ H s :=
 ⟨I.ok,I.os,I.bare,I.base,I.loc,I.cell,I.free,I.fD,fun p hp=>(List.mem_append.mp hp).elim (fun z=>I.pin p (Kf _ z)) (h p),I.hok,I.len⟩
theorem qQ{N:List Str}(hN:N.Nodup){i j:Nat}{x:Str}(a:N[i]?=some x)(b:N[j]?=some x):i=j:=by
 obtain⟨h1,e1⟩:=ny.mp a;obtain⟨h2,e2⟩:=ny.mp b;exact(List.getElem_inj hN).mp (e1.trans e2.symm)
theorem Be{M:Model}{A:Around}{E:ig}{i:Nat}{x:Str}{v:V}{u:Value}{Q:Unit->Shared->Prop}(I:Inv X pq σ H s)(hN:X.N.Nodup)(hi:X.N[i]?=some x)(hx:Loc X.env.scope x)(r:RelV v u)
 (h:∀ s',Inv X pq (σ.set i (some v)) H s'->(∃ a,Heap.SameBut a s.heap s'.heap/\(a=X.env.locals\/X.env.cells.lookup x=some a))->Q () s') (hf:X.fn x=true\/X.env.scope.names.lookup x=some .local:=by first | exact .inl rfl | exact .inr rfl | assumption):wpAny M A (storeName X.env x u) Q E s:=by
 obtain⟨m,hn,hl⟩:=id I.loc;have hcls:(X.env.scope.kind == .class || (X.env.scope.kind == .module&&X.env.locals != X.env.globals))=false:=by rw[I.ok.kind];rfl
 have Pe:i<σ.length:=by rw[I.len];exact(ny.mp hi).1
 have F5:=I.F5;have tracked:∀{a:Addr} {h' : Heap},(∃ o,s.heap.get? a=some o/\H a=none)->Heap.SameBut a s.heap h'->nE X.prog X.w H h':=fun {a h'} ha hs b ob e=>by
  obtain⟨_,_,hfree⟩:=ha;refine(I.hok b ob e).stay (fun c w' hc q=>(hs.2 c ?_).trans q) (fun _ q=>q) fun _ _ q=>q
  rintro rfl;rcases hc with rfl|hc
  ·rw[hfree]at e;cases e
  ·rw[hfree]at hc;cases hc
 rcases hx with hk|hk
 ·refine wpAny_storeName_local hk hn (fun h' hn' hs=>?_) hcls
  obtain⟨oL,_,_,yr,_⟩:=id hn;refine h _ ⟨I.ok,I.os,I.bare,⟨fun b o e n hb hx=>?_,fun b o e n hb hx=>?_,I.base.free,fun b o e hx=>?_,I.base.tups,I.base.kT,I.base.kY⟩,⟨_,hn',fun j y v' e1 e2 e3=>?_⟩,fun y c e=>?_,I.free,I.fD,fun p hp=>?_,tracked ⟨oL,yr,I.free⟩ hs,by simpa using I.len⟩ ⟨_,hs,.inl rfl⟩
  ·exact(hs.2 b (Nat.ne_of_lt (Nat.lt_of_lt_of_le (Heap.lt_size e) I.ok.above))).trans (I.base.keep b o e n hb hx)
  ·obtain⟨sl,e1⟩:=I.base.slot b o e n hb hx;exact⟨sl,(hs.2 b (Nat.ne_of_lt (Nat.lt_of_lt_of_le (Heap.lt_size e) I.ok.above))).trans e1⟩
  ·obtain⟨o',e1⟩:=I.base.there b o e hx;exact⟨o',(hs.2 b (Nat.ne_of_lt (Nat.lt_of_lt_of_le (Heap.lt_size e) I.ok.above))).trans e1⟩
  ·by_cases hj:j=i
   ·subst hj;rw[hi]at e1;cases e1;rw[List.getElem?_set_self Pe]at e2;cases e2;exact⟨u,r,.inl ⟨hk,by simp⟩⟩
   ·rw[List.getElem?_set_ne (Ne.symm hj)]at e2;obtain⟨u',r',q⟩:=hl j y v' e1 e2 e3;refine⟨u',r',?_⟩;rcases q with⟨k,e⟩|⟨k,c,e,z⟩
    ·refine .inl ⟨k,?_⟩;have:y≠x:=fun e=>hj (qQ hN e1 (e▸hi))
     simp[this,e]
    ·exact .inr ⟨k,c,e,z.sameBut hs (F5 y c e)⟩
  ·obtain⟨w',z⟩:=I.cell y c e;exact⟨w',z.sameBut hs (F5 y c e)⟩
  ·obtain⟨e,n,ne,nf,d⟩:=I.pin p hp;exact⟨(hs.2 p.1 ne).trans e,n,ne,nf,d⟩
 ·have hfn:X.fn x=true:=by
   rcases hf with z|z
   ·exact z
   ·rw[z]at hk;cases hk
  obtain⟨c,hc⟩:=I.ok.has x (.inl hk);obtain⟨w',z⟩:=I.cell x c hc;refine wpAny_storeName_cell I.ok.kind hk hc z (fun h' hc' hs=>?_)
  obtain⟨oc,hoc,Nz⟩:=id z;refine h { s with heap:=h'} ⟨I.ok,I.os,I.bare,⟨fun b o e n hb hx=>?_,fun b o e n hb hx=>?_,I.base.free,fun b o e hx=>?_,I.base.tups,I.base.kT,I.base.kY⟩,⟨m,hn.sameBut hs (Ne.symm (F5 x c hc)),fun j y v' e1 e2 e3=>?_⟩,fun y c' e=>?_,I.free,I.fD,fun p hp=>?_,tracked ⟨oc,hoc,I.fD x c hc⟩ hs,by simpa using I.len⟩ ⟨c,hs,.inr hc⟩
  ·exact(hs.2 b (Nat.ne_of_lt (Nat.lt_of_lt_of_le (Heap.lt_size e) (I.ok.Km x c hfn hc)))).trans (I.base.keep b o e n hb hx)
  ·obtain⟨sl,e1⟩:=I.base.slot b o e n hb hx;exact⟨sl,(hs.2 b (Nat.ne_of_lt (Nat.lt_of_lt_of_le (Heap.lt_size e) (I.ok.Km x c hfn hc)))).trans e1⟩
  ·obtain⟨o',e1⟩:=I.base.there b o e hx;exact⟨o',(hs.2 b (Nat.ne_of_lt (Nat.lt_of_lt_of_le (Heap.lt_size e) (I.ok.Km x c hfn hc)))).trans e1⟩
  ·by_cases hj:j=i
   ·subst hj;rw[hi]at e1;cases e1;rw[List.getElem?_set_self Pe]at e2;cases e2;exact⟨u,r,.inr ⟨.inl hk,c,hc,hc'⟩⟩
   ·rw[List.getElem?_set_ne (Ne.symm hj)]at e2;obtain⟨u',r',q⟩:=hl j y v' e1 e2 e3;refine⟨u',r',?_⟩;rcases q with q|⟨k,c',e,z'⟩
    ·exact .inl q
    ·refine .inr ⟨k,c',e,z'.sameBut hs ?_⟩;rintro rfl;exact hj (qQ hN e1 (I.ok.inj _ _ _ e hc▸hi))
  ·by_cases hcc:c' = c
   ·subst hcc;exact⟨_,hc'⟩
   ·obtain⟨w2,z2⟩:=I.cell y c' e;exact⟨w2,z2.sameBut hs hcc⟩
  ·obtain⟨e,n,ne,nf,d⟩:=I.pin p hp;refine⟨(hs.2 p.1 ?_).trans e,n,ne,nf,d⟩;intro q;rw[q,hoc]at e;have q' : oc=p.2:=Option.some.inj e;exact d w' (by rw[<-q'];exact Nz)
theorem kZ{M:Model}{A:Around}{E:ig}{i:Nat}{x:Str}{v:V}{u:Value}{Q:Unit->Shared->Prop}(I:Inv X pq σ H s)(hN:X.N.Nodup)(hi:X.N[i]?=some x)(hx:Loc X.env.scope x)(r:RelV v u)
 (h:∀ s',Inv X pq (σ.set i (some v)) H s'->Q () s') (hf:X.fn x=true\/X.env.scope.names.lookup x=some .local:=by first | exact .inl rfl | exact .inr rfl | assumption):wpAny M A (storeName X.env x u) Q E s :=
 Be I hN hi hx r (fun s' I' _=>h s' I') hf
theorem Inv.Di{s' : Shared}{ch:List Addr}(I:Inv X pq σ H s)(ho:s'.os=s.os)(u:Un (frs X.stack) ch H H' s.heap s'.heap)(hok:nE X.prog X.w H' s'.heap)(hg:AllBare s'.gens)
 (hch:∀ b∈ch,(b∈X.ex\/X.s₀.heap.objs.size<=b)/\b≠X.env.locals/\(∀ x c,X.env.cells.lookup x=some c->c≠b)/\∀ p∈X.pn++pq,p.1≠b):Inv X pq σ H' s':=by
 obtain⟨h',g',d',t',o'⟩:=s';have e:o' = s.os:=ho;subst e;exact I.call (g':=g') (t':=t') (d':=d') u hok hg hch
end
abbrev XK:=Value->Option Addr->Hp->Prop
abbrev St:=List (Option V)
abbrev VK:=V->Hp->Prop
abbrev TE:=St->Hp->VK->Prop
abbrev TT:=St->Hp->(Bool->Hp->Prop)->Prop
abbrev TA:=St->Hp->(List V->Hp->Prop)->Prop
structure Ends where
 nx:St->Hp->Prop
 rt:VK
 bk:St->Hp->Prop:=fun _ _=>False
 ct:St->Hp->Prop:=fun _ _=>False
abbrev TS:=Ends->St->Hp->Prop
def EP(X:Cx)(pq:aW)(σ:St)(Q:VK)(u:Value)(s' : Shared):Prop:=∃ v H',Inv X pq σ H' s'/\RelV v u/\Q v H'
def TP(X:Cx)(pq:aW)(σ:St)(Q:Bool->Hp->Prop)(b:Bool)(s' : Shared):Prop:=∃ H',Inv X pq σ H' s'/\Q b H'
def AP(X:Cx)(pq:aW)(σ:St)(Q:List V->Hp->Prop)(us:List Value)(s' : Shared):Prop:=∃ vs H',Inv X pq σ H' s'/\Vals vs us/\Q vs H'
def SP(X:Cx)(pq:aW)(D:Ends)(f:Flow)(s' : Shared):Prop :=
 match f with
 | .next=>∃ σ' H',Inv X pq σ' H' s'/\D.nx σ' H'
 | .brk=>∃ σ' H',Inv X pq σ' H' s'/\D.bk σ' H'
 | .cont=>∃ σ' H',Inv X pq σ' H' s'/\D.ct σ' H'
 | .ret u=>∃ v σ' H',Inv X pq σ' H' s'/\RelV v u/\D.rt v H'
def PE(X:Cx)(e:Expr)(t:TE):Prop :=
 ∀(pq:aW) (s:Shared) (σ:St) (H:Hp) (Q:VK),Inv X pq σ H s->t σ H Q->wpAny (model X.prog X.w) X.A (eval e X.env) (EP X pq σ Q) X.xe s
def PT(X:Cx)(e:Expr)(t:TT):Prop :=
 ∀(pq:aW) (s:Shared) (σ:St) (H:Hp) (Q:Bool->Hp->Prop),Inv X pq σ H s->t σ H Q->wpAny (model X.prog X.w) X.A (isTrue e X.env (eval e X.env)) (TP X pq σ Q) X.xe s
def PW(X:Cx)(e:Expr)(t:TT):Prop :=
 ∀(whole:Sem Value) (pq:aW) (s:Shared) (σ:St) (H:Hp) (Q:Bool->Hp->Prop),Inv X pq σ H s->t σ H Q->wpAny (model X.prog X.w) X.A (isTrue e X.env whole) (TP X pq σ Q) X.xe s
theorem PW.pt{X:Cx}{e:Expr}{t:TT}(h:PW X e t):PT X e t:=h _
def PA(X:Cx)(es:List Expr)(t:TA):Prop :=
 ∀(pos:Pos) (pq:aW) (s:Shared) (σ:St) (H:Hp) (Q:List V->Hp->Prop),Inv X pq σ H s->t σ H Q->wpAny (model X.prog X.w) X.A (spliced (backTo pos (starEach es X.env))) (AP X pq σ Q) X.xe s
def PS(X:Cx)(st:Stmt)(t:TS):Prop :=
 ∀(pq:aW) (s:Shared) (σ:St) (H:Hp) (D:Ends),Inv X pq σ H s->t D σ H->wpAny (model X.prog X.w) X.A (exec st X.env) (SP X pq D) X.xe s
def qR(X:Cx)(st:List Stmt)(t:TS):Prop :=
 ∀(pq:aW) (s:Shared) (σ:St) (H:Hp) (D:Ends),Inv X pq σ H s->t D σ H->wpAny (model X.prog X.w) X.A (execs st X.env) (SP X pq D) X.xe s
theorem eY{α:Type}{t:Sem α}{Q Q' : α->Shared->Prop}{M:Model}{A:Around}{E:ig}{s:Shared}(h:wpAny M A t Q E s)(hQ:∀ a s,Q a s->Q' a s):wpAny M A t Q' E s:=wpAny_mono h hQ fun _ _ x=>x
section
variable {X:Cx}
def KL(i:Nat):TE:=fun σ H Q=>∃ v,σ[i]?=some (some v)/\Q v H
def tC(v:V):TE:=fun _ H Q=>Q v H
theorem IA{i:Nat}{x:Str}{pos:Pos}(hN:X.N[i]?=some x)(hv:MN X.env.scope x)(hd:(x==("__debug__":Str))=false:=by decide)(hcd:(x==("__classdict__":Str))=false:=by decide):PE X (.Name x pos) (KL i):=by
 intro pq s σ H Q I h;obtain⟨v,e,h⟩:=h;obtain⟨m,hn,hl⟩:=I.loc;obtain⟨u,r,l⟩:=hl i x v hN e hv;have fin:EP X pq σ Q u s:=⟨v,H,I,r,h⟩;rcases l with⟨hk,hm⟩|⟨hk,c,hc,hcell⟩
 ·exact wpAny_Name (wpAny_loadName_local I.ok.kind hk hn hm fin) hd
 ·rcases hk with hk|hk
  ·exact wpAny_Name (wpAny_loadName_cell I.ok.kind hk hc hcell fin) hd
  ·exact wpAny_Name (wpAny_loadName_free I.ok.kind hk hc hcell fin hcd) hd
theorem ah{i j pos}:PE X (.Constant (.int i) j pos) (tC (.int i)):=fun _ _ _ H _ I h=>wpAny_Constant_int ⟨.int i,H,I.tok _,⟨_,rfl⟩,h⟩
theorem fM{b j pos}:PE X (.Constant (.bool b) j pos) (tC (.bl b)):=fun _ _ _ H _ I h=>Constant_bool ⟨.bl b,H,I,rfl,h⟩
theorem uP{j pos}:PE X (.Constant .none j pos) (tC .fL):=fun _ _ _ H _ I h=>Constant_none ⟨.fL,H,I,rfl,h⟩
theorem cJ{x j pos}:PE X (.Constant (.str x) j pos) (tC (.str x)):=fun _ _ _ H _ I h=>Calls.Constant_str ⟨.str x,H,I.tok _,⟨_,rfl⟩,h⟩
def Gl(X:Cx)(x:Str):Prop:=X.env.kindOf x=some .globalImplicit
theorem qA{E:ig}{pq:aW}{s:Shared}{σ:St}{H:Hp}{x:Str}{u:Value}{pos:Pos}{Q:ig}(I:Inv X pq σ H s)(hg:Gl X x)(hm:X.mg x=some u)(h:Q u s)
 (hd:(x==("__debug__":Str))=false:=by decide):wpAny (model X.prog X.w) X.A (eval (.Name x pos) X.env) Q E s :=
 Calls.Name_function_global I.ok.kind hg (Calls.loadGlobal_global (by rw[I.ok.glob];exact I.mod.glob.keeps I.bk) hm h) hd
theorem k6{E:ig}{pq:aW}{s:Shared}{σ:St}{H:Hp}{x:Str}{u:Value}{pos:Pos}{Q:ig}(I:Inv X pq σ H s)(hg:Gl X x)(hm:X.mg x=none)(hv:bootBuiltins x=some u)(h:Q u s)
 (hn:x≠"__name__":=by decide) (hd:(x==("__debug__":Str))=false:=by decide):wpAny (model X.prog X.w) X.A (eval (.Name x pos) X.env) Q E s:=by
 obtain⟨mb,h1,h2⟩:=I.mod.blt;exact Calls.Name_function_global I.ok.kind hg (Calls.loadGlobal_builtin (by rw[I.ok.glob];exact I.mod.glob.keeps I.bk) hm (by rw[I.ok.blt];exact h1.keeps I.bk) ((h2 x hn).trans hv) h) hd
theorem Af{x:Str}{v:V}{u:Value}{pos:Pos}(hg:Gl X x)(hm:X.mg x=some u)(r:RelV v u)(hd:(x==("__debug__":Str))=false:=by decide):PE X (.Name x pos) (tC v) :=
 fun _ _ _ H _ I h=>qA I hg hm ⟨v,H,I,r,h⟩ hd
theorem F6{x:Str}{v:V}{u:Value}{pos:Pos}(hg:Gl X x)(hm:X.mg x=none)(hv:bootBuiltins x=some u)(r:RelV v u)(hn:x≠"__name__":=by decide)(hd:(x==("__debug__":Str))=false:=by decide):PE X (.Name x pos) (tC v) :=
 fun _ _ _ H _ I h=>k6 I hg hm hv ⟨v,H,I,r,h⟩ hn hd
variable {a b:Expr}{ta tb:TE}{pos:Pos}
def tB(t:TE):TT:=fun σ H Q=>t σ H fun x H1=>∃ c,x = .bl c/\Q c H1
theorem cF{e:Expr}{t:TE}(h:PE X e t)(he:∀ whole,isTrue e X.env whole=(do let v←whole;standAt e.pos;holding [v] (truthy v)):=by intro _;rfl):PT X e (tB t):=by
 intro pq s σ H Q I hw;refine isTrue_plain (eY (h pq s σ H _ I hw) fun v s1 ⟨x,H1,I1,r1,q1⟩=>?_) (he _)
 obtain⟨d,rfl,q⟩:=q1;cases r1;exact wpAny_truthy_bool ⟨H1,I1,q⟩
variable {tA MR:TT}{rest:List Expr}
def NB(t u:TT):TT:=fun σ H Q=>t σ H fun c H1=>if c=true then u σ H1 Q else Q false H1
def Rq(t u:TT):TT:=fun σ H Q=>t σ H fun c H1=>if c=true then Q true H1 else u σ H1 Q
def NC(t:TT):TT:=fun σ H Q=>t σ H fun c H1=>Q (!c) H1
theorem nG(ha:PT X a tA):PW X (.BoolOp .And [a] pos) tA:=by
 intro wh pq s σ H Q I h;refine isTrue_and (eY (ha pq s σ H Q I h) fun c s1 e=>?_)
 cases c with
 | true=>exact isTrue_and_nil e
 | false=>exact e
theorem j6(ha:PT X a tA):PW X (.BoolOp .Or [a] pos) tA:=by
 intro wh pq s σ H Q I h;refine isTrue_or (eY (ha pq s σ H Q I h) fun c s1 e=>?_)
 cases c with
 | false=>exact isTrue_or_nil e
 | true=>exact e
theorem qS(ha:PT X a tA)(hb:PW X (.BoolOp .And (b::rest) pos) MR):PW X (.BoolOp .And (a::b::rest) pos) (NB tA MR):=by
 intro wh pq s σ H Q I h;refine isTrue_and (eY (ha pq s σ H _ I h) fun c s1 ⟨H1,I1,q1⟩=>?_)
 cases c with
 | true=>exact hb wh pq s1 σ H1 Q I1 q1
 | false=>exact⟨H1,I1,q1⟩
theorem i7(ha:PT X a tA)(hb:PW X (.BoolOp .Or (b::rest) pos) MR):PW X (.BoolOp .Or (a::b::rest) pos) (Rq tA MR):=by
 intro wh pq s σ H Q I h;refine isTrue_or (eY (ha pq s σ H _ I h) fun c s1 ⟨H1,I1,q1⟩=>?_)
 cases c with
 | true=>exact⟨H1,I1,q1⟩
 | false=>exact hb wh pq s1 σ H1 Q I1 q1
theorem fN(ha:PT X a tA):PT X (.UnaryOp .Not a pos) (NC tA):=by
 intro pq s σ H Q I h;exact isTrue_not (ha pq s σ H (fun c H1=>Q (!c) H1) I h)
def KN(ta tb:TE):TE:=fun σ H Q=>ta σ H fun x H1=>∃ c,x = .bl c/\if c=true then tb σ H1 Q else Q (.bl false) H1
def KO(ta:TE):TE:=fun σ H Q=>ta σ H fun x H1=>∃ c,x = .bl c/\Q (.bl (!c)) H1
theorem g7{op}{t:TE}(h:PE X a t):PE X (.BoolOp op [a] pos) t:=fun pq s σ H Q I hw=>BoolOp_one (h pq s σ H Q I hw)
theorem fO(ha:PE X a ta)(hb:PE X (.BoolOp .And (b::rest) pos) tb):PE X (.BoolOp .And (a::b::rest) pos) (KN ta tb):=by
 intro pq s σ H Q I h;refine BoolOp_and (eY (ha pq s σ H _ I h) fun v s1 ⟨x,H1,I1,r1,q1⟩=>?_)
 obtain⟨c,rfl,q1⟩:=q1;cases r1;refine wpAny_truthy_bool ?_;cases c with
 | true=>exact hb pq s1 σ H1 Q I1 q1
 | false=>exact⟨.bl false,H1,I1,rfl,q1⟩
theorem yv(ha:PE X a ta):PE X (.UnaryOp .Not a pos) (KO ta):=by
 intro pq s σ H Q I h;refine UnaryOp_ (eY (ha pq s σ H _ I h) fun v s1 ⟨x,H1,I1,r1,q1⟩=>?_)
 obtain⟨c,rfl,q1⟩:=q1;cases r1;exact not_of (wpAny_truthy_bool ⟨.bl (!c),H1,I1,rfl,q1⟩)
def Rr(t:TT)(ta tb:TE):TE:=fun σ H Q=>t σ H fun c H1=>if c=true then ta σ H1 Q else tb σ H1 Q
theorem wD{c:Expr}(hc:PT X c tA)(ha:PE X a ta)(hb:PE X b tb):PE X (.IfExp c a b pos) (Rr tA ta tb):=by
 intro pq s σ H Q I h;refine wpAny_IfExp (eY (hc pq s σ H _ I h) fun d s1 ⟨H1,I1,q1⟩=>?_)
 cases d with
 | true=>exact ha pq s1 σ H1 Q I1 q1
 | false=>exact hb pq s1 σ H1 Q I1 q1
end
def aO(K:bO)(H:Hp)(a:Addr)(xs:List V):Prop :=
 Rd H a (.lst xs)\/
  ∃(o:Obj) (its:Array Value) (n:Nat),K.lookup a=some o/\o.cls = .type "list"/\o.dict=none/\o.data = .seq its n/\its.size<=sizeLine/\Vals xs its.toList
def aY(K:bO)(H:Hp)(a:Addr)(xs:List V):Prop :=
 Rd H a (.tup xs)\/
  ∃(o:Obj) (its:Array Value) (n:Nat),K.lookup a=some o/\o.cls = .type "tuple"/\o.data = .seq its n/\its.size<=sizeLine/\Vals xs its.toList
def ND:Value->Option V
 | .none=>some .fL
 | .bool b=>some (.bl b)
 | .int i _=>some (.int i)
 | .str x _=>some (.str x)
 | .bytes b _=>some (.De b)
 | .float b _=>some (.Kg b)
 | .ref a=>some (.ref a)
 | .type n=>some (.ty n)
 | _=>none
theorem RelV.abs{x:V}{u:Value}(r:RelV x u):ND u=some x:=by
 cases x with
 | fL=>cases r;rfl
 | bl _=>cases r;rfl
 | int _=>obtain⟨t,rfl⟩:=r;rfl
 | str _=>obtain⟨t,rfl⟩:=r;rfl
 | De _=>obtain⟨t,rfl⟩:=r;rfl
 | Kg _=>obtain⟨t,rfl⟩:=r;rfl
 | ref _=>cases r;rfl
 | ty _=>cases r;rfl
theorem RelV.inj{x y:V}{u:Value}(r:RelV x u)(q:RelV y u):x=y:=Option.some.inj (r.abs.symm.trans q.abs)
theorem Vals.inj:∀{xs ys:List V} {us:List Value},Vals xs us->Vals ys us->xs=ys
 | _,_,_,.nil,.nil=>rfl
 | _,_,_,.cons r t,.cons r' t'=>by rw[r.inj r',Vals.inj t t']
section
variable {X:Cx}{pq:aW}{σ:St}{H:Hp}{s:Shared}{a:Addr}{xs ys:List V}
theorem aO.of{K:bO}(h:H a=some (.lst xs)):aO K H a xs:=.inl (.inl h)
theorem aY.of{K:bO}(h:H a=some (.tup xs)):aY K H a xs:=.inl (.inl h)
theorem Inv.list(I:Inv X pq σ H s)(h:aO X.K H a xs):∃ its:List Value,Vals xs its/\PlainL s.heap a its.toArray/\xs.length<=sizeLine:=by
 rcases h with h|⟨o,its,n,hk,hc,hd,hs,hz,r⟩
 ·obtain⟨z,its,n,r,e⟩:=h.ok I.hok;exact⟨its,r,⟨_,n,e,rfl,rfl,rfl⟩,z⟩
 ·refine⟨its.toList,r,⟨o,n,I.ua a o hk,hc,hd,by simpa using hs⟩,?_⟩
  have e:=r.length;simp only[Array.length_toList]at e
  lia
theorem Inv.tuple(I:Inv X pq σ H s)(h:aY X.K H a xs):∃ its:List Value,Vals xs its/\IsTup s.heap a its.toArray/\xs.length<=sizeLine:=by
 rcases h with h|⟨o,its,n,hk,hc,hs,hz,r⟩
 ·obtain⟨z,its,r,p⟩:=h.ok I.hok;exact⟨its,r,p,z⟩
 ·refine⟨its.toList,r,⟨o,I.ua a o hk,hc,n,by simpa using hs⟩,?_⟩
  have e:=r.length;simp only[Array.length_toList]at e
  lia
theorem Inv.nH(I:Inv X pq σ H s)(h:aO X.K H a xs)(h' : aO X.K H a ys):xs=ys:=by
 obtain⟨its,r,⟨o,n,e,_,_,d⟩,_⟩:=I.list h;obtain⟨its',r',⟨o',n',e',_,_,d'⟩,_⟩:=I.list h';rw[e]at e';cases e';rw[d]at d';injection d' with d1 _
 have:its=its':=by simpa using congrArg Array.toList d1
 subst this;exact r.inj r'
end
abbrev Cx.qT(X:Cx)(E:ig):Cx:={ X with xe:=E}
abbrev Cx.yt(X:Cx):Cx:=X.qT fun _ _=>False
theorem Cx.Ok.qT{X:Cx}(ok:X.Ok)(E:ig):(X.qT E).Ok :=
 ⟨ok.mod,ok.kind,ok.glob,ok.blt,ok.above,ok.inj,ok.has,ok.Km,ok.hd,ok.frames,ok.FL,ok.Nx,ok.bs,ok.FN,ok.Bd,ok.Dh,ok.funs,ok.Hz⟩
theorem Cx.Ok.iM{X:Cx}{E:ig}(ok:(X.qT E).Ok):X.Ok :=
 ⟨ok.mod,ok.kind,ok.glob,ok.blt,ok.above,ok.inj,ok.has,ok.Km,ok.hd,ok.frames,ok.FL,ok.Nx,ok.bs,ok.FN,ok.Bd,ok.Dh,ok.funs,ok.Hz⟩
section
variable {X:Cx}{pq:aW}{σ:St}{H:Hp}{s:Shared}{E:ig}
theorem Inv.qT(I:Inv X pq σ H s)(E:ig):Inv (X.qT E) pq σ H s:=⟨I.ok.qT E,I.os,I.bare,I.base,I.loc,I.cell,I.free,I.fD,I.pin,I.hok,I.len⟩
theorem Inv.iM(I:Inv (X.qT E) pq σ H s):Inv X pq σ H s:=⟨I.ok.iM,I.os,I.bare,I.base,I.loc,I.cell,I.free,I.fD,I.pin,I.hok,I.len⟩
theorem SP.iM{D:Ends}{f:Flow}{s' : Shared}(h:SP (X.qT E) pq D f s'):SP X pq D f s':=by
 cases f with
 | next=>obtain⟨σ',H',I,q⟩:=h;exact⟨σ',H',I.iM,q⟩
 | brk=>obtain⟨σ',H',I,q⟩:=h;exact⟨σ',H',I.iM,q⟩
 | cont=>obtain⟨σ',H',I,q⟩:=h;exact⟨σ',H',I.iM,q⟩
 | ret u=>obtain⟨v,σ',H',I,r,q⟩:=h;exact⟨v,σ',H',I.iM,r,q⟩
theorem qR.yt{st:List Stmt}{t:TS}(h:qR X.yt st t):qR X st t:=fun pq s σ H D I hw =>
 wpAny_mono (h pq s σ H D (I.qT _) hw) (fun _ _ q=>q.iM) fun _ _ z=>False.elim z
end
section
variable {X:Cx}{st:Stmt}{rest:List Stmt}{t u:TS}{e:Expr}{te:TE}{pos:Pos}
def aP:TS:=fun D σ H=>D.nx σ H
def Ends.on(D:Ends)(u:TS):Ends:={ D with nx:=u D}
def ay(t u:TS):TS:=fun D σ H=>t (D.on u) σ H
theorem aQ:qR X [] aP:=fun _ _ σ H _ I h=>wpAny_execs_nil ⟨σ,H,I,h⟩
theorem ai(h1:PS X st t)(h2:qR X rest u):qR X (st::rest) (ay t u):=by
 intro pq s σ H D I h;refine wpAny_execs_cons (eY (h1 pq s σ H { D with nx:=u D} I h) fun f s1 q=>?_)
 cases f with
 | next =>
   obtain⟨σ',H',I',q⟩:=q;exact h2 pq s1 σ' H' D I' q
 | ret v=>exact q
 | brk=>exact q
 | cont=>exact q
theorem aq(h1:PS X st t):qR X [st] t:=by
 intro pq s σ H D I h;refine wpAny_execs_cons (eY (h1 pq s σ H D I h) fun f s1 q=>?_)
 cases f with
 | next=>exact wpAny_execs_nil q
 | ret v=>exact q
 | brk=>exact q
 | cont=>exact q
theorem Inv.quiet{pq:aW}{σ:St}{H:Hp}{s:Shared}(I:Inv X pq σ H s):interactive X.env=false:=by simp[interactive,I.ok.kind]
def KP(te:TE):TS:=fun D σ H=>te σ H fun _ H1=>D.nx σ H1
theorem dc(he:PE X e te)(hs:swapsWith e none pos.line X.env=pure false:=by rfl):PS X (.Expr e pos) (KP te):=by
 intro pq s σ H D I h;exact wpAny_Expr_any (eY (he pq s σ H _ I h) fun v s1 ⟨x,H1,I1,r1,q1⟩=>⟨σ,H1,I1,q1⟩) I.quiet hs
def NF(te:TE):TS:=fun D σ H=>te σ H D.rt
theorem aF(he:PE X e te):PS X (.Return (some e) pos) (NF te):=by
 intro pq s σ H D I h;exact wpAny_Return_some (eY (he pq s σ H _ I h) fun v s1 ⟨x,H1,I1,r1,q1⟩=>⟨x,σ,H1,I1,r1,q1⟩)
def bg(c:TT)(t u:TS):TS:=fun D σ H=>c σ H fun b H1=>if b=true then t D σ H1 else u D σ H1
theorem br{c:Expr}{a b:List Stmt}{tc:TT}(hc:PT X c tc)(ha:qR X a t)(hb:qR X b u):PS X (.If c a b pos) (bg tc t u):=by
 intro pq s σ H D I h;refine wpAny_If (eY (hc pq s σ H _ I h) fun d s1 ⟨H1,I1,q1⟩=>?_)
 cases d with
 | true=>exact ha pq s1 σ H1 D I1 q1
 | false=>exact hb pq s1 σ H1 D I1 q1
end
abbrev TG:=V->St->Hp->(St->Hp->Prop)->Prop
abbrev HA:=List V->St->Hp->(St->Hp->Prop)->Prop
def PG(X:Cx)(target:Expr)(t:TG):Prop :=
 ∀(pq:aW) (s:Shared) (σ:St) (H:Hp) (v:V) (u:Value) (Q:St->Hp->Prop),Inv X pq σ H s->RelV v u->t v σ H Q->
  wpAny (model X.prog X.w) X.A (assign target X.env u) (fun _ s'=>∃ σ' H',Inv X pq σ' H' s'/\Q σ' H') X.xe s
def KQ(X:Cx)(ts:List Expr)(t:HA):Prop :=
 ∀(pq:aW) (s:Shared) (σ:St) (H:Hp) (vs:List V) (us:List Value) (Q:St->Hp->Prop),Inv X pq σ H s->Vals vs us->t vs σ H Q->
  wpAny (model X.prog X.w) X.A (assignInOrder ((assignEach ts X.env).map (·.2)) us) (fun _ s'=>∃ σ' H',Inv X pq σ' H' s'/\Q σ' H') X.xe s
abbrev Dj:=V->V->V->Hp->(Hp->Prop)->Prop
def IB(X:Cx)(t:Dj):Prop :=
 ∀(pq:aW) (s:Shared) (σ:St) (H:Hp) (o i v:V) (ov iv u:Value) (Q:Hp->Prop),Inv X pq σ H s->RelV o ov->RelV i iv->RelV v u->t o i v H Q->
  wpAny (model X.prog X.w) X.A (setItem ov iv u) (fun _ s'=>∃ H',Inv X pq σ H' s'/\Q H') X.xe s
abbrev KR:=V->V->Hp->VK->Prop
def Pf(X:Cx)(op:Operator)(t:KR):Prop :=
 ∀(pq:aW) (s:Shared) (σ:St) (H:Hp) (x y:V) (v u:Value) (Q:VK),Inv X pq σ H s->RelV x v->RelV y u->t x y H Q->
  wpAny (model X.prog X.w) X.A (inplaceOp op v u) (EP X pq σ Q) X.xe s
section
variable {X:Cx}{pos:Pos}
def Dl(i:Nat):TG:=fun v σ H Q=>Q (σ.set i (some v)) H
theorem qB{i:Nat}{x:Str}(hN:X.N.Nodup)(hi:X.N[i]?=some x)(hx:Loc X.env.scope x)(hf:X.fn x=true\/X.env.scope.names.lookup x=some .local:=by first | exact .inl rfl | exact .inr rfl | assumption):PG X (.Name x pos) (Dl i):=by
 intro pq s σ H v u Q I r h;exact wpAny_assign_Name (kZ I hN hi hx r (fun s' I'=>⟨_,H,I',h⟩) hf)
def NG:HA:=fun vs σ H Q=>vs=[]/\Q σ H
def KS(t:TG)(u:HA):HA:=fun vs σ H Q=>∃ v r,vs=v::r/\t v σ H fun σ' H'=>u r σ' H' Q
theorem i8:KQ X [] NG:=by
 intro pq s σ H vs us Q I r h;obtain⟨e,h⟩:=h;subst e;cases r;exact assignInOrder_nil ⟨σ,H,I,h⟩
theorem bB{e:Expr}{es:List Expr}{t:TG}{u:HA}(h1:PG X e t)(h2:KQ X es u)
 (hs:(assignEach (e::es) X.env).map (·.2)=assign e X.env::(assignEach es X.env).map (·.2):=by rfl):KQ X (e::es) (KS t u):=by
 intro pq s σ H vs us Q I r h;obtain⟨v,vr,e1,h⟩:=h;subst e1;cases r with
 | cons r rr =>
   rw[hs];refine assignInOrder_cons (eY (h1 pq s σ H _ _ _ I r h) fun _ s1 ⟨σ1,H1,I1,q1⟩=>?_)
   exact h2 pq s1 σ1 H1 _ _ Q I1 rr q1
def KU(K:bO)(n:Nat)(t:HA):TG:=fun v σ H Q=>∃ a xs,v = .ref a/\aY K H a xs/\xs.length=n/\t xs σ H Q
theorem IC{es:List Expr}{k:Nat}{t:HA}{n:Nat}(hc:X.calm=true)(h:KQ X es t)
 (hn:(assignEach es X.env).length=n:=by rfl) (hst:(assignEach es X.env).findIdx? (·.1)=none:=by rfl):PG X (.Tuple es k pos) (KU X.K n t):=by
 intro pq s σ H v u Q I r hw;obtain⟨a,xs,e1,hq,hl,hw⟩:=hw;subst e1;cases r;obtain⟨its,rv,ht,hz⟩:=I.tuple hq;refine assign_Tuple_tuple (I.ok.hd hc) ht (by simp[hn,<-hl,rv.length]) hst fun h' hx=>?_
 have I1:Inv X pq σ H { s with heap:=h'}:=I.kept (t':=s.toks) fun b o e=>hx b o (Nat.ne_of_lt (Heap.lt_size e)) e
 exact h pq _ σ H xs _ Q I1 (by simpa using rv) hw
def NH(to ti:TE)(t:Dj):TG:=fun v σ H Q=>to σ H fun o H1=>ti σ H1 fun i H2=>t o i v H2 fun H3=>Q σ H3
theorem Dm{o i:Expr}{to ti:TE}{t:Dj}(ho:PE X o to)(hi:PE X i ti)(hs:IB X t)
 (ha:∀ v,assign (.Subscript o i pos) X.env v=(do
  let ov←holding [v] (eval o X.env)
  let iv←holding [v,ov] (eval i X.env)
  standAt pos
  holding [v,ov,iv] (setItem ov iv v)
  release [v,ov,iv] []):=by intro _;rfl):PG X (.Subscript o i pos) (NH to ti t):=by
 intro pq s σ H v u Q I r h;rw[ha];refine dB (wpAny_holding (eY (ho pq s σ H _ I h) fun ov s1 ⟨x,H1,I1,r1,q1⟩=>?_))
 refine dB (wpAny_holding (eY (hi pq s1 σ H1 _ I1 q1) fun iv s2 ⟨y,H2,I2,r2,q2⟩=>?_))
 refine dB (wpAny_standAt (dB (wpAny_holding (eY (hs pq s2 σ H2 x y v ov iv u _ I2 r1 r2 r q2) fun _ s3 ⟨H3,I3,q3⟩=>?_))))
 exact wpAny_release ⟨σ,H3,I3,q3⟩
def KW(te:TE)(g:TG):TS:=fun D σ H=>te σ H fun x H1=>g x σ H1 D.nx
theorem Dp{tg e:Expr}{te:TE}{g:TG}(he:PE X e te)(hg:PG X tg g)(hs:swapsWithSole [tg] e pos.line X.env=pure false:=by rfl)(hw:swappedStores [tg] e X.env=pure none:=by rfl)
 (h1:(assignEach [tg] X.env).map (·.2)=[assign tg X.env]:=by rfl):PS X (.Assign [tg] e pos) (KW te g):=by
 intro pq s σ H D I h;refine wpAny_Assign_stores (eY (he pq s σ H _ I h) fun v s1 ⟨x,H1,I1,r1,q1⟩=>?_) hs hw
 rw[h1];exact eY (hg pq s1 σ H1 x v _ I1 r1 q1) fun _ s2 q=>q
theorem aG{i:Nat}{x:Str}{e:Expr}{te:TE}{pos' : Pos}(hN:X.N.Nodup)(hi:X.N[i]?=some x)(hx:Loc X.env.scope x)(he:PE X e te)(hs:swapsWith e (some (.Name x pos')) pos.line X.env=pure false:=by rfl)(hf:X.fn x=true\/X.env.scope.names.lookup x=some .local:=by first | exact .inl rfl | exact .inr rfl | assumption):
 PS X (.Assign [.Name x pos'] e pos) (KW te (Dl i)):=by
 intro pq s σ H D I h;refine wpAny_Assign_Name (eY (he pq s σ H _ I h) fun v s1 ⟨y,H1,I1,r1,q1⟩=>?_) hs
 exact kZ I1 hN hi hx r1 (fun s2 I2=>⟨_,H1,I2,q1⟩) hf
def NI(i:Nat)(te:TE)(ti:KR):TS:=fun D σ H=>∃ x,σ[i]?=some (some x)/\te σ H fun y H1=>ti x y H1 fun z H2=>D.nx (σ.set i (some z)) H2
theorem qU{i:Nat}{x:Str}{e:Expr}{te:TE}{op:Operator}{ti:KR}{pos' : Pos}(hN:X.N.Nodup)(hi:X.N[i]?=some x)(hx:Loc X.env.scope x)(he:PE X e te)(ho:Pf X op ti)(hf:X.fn x=true\/X.env.scope.names.lookup x=some .local:=by first | exact .inl rfl | exact .inr rfl | assumption):
 PS X (.AugAssign (.Name x pos') op e pos) (NI i te ti):=by
 intro pq s σ H D I h;obtain⟨v,e1,h⟩:=h;obtain⟨m,hn,hl⟩:=I.loc;have Rt:MN X.env.scope x:=by rcases hx with k | k;exact .inl k;exact .inr (.inl k)
 obtain⟨u,r,l⟩:=hl i x v hi e1 Rt;refine wpAny_AugAssign_Name ?_;have go:wpAny (model X.prog X.w) X.A (eval e X.env) (fun w s₂=>wpAny (model X.prog X.w) X.A (inplaceOp op u w) (fun r s₃=>wpAny (model X.prog X.w) X.A (storeName X.env x r) (fun _=>SP X pq D .next) X.xe s₃) X.xe s₂) X.xe s:=by
  refine eY (he pq s σ H _ I h) fun w s1 ⟨y,H1,I1,r1,q1⟩=>?_
  refine eY (ho pq s1 σ H1 v y u w _ I1 r r1 q1) fun z s2 ⟨zv,H2,I2,r2,q2⟩=>?_
  exact kZ I2 hN hi hx r2 (fun s3 I3=>⟨_,H2,I3,q2⟩) hf
 rcases l with⟨hk,hm⟩|⟨hk,c,hc,hcell⟩
 ·exact wpAny_loadName_local I.ok.kind hk hn hm go
 ·rcases hk with hk|hk
  ·exact wpAny_loadName_cell I.ok.kind hk hc hcell go
  ·rcases hx with k|k
   ·have:X.env.scope.names.lookup x=some .free:=hk;rw[k]at this;cases this
   ·have:X.env.scope.names.lookup x=some .free:=hk;rw[k]at this;cases this
def KY(to ti te:TE)(F7:V->V->Hp->VK->Prop)(MS:KR)(F8:Dj):TS:=fun D σ H=>to σ H fun o H1=>ti σ H1 fun i H2=>F7 o i H2 fun x H3=>te σ H3 fun y H4=>MS x y H4 fun z H5=>F8 o i z H5 fun H6=>D.nx σ H6
def KZ(X:Cx)(t:V->V->Hp->VK->Prop):Prop :=
 ∀(pq:aW) (s:Shared) (σ:St) (H:Hp) (o i:V) (ov iv:Value) (Q:VK),Inv X pq σ H s->RelV o ov->RelV i iv->t o i H Q->
  wpAny (model X.prog X.w) X.A (getItem ov iv) (EP X pq σ Q) X.xe s
theorem Ag{o i e:Expr}{to ti te:TE}{F7:V->V->Hp->VK->Prop}{MS:KR}{F8:Dj}{op:Operator}{tpos:Pos}(ho:PE X o to)(hi:PE X i ti)(hg:KZ X F7)(he:PE X e te)(hp:Pf X op MS)(hs:IB X F8)
 (ha:∀ ov iv new,augStore i ov iv new=(do holding [new,ov,iv] (setItem ov iv new);release [new,ov,iv] [];pure .next):=by intros;rfl):PS X (.AugAssign (.Subscript o i tpos) op e pos) (KY to ti te F7 MS F8):=by
 intro pq s σ H D I h;refine wpAny_AugAssign_SubscriptAny (eY (ho pq s σ H _ I h) fun ov s1 ⟨x1,H1,I1,r1,q1⟩=>?_) ha
 refine eY (hi pq s1 σ H1 _ I1 q1) fun iv s2 ⟨x2,H2,I2,r2,q2⟩=>?_
 refine eY (hg pq s2 σ H2 x1 x2 ov iv _ I2 r1 r2 q2) fun old s3 ⟨x3,H3,I3,r3,q3⟩=>?_
 refine eY (he pq s3 σ H3 _ I3 q3) fun v s4 ⟨x4,H4,I4,r4,q4⟩=>?_
 refine eY (hp pq s4 σ H4 x3 x4 old v _ I4 r3 r4 q4) fun new s5 ⟨x5,H5,I5,r5,q5⟩=>?_
 exact eY (hs pq s5 σ H5 x1 x2 x5 ov iv new _ I5 r1 r2 r5 q5) fun _ s6 ⟨H6,I6,q6⟩=>⟨σ,H6,I6,q6⟩
def yw(c:TT)(tb:TS):TS:=fun D σ H=>∃ W:Nat->St->Hp->Prop,(∃ m,W m σ H)/\∀ m σ H,W m σ H->
 c σ H fun b H1=>if b=true then ∃ N:St->Hp->Prop,(∀ σ' H',N σ' H'->∃ m',m'<m/\W m' σ' H')/\tb { D with nx:=N,ct:=N,bk:=D.nx} σ H1 else D.nx σ H1
theorem Dq{c:Expr}{body:List Stmt}{tc:TT}{tb:TS}(hp:PassesOwn (model X.prog X.w) X.A X.env X.xe)(hc:PT X c tc)(hb:qR X body tb):PS X (.While c body [] pos) (yw tc tb):=by
 intro pq s σ H D I h;obtain⟨W,⟨m0,w0⟩,turn⟩:=h;refine wpAny_While (codeAny_whileLoop (fun n s'=>∃ σ' H',Inv X pq σ' H' s'/\W n σ' H') ?_ m0 ⟨σ,H,I,w0⟩)
 rintro n s1 ⟨σ1,H1,I1,w1⟩;refine wpAny_passesOwn hp (eY (hc pq s1 σ1 H1 _ I1 (turn n σ1 H1 w1)) fun b s2 ⟨H2,I2,q2⟩=>?_)
 cases b with
 | true =>
   obtain⟨N,hN,q2⟩:=q2;rw[if_pos rfl];refine wpAny_passesOwn hp (eY (hb pq s2 σ1 H2 _ I2 q2) fun f s3 q3=>?_)
   cases f with
   | next =>
     obtain⟨σ3,H3,I3,n3⟩:=q3;obtain⟨m',hm,w3⟩:=hN σ3 H3 n3;exact⟨m',hm,σ3,H3,I3,w3⟩
   | cont =>
     obtain⟨σ3,H3,I3,n3⟩:=q3;obtain⟨m',hm,w3⟩:=hN σ3 H3 n3;exact⟨m',hm,σ3,H3,I3,w3⟩
   | brk=>exact q3
   | ret v=>exact q3
 | false =>
   rw[if_neg Bool.false_ne_true];exact wpAny_execs_nil ⟨σ1,H2,I2,q2⟩
end
structure It where
 go:Nat->Hp->Prop
 F9:Nat->Hp->V->Hp->Prop
 stop:Nat->Hp->Prop
def mT(X:Cx)(pq:aW)(H:Hp)(b:Addr):Prop :=
 H b=none/\b≠X.env.locals/\b∉X.fs/\(b∈X.ex\/X.s₀.heap.objs.size<=b)/\(∀ x c,X.env.cells.lookup x=some c->c≠b)/\∀ p∈X.pn++pq,p.1≠b
theorem Inv.Dr{X:Cx}{pq:aW}{σ:St}{H H' : Hp}{s:Shared}{b:Addr}(I:Inv X pq σ H s)(hb:s.heap.objs.size<=b)(hn:H' b=none):mT X pq H' b:=by
 refine⟨hn,Nat.ne_of_gt (Nat.lt_of_lt_of_le I.lt hb),I.KI hb,.inr (Nat.le_trans I.sz hb),fun x c e z=>?_,fun p hp z=>?_⟩
 ·obtain⟨v,q⟩:=I.cell x c e;exact absurd (Nat.lt_of_lt_of_le q.lt (by rw[z];exact hb)) (Nat.lt_irrefl _)
 ·exact absurd (Nat.lt_of_lt_of_le (Heap.lt_size (I.pin p hp).1) (by rw[z];exact hb)) (Nat.lt_irrefl _)
structure Turn(P:Program)(w:World)(K:bO)(tg:Expr)(J:It)(fp:List Addr)(it:Addr)(tn:Nat->Heap->Prop):Prop where
 mem:it∈fp
 obj:∀ i h,tn i h->∀ b∈fp,∃ o,h.get? b=some o/\∀ v,o.data≠.cell v
 keep:∀ i h h',tn i h->(∀ b∈fp,∀ o,h.get? b=some o->h'.get? b=some o)->tn i h'
 item:∀(X:Cx),X.prog=P->X.w=w->X.K=K->X.calm=true->∀(i:Nat) (pq:aW) (s:Shared) (σ:St) (H:Hp) (E:ig),Inv X pq σ H s->(∀ b∈fp,mT X pq H b)->tn i s.heap->J.go i H->
  wpAny (model P w) X.A (pyNext (.ref it)) (fun r s1=>∃ u,r=some u/\
   wpAny (model P w) X.A (letOwnedTupleGo tg (.ref it) u) (fun _ s2=>∃ x H',Inv X pq σ H' s2/\RelV x u/\J.F9 i H x H'/\tn (i+1) s2.heap/\∀ b∈fp,H' b=none) E s1) E s
 done:∀(X:Cx),X.prog=P->X.w=w->X.K=K->X.calm=true->∀(i:Nat) (pq:aW) (s:Shared) (σ:St) (H:Hp) (E:ig),Inv X pq σ H s->(∀ b∈fp,mT X pq H b)->tn i s.heap->J.stop i H->
  wpAny (model P w) X.A (pyNext (.ref it)) (fun r s1=>r=none/\Inv X pq σ H s1) E s
 self:∀(A:Around) (i:Nat) (s:Shared) (Q:ig) (E:ig),tn i s.heap->Q (.ref it) s->wpAny (model P w) A (pyIter (.ref it)) Q E s
abbrev TI:=St->Hp->(It->Hp->Prop)->Prop
def Pg(X:Cx)(pq:aW)(σ:St)(tg:Expr)(R:It->Hp->Prop)(itv:Value)(s2:Shared):Prop :=
 ∃(it:Addr) (fp:List Addr) (tn:Nat->Heap->Prop) (J:It) (H' : Hp),itv = .ref it/\Inv X pq σ H' s2/\Turn X.prog X.w X.K tg J fp it tn/\tn 0 s2.heap/\(∀ b∈fp,mT X pq H' b)/\R J H'
def PI(X:Cx)(tg iter:Expr)(wi:TI):Prop :=
 ∀(pq:aW) (s:Shared) (σ:St) (H:Hp) (R:It->Hp->Prop),Inv X pq σ H s->wi σ H R->
  wpAny (model X.prog X.w) X.A (eval iter X.env) (fun v s1=>wpAny (model X.prog X.w) X.A (pyIter v) (Pg X pq σ tg R) X.xe s1) X.xe s
theorem HB{M:Model}{A:Around}{E:ig}{s:Shared}{tg:Expr}{it:Addr}{u:Value}{o:Obj}{n:String}{vs:Array Value}{Q:Unit->Shared->Prop}(ho:s.heap.get? it=some o)(hc:o.cls = .type n)(hd:o.data = .fields vs)
 (hn:["enumerate","zip","dict_itemiterator","dict_reverseitemiterator","odict_iterator","itertools.zip_longest","itertools.pairwise"].contains n=false) (hQ:Q () s):wpAny M A (letOwnedTupleGo tg (.ref it) u) Q E s:=by
 unfold letOwnedTupleGo;cases tg<;>first
  | exact wpAny_pure hQ
  | (cases u<;>first
   | exact wpAny_pure hQ
   | (refine dB (wpAny_load ho ?_)
      rw[hc,hd];show wpAny M A (if(["enumerate","zip","dict_itemiterator","dict_reverseitemiterator","odict_iterator","itertools.zip_longest","itertools.pairwise"].contains n&&vs[0]? == some (rawInt _))=true then _ else _) Q E s
      rw[if_neg (by intro h;rw[hn,Bool.false_and]at h;cases h)]
      exact wpAny_pure hQ))
def Ga(K:bO)(a:Addr):It :=
 ⟨fun i H=>∃ xs x,aO K H a xs/\xs[i]?=some x,fun i H x H'=>H' = H/\∀ xs,aO K H a xs->xs[i]?=some x,fun i H=>∃ xs,aO K H a xs/\xs.length<=i⟩
def Ds(lo:Int)(n:Nat):It:=⟨fun i _=>i<n,fun i H x H'=>H' = H/\x = .int (lo+i),fun i _=>n<=i⟩
theorem Bf{P:Program}{w:World}{K:bO}{tg:Expr}(a it:Addr):Turn P w K tg (Ga K a) [it] it (fun i h=>h.IsListIter it a i) where
 mem:=by simp
 obj:=fun i h st b hb=>by
  have e:b=it:=by simpa using hb
  subst e;obtain⟨o,e,c,d⟩:=st;exact⟨o,e,fun v z=>by rw[d]at z;cases z⟩
 keep:=fun i h h' st k=>st.at fun o e=>k it (by simp) o e
 item:=by
  intro X hP hw hK hc i pq s σ H E I hf st hg;subst hP hw hK;obtain⟨xs,x,hq,hx⟩:=hg;obtain⟨its,rv,p,hz⟩:=I.list hq;obtain⟨u,hu,ru⟩:=rv.get hx;obtain⟨f0,f1,f2,f3,f4,f5⟩:=hf it (by simp)
  refine wpAny_pyNext_list_item st p.isList (x:=u) (by simpa using hu) fun h' st' sb=>?_
  have I1:Inv X pq σ H { s with heap:=h'}:=I.turned (t':=s.toks) (fun b o hb e=>(sb.2 b hb).trans e) f0 f1 f3 f4 f5
  obtain⟨o,e,c,d⟩:=id st';exact⟨u,rfl,HB (s:={ s with heap:=h'}) e c d (by decide) ⟨x,H,I1,ru,⟨rfl,fun ys hy=>by rw[I.nH hy hq];exact hx⟩,st',fun b hb=>(hf b hb).1⟩⟩
 done:=by
  intro X hP hw hK hc i pq s σ H E I hf st hg;subst hP hw hK;obtain⟨xs,hq,hx⟩:=hg;obtain⟨its,rv,p,hz⟩:=I.list hq;obtain⟨f0,f1,f2,f3,f4,f5⟩:=hf it (by simp)
  have hl:=rv.length;exact wpAny_pyNext_list_end (I.ok.hd hc) st p.isList (by simp;lia) fun h' eb=>⟨rfl,I.turned (t':=s.toks) (fun b o hb e=>eb b o hb e) f0 f1 f3 f4 f5⟩
 self:=fun _ _ _ _ _ st h=>wpAny_pyIter_listiter st h
theorem yx{P:Program}{w:World}{K:bO}{tg:Expr}(it:Addr)(lo:Int)(n:Nat):Turn P w K tg (Ds lo n) [it] it (fun i h=>IsRangeIter h it (lo+(i:Nat)*1) ((n:Int)-(i:Nat)) 1) where
 mem:=by simp
 obj:=fun i h st b hb=>by
  have e:b=it:=by simpa using hb
  subst e;exact⟨_,st,fun v z=>by
   have z' : Data.fields _=Data.cell v:=z;cases z'⟩
 keep:=fun i h h' st k=>k it (by simp) _ st
 item:=by
  intro X hP hw hK hc i pq s σ H E I hf st hg;subst hP hw hK;obtain⟨f0,f1,f2,f3,f4,f5⟩:=hf it (by simp)
  have W:=Walks.range (prog:=X.prog) (w:=X.w) (I.ok.hd hc) it lo 1 n;refine W.item i s _ _ hg st fun v h' tk hv st' kk=>?_
  obtain⟨t,rfl⟩:=hv;have I1:Inv X pq σ H { s with heap:=h',toks:=tk}:=I.turned (fun b o hb e=>kk b o (by simpa using hb) e) f0 f1 f3 f4 f5
  refine⟨_,rfl,HB (s:={ s with heap:=h',toks:=tk}) (n:="range_iterator") st' rfl rfl (by decide) ⟨.int (lo+i),H,I1,⟨t,?_⟩,⟨rfl,rfl⟩,st',fun b hb=>(hf b hb).1⟩⟩
  rw[Int.mul_one]
 done:=by
  intro X hP hw hK hc i pq s σ H E I hf st hg;subst hP hw hK;obtain⟨f0,f1,f2,f3,f4,f5⟩:=hf it (by simp)
  exact wpAny_pyNext_range_end (I.ok.hd hc) st (by have:n<=i:=hg;lia) fun h' eb=>⟨rfl,I.turned (t':=s.toks) (fun b o hb e=>eb b o hb e) f0 f1 f3 f4 f5⟩
 self:=fun _ _ _ _ _ st h=>wpAny_pyIter_rangeiter st h
section
variable {X:Cx}{tg:Expr}
def HC(K:bO)(tl:TE):TI:=fun σ H R=>tl σ H fun x H1=>∃ a,x = .ref a/\(∃ xs,aO K H1 a xs)/\R (Ga K a) H1
theorem Gb{l:Expr}{tl:TE}(hl:PE X l tl):PI X tg l (HC X.K tl):=by
 intro pq s σ H R I h;refine eY (hl pq s σ H _ I h) fun v s1 ⟨x,H1,I1,r1,q1⟩=>?_
 obtain⟨a,e,⟨xs,hq⟩,q⟩:=q1;subst e;cases r1;obtain⟨its,rv,p,hz⟩:=I1.list hq;refine wpAny_pyIter_list p.isList ?_;refine⟨s1.heap.objs.size,[s1.heap.objs.size],_,_,H1,rfl,I1.kept (t':=s1.toks) fun b o e=>Heap.get?_push_of_some _ e,Bf a _,⟨_,Heap.get?_push_size _ rfl,rfl,rfl⟩,fun b hb=>?_,q⟩
 have e:b=s1.heap.objs.size:=by simpa using hb
 subst e;exact I1.Dr (Nat.le_refl _) (I1.hok.fresh (Nat.le_refl _))
theorem wF{pq:aW}{σ:St}{H:Hp}{s:Shared}{R:It->Hp->Prop}{E:ig}{lo hi:Int}{t u v:Tok}{tk:Nat}(I:Inv X pq σ H s)(h1 : -(2^62)<=lo)(h2:lo<2^62)(h3 : -(2^62)<=hi)(h4:hi<2^62)
 (q:R (Ds lo (hi-lo).toNat) H):wpAny (model X.prog X.w) X.A (pyIter (.ref s.heap.objs.size)) (Pg X pq σ tg R) E { s with heap:=s.heap.push { cls:=.type "range",data:=.fields #[.int lo t,.int hi u,.int 1 v]},toks:=tk}:=by
 refine wpAny_pyIter_range (IsRange.new ..) (small_one h1 h2 h3 h4) ?_;have I1:Inv X pq σ H { s with heap:=s.heap.push { cls:=.type "range",data:=.fields #[.int lo t,.int hi u,.int 1 v]},toks:=tk}:=I.kept fun b o e=>Heap.get?_push_of_some _ e
 refine⟨(s.heap.push { cls:=.type "range",data:=.fields #[.int lo t,.int hi u,.int 1 v]}).objs.size,[(s.heap.push { cls:=.type "range",data:=.fields #[.int lo t,.int hi u,.int 1 v]}).objs.size],_,_,H,rfl,
  I1.kept (t':=tk) fun b o e=>Heap.get?_push_of_some _ e,yx _ lo (hi-lo).toNat,?_,fun b hb=>?_,q⟩
 ·have e1:lo+((0:Nat):Int)*1=lo:=by simp
  have e2:(((hi-lo).toNat:Nat):Int)-((0:Nat):Int)=Builtin.Range.rangeSize lo hi 1:=by rw[rangeSize_one];split<;>lia
  show IsRangeIter _ _ (lo+((0:Nat):Int)*1) ((((hi-lo).toNat:Nat):Int)-((0:Nat):Int)) 1;rw[e1,e2];exact Heap.get?_push_size _ rfl
 ·have e:b=(s.heap.push { cls:=.type "range",data:=.fields #[.int lo t,.int hi u,.int 1 v]}).objs.size:=by simpa using hb
  subst e;exact I1.Dr (Nat.le_refl _) (I1.hok.fresh (Nat.le_refl _))
def K0(ta:TA):TI:=fun σ H R=>ta σ H fun vs H1=>∃ j:Int,vs=[.int j]/\-(2^62)<=j/\j<2^62/\R (Ds 0 j.toNat) H1
def K1(ta:TA):TI:=fun σ H R=>ta σ H fun vs H1=>∃ i j:Int,vs=[.int i,.int j]/\(-(2^62)<=i/\i<2^62/\-(2^62)<=j/\j<2^62)/\R (Ds i (j-i).toNat) H1
theorem cB{a:Expr}{ta:TA}{p pos:Pos}(hg:Gl X "range")(hm:X.mg "range"=none)(ha:PA X [a] ta)(hs:starEach [a] X.env=[(false,eval a X.env)]:=by rfl):PI X tg (.Call (.Name "range" p) [a] [] pos) (K0 ta):=by
 intro pq s σ H R I h;refine Call_ (k6 I hg hm boot_range (PyProof.Rows.callWith_type1 (eY (ha pos pq s σ H _ I h) fun us s1 ⟨vs,H1,I1,r1,q1⟩=>?_) hs rfl))
 obtain⟨j,e,q1,q2,q⟩:=q1;subst e;cases r1 with
 | cons r rr =>
   cases rr;obtain⟨t,rfl⟩:=r;exact call_range_1 (wF I1 (by lia) (by lia) q1 q2 (by simpa using q))
theorem Bg{a b:Expr}{ta:TA}{p pos:Pos}(hg:Gl X "range")(hm:X.mg "range"=none)(ha:PA X [a,b] ta)(hs:starEach [a,b] X.env=[(false,eval a X.env),(false,eval b X.env)]:=by rfl)(hs2:starEach [b] X.env=[(false,eval b X.env)]:=by rfl):
 PI X tg (.Call (.Name "range" p) [a,b] [] pos) (K1 ta):=by
 intro pq s σ H R I h;refine Call_ (k6 I hg hm boot_range (PyProof.Rows.callWith_type1 (eY (ha pos pq s σ H _ I h) fun us s1 ⟨vs,H1,I1,r1,q1⟩=>?_) (by rw[hs,hs2]) (by rw[hs2];rfl)))
 obtain⟨i,j,e,⟨q1,q2,q3,q4⟩,q⟩:=q1;subst e;cases r1 with
 | cons r rr =>
   cases rr with
   | cons r' rr =>
     cases rr;obtain⟨t,rfl⟩:=r;obtain⟨t',rfl⟩:=r';exact call_range_2 (wF I1 q1 q2 q3 q4 q)
def dY(wi:TI)(g:TG)(tb:TS):TS:=fun D σ H=>wi σ H fun J H1=>∃ W:Nat->Nat->St->Hp->Prop,(∃ m,W 0 m σ H1)/\∀ i m σ H,W i m σ H->
 (J.stop i H/\D.nx σ H)\/(J.go i H/\∃ N:St->Hp->Prop,(∀ σ' H',N σ' H'->∃ m',m'<m/\W (i+1) m' σ' H')/\∀ x H',J.F9 i H x H'->g x σ H' fun σ2 H2=>tb { D with nx:=N,ct:=N,bk:=D.nx} σ2 H2)
def oW(fp:List Addr)(h:Heap):aW:=fp.filterMap fun b=>(h.get? b).map fun o=>(b,o)
theorem gw{fp:List Addr}{h:Heap}{b:Addr}{o:Obj}(hb:b∈fp)(e:h.get? b=some o):(b,o)∈oW fp h:=List.mem_filterMap.mpr ⟨b,hb,by rw[e];rfl⟩
theorem Bh{fp:List Addr}{h:Heap}{p:Addr×Obj}(hp:p∈oW fp h):p.1∈fp/\h.get? p.1=some p.2:=by
 obtain⟨b,hb,e⟩:=List.mem_filterMap.mp hp;cases q:h.get? b with
 | none=>rw[q]at e;cases e
 | some o =>
   rw[q]at e;have e' : (b,o)=p:=Option.some.inj e;subst e';exact⟨hb,q⟩
theorem Inv.pinned{pq:aW}{σ:St}{H:Hp}{s:Shared}{fp:List Addr}(I:Inv X pq σ H s)(hf:∀ b∈fp,mT X pq H b)(ho:∀ b∈fp,∃ o,s.heap.get? b=some o/\∀ v,o.data≠.cell v):Inv X (pq++oW fp s.heap) σ H s :=
 I.iq fun p hp=>(List.mem_append.mp hp).elim (fun z=>I.pin p (oU _ z)) fun z=>by
  obtain⟨hb,e⟩:=Bh z;obtain⟨f0,f1,f2,_⟩:=hf p.1 hb;obtain⟨o,e',d⟩:=ho p.1 hb;rw[e]at e';cases e';exact⟨e,f0,f1,f2,d⟩
theorem Inv.iN{pq pl:aW}{σ:St}{H:Hp}{s:Shared}(I:Inv X (pq++pl) σ H s):Inv X pq σ H s:=I.iq fun p hp=>I.pin p (oU _ (Kf _ hp))
theorem eT{iter:Expr}{body:List Stmt}{wi:TI}{g:TG}{tb:TS}{pos:Pos}(hp:PassesOwn (model X.prog X.w) X.A X.env X.xe)(hc:X.calm=true)(hi:PI X tg iter wi)(hg:PG X tg g)(hb:qR X body tb)
 (hs:∀ x,foldedSetIterable iter X.env x=pure x:=by intro _;rfl):PS X (.For tg iter body [] pos) (dY wi g tb):=by
 intro pq s σ H D I h;refine wpAny_For (eY (hi pq s σ H _ I h) fun v s1 h1=>eY h1 fun itv s2 h2=>?_) hs
 obtain⟨it,fp,tn,J,H2,e,I2,T,st2,f2,W,⟨m0,w0⟩,turn⟩:=h2;subst e;have yy:∀{H' : Hp},(∀ b∈fp,H' b=none)->∀ b∈fp,mT X pq H' b:=fun hn b hb=>⟨hn b hb,(f2 b hb).2⟩
 refine codeAny_forLoop_any (fun n s'=>∃ i σ' H',Inv X pq σ' H' s'/\tn i s'.heap/\(∀ b∈fp,H' b=none)/\W i n σ' H') ?_ m0 ⟨0,σ,H2,I2,st2,fun b hb=>(f2 b hb).1,w0⟩
 rintro n s3 ⟨i,σ3,H3,I3,st3,HD,w3⟩;rcases turn i n σ3 H3 w3 with⟨stop,qn⟩|⟨go,N,hN,step⟩
 ·refine wpAny_passesOwn hp (eY (T.done X rfl rfl rfl hc i pq s3 σ3 H3 X.xe I3 (yy HD) st3 stop) fun r s4 ⟨hr,I4⟩=>?_)
  subst hr;exact wpAny_execs_nil ⟨σ3,H3,I4,qn⟩
 ·refine wpAny_passesOwn hp (eY (T.item X rfl rfl rfl hc i pq s3 σ3 H3 X.xe I3 (yy HD) st3 go) fun r s4 ⟨u,hr,h4⟩=>?_)
  subst hr;refine wpAny_passesOwn hp (eY h4 fun _ s5 ⟨x,H5,I5,r5,y5,Dt,K2⟩=>?_)
  have K3:=I5.pinned (yy K2) (T.obj _ _ Dt);refine wpAny_passesOwn hp (eY (hg _ s5 σ3 H5 x u _ K3 r5 (step x H5 y5)) fun _ s6 ⟨σ6,H6,I6,q6⟩=>?_)
  refine wpAny_passesOwn hp (eY (hb _ s6 σ6 H6 _ I6 q6) fun f s7 q7=>?_)
  have again:∀{σ7:St} {H7:Hp},Inv X (pq++oW fp s5.heap) σ7 H7 s7->N σ7 H7->∃ m,m<n/\∃ i σ' H',Inv X pq σ' H' s7/\tn i s7.heap/\(∀ b∈fp,H' b=none)/\W i m σ' H':=fun {σ7 H7} I7 n7=>by
   obtain⟨m',hm,w7⟩:=hN σ7 H7 n7;refine⟨m',hm,i+1,σ7,H7,I7.iN,T.keep _ _ _ Dt fun b hb o e=>(I7.pin (b,o) (oU _ (oU _ (gw hb e)))).1,fun b hb=>?_,w7⟩
   obtain⟨o,e,d⟩:=T.obj _ _ Dt b hb;exact(I7.pin (b,o) (oU _ (oU _ (gw hb e)))).2.1
  cases f with
  | next=>obtain⟨σ7,H7,I7,n7⟩:=q7;exact again I7 n7
  | cont=>obtain⟨σ7,H7,I7,n7⟩:=q7;exact again I7 n7
  | brk=>obtain⟨σ7,H7,I7,q7⟩:=q7;exact⟨σ7,H7,I7.iN,q7⟩
  | ret v=>obtain⟨x7,σ7,H7,I7,r7,q7⟩:=q7;exact⟨x7,σ7,H7,I7.iN,r7,q7⟩
end
theorem Du{K:bO}{a:Addr}{xs:List V}{g:TG}{tb:TS}{D:Ends}{σ:St}{H:Hp}(Pv:Nat->St->Hp->Prop)(h0:Pv 0 σ H)(hl:∀ i σ H,i<=xs.length->Pv i σ H->aO K H a xs)
 (hs:∀ i x σ H,xs[i]?=some x->Pv i σ H->g x σ H fun σ2 H2=>tb { D with nx:=Pv (i+1),ct:=Pv (i+1),bk:=D.nx} σ2 H2) (hd:∀ σ H,Pv xs.length σ H->D.nx σ H) :
 ∃ W:Nat->Nat->St->Hp->Prop,(∃ m,W 0 m σ H)/\∀ i m σ H,W i m σ H->
   ((Ga K a).stop i H/\D.nx σ H)\/((Ga K a).go i H/\∃ N:St->Hp->Prop,(∀ σ' H',N σ' H'->∃ m',m'<m/\W (i+1) m' σ' H')/\∀ x H',(Ga K a).F9 i H x H'->g x σ H' fun σ2 H2=>tb { D with nx:=N,ct:=N,bk:=D.nx} σ2 H2):=by
 refine⟨fun i m σ H=>m=xs.length-i/\i<=xs.length/\Pv i σ H,⟨xs.length,by simp,Nat.zero_le _,h0⟩,?_⟩
 rintro i m σ H ⟨rfl,hi,p⟩;have q:=hl i σ H hi p
 by_cases hlt:i<xs.length
 ·refine .inr ⟨⟨xs,xs[i],q,by simp[hlt]⟩,Pv (i+1),fun σ' H' p'=>⟨xs.length-(i+1),by lia,rfl,hlt,p'⟩,fun x H' y=>?_⟩
  obtain⟨e,y⟩:=y;subst e;exact hs i x σ _ (y xs q) p
 ·have e:i=xs.length:=by lia
  subst e;exact .inl ⟨⟨xs,q,Nat.le_refl _⟩,hd σ H p⟩
theorem Bj{lo:Int}{n:Nat}{g:TG}{tb:TS}{D:Ends}{σ:St}{H:Hp}(Pv:Nat->St->Hp->Prop)(h0:Pv 0 σ H)
 (hs:∀ i σ H,i<n->Pv i σ H->g (.int (lo+i)) σ H fun σ2 H2=>tb { D with nx:=Pv (i+1),ct:=Pv (i+1),bk:=D.nx} σ2 H2) (hd:∀ σ H,Pv n σ H->D.nx σ H) :
 ∃ W:Nat->Nat->St->Hp->Prop,(∃ m,W 0 m σ H)/\∀ i m σ H,W i m σ H->
   ((Ds lo n).stop i H/\D.nx σ H)\/((Ds lo n).go i H/\∃ N:St->Hp->Prop,(∀ σ' H',N σ' H'->∃ m',m'<m/\W (i+1) m' σ' H')/\∀ x H',(Ds lo n).F9 i H x H'->g x σ H' fun σ2 H2=>tb { D with nx:=N,ct:=N,bk:=D.nx} σ2 H2):=by
 refine⟨fun i m σ H=>m=n-i/\i<=n/\Pv i σ H,⟨n,by simp,Nat.zero_le _,h0⟩,?_⟩
 rintro i m σ H ⟨rfl,hi,p⟩
 by_cases hlt:i<n
 ·refine .inr ⟨hlt,Pv (i+1),fun σ' H' p'=>⟨n-(i+1),by lia,rfl,hlt,p'⟩,fun x H' y=>?_⟩
  obtain⟨e,y⟩:=y;subst e y;exact hs i σ _ hlt p
 ·have e:i=n:=by lia
  subst e;exact .inl ⟨Nat.le_refl _,hd σ H p⟩
abbrev R2:=V->V->Hp->VK->Prop
def kR(X:Cx)(f:Value->Value->Sem Value)(r:R2):Prop :=
 ∀(pq:aW) (s:Shared) (σ:St) (H:Hp) (x y:V) (v u:Value) (Q:VK),Inv X pq σ H s->RelV x v->RelV y u->r x y H Q->
  wpAny (model X.prog X.w) X.A (f v u) (EP X pq σ Q) X.xe s
def NJ(X:Cx)(f:Value->Sem Value)(r:V->Hp->VK->Prop):Prop :=
 ∀(pq:aW) (s:Shared) (σ:St) (H:Hp) (x:V) (v:Value) (Q:VK),Inv X pq σ H s->RelV x v->r x H Q->
  wpAny (model X.prog X.w) X.A (f v) (EP X pq σ Q) X.xe s
def eZ(X:Cx)(f:Value)(r:List V->Hp->VK->Prop):Prop :=
 ∀(pq:aW) (s:Shared) (σ:St) (H:Hp) (xs:List V) (us:List Value) (Q:VK),Inv X pq σ H s->Vals xs us->r xs H Q->
  wpAny (model X.prog X.w) X.A (call f us) (EP X pq σ Q) X.xe s
def K4(r:R2)(ta tb:TE):TE:=fun σ H Q=>ta σ H fun x H1=>tb σ H1 fun y H2=>r x y H2 Q
def Ru(r:V->Hp->VK->Prop)(ta:TE):TE:=fun σ H Q=>ta σ H fun x H1=>r x H1 Q
def rI(C:Int->Int->Prop)(g:Int->Int->V):R2:=fun x y H Q=>∃ i j,x = .int i/\y = .int j/\C i j/\Q (g i j) H
def Bk(g:Int->Int->V):R2:=fun x y H Q=>∃ i j,x = .int i/\y = .int j/\Q (g i j) H
def rU(g:Int->V):V->Hp->VK->Prop:=fun x H Q=>∃ i,x = .int i/\Q (g i) H
section
variable {X:Cx}{a b c:Expr}{ta tb tc:TE}{pos:Pos}
theorem ID(ha:PE X a ta)(hb:PE X b tb){pq:aW}{s:Shared}{σ:St}{H:Hp}{R:V->V->Hp->Prop}(I:Inv X pq σ H s)
 (h:ta σ H fun x H1=>tb σ H1 fun y H2=>R x y H2) {Q:ig} {f:Value->Value->Sem Value}
 (hf:∀ v u s2 x y H2,Inv X pq σ H2 s2->RelV x v->RelV y u->R x y H2->wpAny (model X.prog X.w) X.A (f v u) Q X.xe s2) :
 wpAny (model X.prog X.w) X.A (eval a X.env) (fun v s₁=>wpAny (model X.prog X.w) X.A (eval b X.env) (fun u s₂=>wpAny (model X.prog X.w) X.A (f v u) Q X.xe s₂) X.xe s₁) X.xe s:=by
 refine eY (ha pq s σ H _ I h) fun v s1 ⟨x,H1,I1,r1,q1⟩=>?_
 refine eY (hb pq s1 σ H1 _ I1 q1) fun u s2 ⟨y,H2,I2,r2,q2⟩=>?_
 exact hf v u s2 x y H2 I2 r1 r2 q2
theorem aK{op:Operator}{r:R2}(ho:kR X (binaryOp op) r)(ha:PE X a ta)(hb:PE X b tb):PE X (.BinOp a op b pos) (K4 r ta tb):=by
 intro pq s σ H Q I h;exact wpAny_BinOp (ID ha hb I h fun v u s2 x y H2 I2 rx ry q=>ho pq s2 σ H2 x y v u Q I2 rx ry q)
theorem Dv{op:UnaryOp}{r:V->Hp->VK->Prop}(ho:NJ X (unaryOp op) r)(ha:PE X a ta):PE X (.UnaryOp op a pos) (Ru r ta):=by
 intro pq s σ H Q I h;exact UnaryOp_ (eY (ha pq s σ H _ I h) fun v s1 ⟨x,H1,I1,r1,q1⟩=>ho pq s1 σ H1 x v Q I1 r1 q1)
theorem Kn{f:Value->Value->Sem Value}{C:Int->Int->Prop}{g:Int->Int->Int}
 (rule:∀(i j:Int) (t u:Tok) (s:Shared) (Q:ig) (E:ig),C i j->Q (.int (g i j) s.toks) { s with toks:=s.toks+1}->wpAny (model X.prog X.w) X.A (f (.int i t) (.int j u)) Q E s) :
 kR X f (rI C fun i j=>.int (g i j)):=by
 intro pq s σ H x y v u Q I rx ry h;obtain⟨i,j,rfl,rfl,hc,q⟩:=h;obtain⟨t,rfl⟩:=rx;obtain⟨t',rfl⟩:=ry;exact rule i j t t' s _ _ hc ⟨.int (g i j),H,I.tok _,⟨_,rfl⟩,q⟩
theorem yz{f:Value->Value->Sem Value}{g:Int->Int->Int}
 (rule:∀(i j:Int) (t u:Tok) (s:Shared) (Q:ig) (E:ig),Q (.int (g i j) s.toks) { s with toks:=s.toks+1}->wpAny (model X.prog X.w) X.A (f (.int i t) (.int j u)) Q E s) :
 kR X f (Bk fun i j=>.int (g i j)):=by
 intro pq s σ H x y v u Q I rx ry h;obtain⟨i,j,rfl,rfl,q⟩:=h;obtain⟨t,rfl⟩:=rx;obtain⟨t',rfl⟩:=ry;exact rule i j t t' s _ _ ⟨.int (g i j),H,I.tok _,⟨_,rfl⟩,q⟩
theorem Gd{f:Value->Value->Sem Value}{g:Int->Int->Bool}
 (rule:∀(i j:Int) (t u:Tok) (s:Shared) (Q:ig) (E:ig),Q (.bool (g i j)) s->wpAny (model X.prog X.w) X.A (f (.int i t) (.int j u)) Q E s) :
 kR X f (Bk fun i j=>.bl (g i j)):=by
 intro pq s σ H x y v u Q I rx ry h;obtain⟨i,j,rfl,rfl,q⟩:=h;obtain⟨t,rfl⟩:=rx;obtain⟨t',rfl⟩:=ry;exact rule i j t t' s _ _ ⟨.bl (g i j),H,I,rfl,q⟩
def NK(i j:Int):Prop:=0<j/\j<1073741824
def K5(i j:Int):Prop:=0<=j/\j<=1000000/\i.natAbs<2^64
def IE(i j:Int):Prop:=(-(2^64)<i/\i<2^64)\/(-(2^64)<j/\j<2^64)
theorem IE.ok{i j:Int}(h:IE i j):IntMulOk i j:=by
 rcases h with⟨h1,h2⟩|⟨h1,h2⟩
 ·exact .of_left (intBits_le_64 h1 h2)
 ·exact .of_right (intBits_le_64 h1 h2)
theorem yC(k:Nat):(0:Int)<=2^k:=by
 rw[two_pow_cast];exact Int.natCast_nonneg _
theorem eU:kR X (binaryOp .Add) (Bk fun i j=>.int (i+j)):=yz fun _ _ _ _ _ _ _ q=>add_int q
theorem iO:kR X (binaryOp .Sub) (Bk fun i j=>.int (i-j)):=yz fun _ _ _ _ _ _ _ q=>sub_int q
theorem uQ:kR X (binaryOp .Mult) (rI IE fun i j=>.int (i*j)):=Kn fun _ _ _ _ _ _ _ hc q=>mul_int q hc.ok
theorem nI:kR X (binaryOp .FloorDiv) (rI NK fun i j=>.int (i/j)):=Kn fun i j _ _ _ _ _ hc q=>by
 have h1:(0:Int)<j:=hc.1;have h2:j<1073741824:=hc.2;exact floordiv_int (by lia) (by rw[Int.fdiv_eq_ediv_of_nonneg i (by lia)];exact q) (.inl (PyProof.noPylong_small (by lia)))
theorem cR:kR X (binaryOp .Mod) (rI (fun _ j=>0<j) fun i j=>.int (i%j)):=Kn fun i j _ _ _ _ _ hc q=>by
 have h1:(0:Int)<j:=hc;exact mod_int' (by lia) (by rw[Int.fmod_eq_emod_of_nonneg i (by lia)];exact q)
theorem Dw:kR X (binaryOp .Pow) (rI K5 fun i j=>.int (i^j.toNat)):=Kn fun _ _ _ _ _ _ _ hc q=>pow_int_small hc.1 hc.2.1 hc.2.2 q
theorem jv:kR X (binaryOp .LShift) (rI K5 fun i j=>.int (i*2^j.toNat)):=Kn fun _ _ _ _ _ _ _ hc q=>lshift_int_small hc.1 hc.2.1 hc.2.2 q
theorem uR:kR X (binaryOp .RShift) (rI (fun _ j=>0<=j) fun i j=>.int (i/2^j.toNat)):=Kn fun i j _ _ _ _ _ hc q =>
 rshift_int hc (by rw[Int.fdiv_eq_ediv_of_nonneg i (yC _)];exact q)
theorem uS:kR X (binaryOp .BitAnd) (Bk fun i j=>.int (Builtin.bitAnd i j)):=yz fun _ _ _ _ _ _ _ q=>and_int q
theorem iP:kR X (binaryOp .BitXor) (Bk fun i j=>.int (Builtin.bitXor i j)):=yz fun _ _ _ _ _ _ _ q=>xor_int q
theorem Ah:kR X (inplaceOp .Add) (Bk fun i j=>.int (i+j)):=yz fun _ _ _ _ _ _ _ q=>iadd_int q
theorem Dy:kR X (inplaceOp .BitOr) (Bk fun i j=>.int (Builtin.bitOr i j)):=yz fun _ _ _ _ _ _ _ q=>ior_int q
theorem uT:kR X (inplaceOp .BitXor) (Bk fun i j=>.int (Builtin.bitXor i j)):=yz fun _ _ _ _ _ _ _ q=>ixor_int q
theorem Rv{f:Value->Sem Value}{g:Int->Int}
 (rule:∀(i:Int) (t:Tok) (s:Shared) (Q:ig) (E:ig),Q (.int (g i) s.toks) { s with toks:=s.toks+1}->wpAny (model X.prog X.w) X.A (f (.int i t)) Q E s) :
 NJ X f (rU fun i=>.int (g i)):=by
 intro pq s σ H x v Q I rx h;obtain⟨i,rfl,q⟩:=h;obtain⟨t,rfl⟩:=rx;exact rule i t s _ _ ⟨.int (g i),H,I.tok _,⟨_,rfl⟩,q⟩
theorem yD:NJ X (unaryOp .USub) (rU fun i=>.int (-i)):=Rv fun _ _ _ _ _ q=>neg_int q
end
def K6:V->V->Bool
 | .fL,.fL=>true | .fL,.int _=>true | .int _,.fL=>true | .fL,.bl _=>true | .bl _,.fL=>true | .fL,.str _=>true | .str _,.fL=>true
 | .int _,.int _=>true | .bl _,.bl _=>true | .str _,.str _=>true | .De _,.De _=>true
 | .int _,.str _=>true | .str _,.int _=>true | .bl _,.str _=>true | .str _,.bl _=>true
 | _,_=>false
def Rx:R2:=fun x y H Q=>K6 x y=true/\Q (.bl (decide (x=y))) H
def Ry:R2:=fun x y H Q=>K6 x y=true/\Q (.bl (!decide (x=y))) H
theorem Ai{i j:Int}:decide (V.int i=V.int j)=(i==j):=by
 rw[Bool.eq_iff_iff];simp
theorem Dz{i j:Bool}:decide (V.bl i=V.bl j)=(i==j):=by
 rw[Bool.eq_iff_iff];simp
theorem Aj{i j:Str}:decide (V.str i=V.str j)=(i==j):=by
 rw[Bool.eq_iff_iff];simp
theorem Ak{i j:Array UInt8}:decide (V.De i=V.De j)=(i.toList==j.toList):=by
 rw[Bool.eq_iff_iff];cases i;cases j;simp
section
variable {X:Cx}{a b c:Expr}{ta tb tc:TE}{pos:Pos}
theorem bz{pq:aW}{σ:St}{H:Hp}{s:Shared}{Q:VK}{k k' : Bool}(I:Inv X pq σ H s)(q:Q (.bl k) H)(e:k=k'):EP X pq σ Q (.bool k') s:=by
 subst e;exact⟨.bl k,H,I,rfl,q⟩
theorem bZ:kR X (compareOp .Eq) Rx:=by
 intro pq s σ H x y v u Q I rx ry h;obtain⟨hs,q⟩:=h;cases x with
 | fL =>
   cases rx;cases y with
   | fL=>cases ry;exact PySem.EqNone.eq_none_none (bz I q (by simp))
   | bl j=>cases ry;exact PySem.EqNone.eq_none_bool (bz I q (by simp))
   | int j=>obtain⟨t',rfl⟩:=ry;exact PySem.EqNone.eq_none_int (bz I q (by simp))
   | str j=>obtain⟨t',rfl⟩:=ry;exact PySem.EqNone.eq_none_str (bz I q (by simp))
   | _=>exact absurd (show false=true from hs) Bool.false_ne_true
 | bl i =>
   cases rx;cases y with
   | fL=>cases ry;exact PySem.EqNone.eq_bool_none (bz I q (by simp))
   | bl j=>cases ry;exact eq_bool (bz I q Dz)
   | str j=>obtain⟨t',rfl⟩:=ry;exact PySem.EqMixed.eq_bool_str (bz I q (by simp))
   | _=>exact absurd (show false=true from hs) Bool.false_ne_true
 | int i =>
   obtain⟨t,rfl⟩:=rx;cases y with
   | fL=>cases ry;exact PySem.EqNone.eq_int_none (bz I q (by simp))
   | int j=>obtain⟨t',rfl⟩:=ry;exact eq_int (bz I q Ai)
   | str j=>obtain⟨t',rfl⟩:=ry;exact PySem.EqMixed.eq_int_str (bz I q (by simp))
   | _=>exact absurd (show false=true from hs) Bool.false_ne_true
 | str i =>
   obtain⟨t,rfl⟩:=rx;cases y with
   | fL=>cases ry;exact PySem.EqNone.eq_str_none (bz I q (by simp))
   | bl j=>cases ry;exact PySem.EqMixed.eq_str_bool (bz I q (by simp))
   | int j=>obtain⟨t',rfl⟩:=ry;exact PySem.EqMixed.eq_str_int (bz I q (by simp))
   | str j=>obtain⟨t',rfl⟩:=ry;exact eq_str (bz I q Aj)
   | _=>exact absurd (show false=true from hs) Bool.false_ne_true
 | De i =>
   obtain⟨t,rfl⟩:=rx;cases y with
   | De j=>obtain⟨t',rfl⟩:=ry;exact PySem.W.eq_bytes (bz I q Ak)
   | _=>exact absurd (show false=true from hs) Bool.false_ne_true
 | _=>cases y<;>exact absurd (show false=true from hs) Bool.false_ne_true
theorem qV:kR X (compareOp .NotEq) Ry:=by
 intro pq s σ H x y v u Q I rx ry h;obtain⟨hs,q⟩:=h;cases x with
 | fL =>
   cases rx;cases y with
   | fL=>cases ry;exact PySem.EqNone.ne_none_none (bz I q (by simp))
   | bl j=>cases ry;exact PySem.EqNone.ne_none_bool (bz I q (by simp))
   | int j=>obtain⟨t',rfl⟩:=ry;exact PySem.EqNone.ne_none_int (bz I q (by simp))
   | str j=>obtain⟨t',rfl⟩:=ry;exact PySem.EqNone.ne_none_str (bz I q (by simp))
   | _=>exact absurd (show false=true from hs) Bool.false_ne_true
 | bl i =>
   cases rx;cases y with
   | fL=>cases ry;exact PySem.EqNone.ne_bool_none (bz I q (by simp))
   | bl j=>cases ry;exact ne_bool (bz I q (congrArg not Dz))
   | str j=>obtain⟨t',rfl⟩:=ry;exact PySem.EqMixed.ne_bool_str (bz I q (by simp))
   | _=>exact absurd (show false=true from hs) Bool.false_ne_true
 | int i =>
   obtain⟨t,rfl⟩:=rx;cases y with
   | fL=>cases ry;exact PySem.EqNone.ne_int_none (bz I q (by simp))
   | int j=>obtain⟨t',rfl⟩:=ry;exact ne_int (bz I q (congrArg not Ai))
   | str j=>obtain⟨t',rfl⟩:=ry;exact PySem.EqMixed.ne_int_str (bz I q (by simp))
   | _=>exact absurd (show false=true from hs) Bool.false_ne_true
 | str i =>
   obtain⟨t,rfl⟩:=rx;cases y with
   | fL=>cases ry;exact PySem.EqNone.ne_str_none (bz I q (by simp))
   | bl j=>cases ry;exact PySem.EqMixed.ne_str_bool (bz I q (by simp))
   | int j=>obtain⟨t',rfl⟩:=ry;exact PySem.EqMixed.ne_str_int (bz I q (by simp))
   | str j=>obtain⟨t',rfl⟩:=ry;exact ne_str (bz I q (congrArg not Aj))
   | _=>exact absurd (show false=true from hs) Bool.false_ne_true
 | De i =>
   obtain⟨t,rfl⟩:=rx;cases y with
   | De j=>obtain⟨t',rfl⟩:=ry;exact PySem.W.ne_bytes (bz I q (congrArg not Ak))
   | _=>exact absurd (show false=true from hs) Bool.false_ne_true
 | _=>cases y<;>exact absurd (show false=true from hs) Bool.false_ne_true
theorem nJ:kR X (compareOp .Lt) (Bk fun i j=>.bl (decide (i<j))):=Gd fun _ _ _ _ _ _ _ q=>lt_int q
theorem qW:kR X (compareOp .LtE) (Bk fun i j=>.bl (decide (i<=j))):=Gd fun _ _ _ _ _ _ _ q=>le_int q
theorem pZ:kR X (compareOp .Gt) (Bk fun i j=>.bl (decide (j<i))):=Gd fun _ _ _ _ _ _ _ q=>gt_int q
theorem Al:kR X (compareOp .GtE) (Bk fun i j=>.bl (decide (j<=i))):=Gd fun _ _ _ _ _ _ _ q=>ge_int q
theorem IF:kR X (compareOp .Is) (fun x y H Q=>y = .fL/\Q (.bl (decide (x = .fL))) H):=by
 intro pq s σ H x y v u Q I rx ry h;obtain⟨rfl,q⟩:=h;cases ry;refine is_none_gen (bz I q ?_);cases x<;>first
  | (cases rx;rfl)
  | (obtain⟨t,rfl⟩:=rx;rfl)
theorem Ge:kR X (compareOp .IsNot) (fun x y H Q=>y = .fL/\Q (.bl (!decide (x = .fL))) H):=by
 intro pq s σ H x y v u Q I rx ry h;obtain⟨rfl,q⟩:=h;cases ry;refine isnot_none_gen (bz I q ?_);cases x<;>first
  | (cases rx;rfl)
  | (obtain⟨t,rfl⟩:=rx;rfl)
theorem aH(b:Expr){op:CmpOp}(h:op≠.In:=by decide)(h2:op≠.NotIn:=by decide):behindInMarks op b=false:=by
 have e1:(op==CmpOp.In)=false:=by cases op<;>first | rfl | exact absurd rfl h
 have e2:(op==CmpOp.NotIn)=false:=by cases op<;>first | rfl | exact absurd rfl h2
 cases b<;>simp[behindInMarks,e1,e2]
theorem bI{op:CmpOp}{r:R2}(ho:kR X (compareOp op) r)(ha:PE X a ta)(hb:PE X b tb)(hm:behindInMarks op b=false):PE X (.Compare a [op] [b] pos) (K4 r ta tb):=by
 intro pq s σ H Q I h;exact wpAny_Compare1 (ID ha hb I h fun v u s2 x y H2 I2 rx ry q=>ho pq s2 σ H2 x y v u Q I2 rx ry q) hm
def K7(t:TE):TT:=fun σ H Q=>t σ H fun x H'=>∃ k,x = .bl k/\Q k H'
theorem aJ{op:CmpOp}{r:R2}(ho:kR X (compareOp op) r)(ha:PE X a ta)(hb:PE X b tb)(hm:behindInMarks op b=false):PT X (.Compare a [op] [b] pos) (K7 (K4 r ta tb)):=by
 intro pq s σ H Q I h;refine wpAny_isTrue_Compare1 (eY (ha pq s σ H _ I h) fun v s1 ⟨x,H1,I1,r1,q1⟩=>eY (hb pq s1 σ H1 _ I1 q1) fun u s2 ⟨y,H2,I2,r2,q2⟩ =>
  eY (ho pq s2 σ H2 x y v u _ I2 r1 r2 q2) fun c s3 ⟨z,H3,I3,r3,k,e,q3⟩=>?_) hm
 subst e;cases r3;exact wpAny_truthy_bool ⟨H3,I3,q3⟩
theorem oX:(sizeLine:Nat)<2^63:=by rw[sizeLine_eq];decide
theorem vals1{x:V}{us:List Value}(r:Vals [x] us):∃ u,us=[u]/\RelV x u:=by
 cases r with
 | cons r1 r2=>cases r2;exact⟨_,rfl,r1⟩
theorem vals2{x y:V}{us:List Value}(r:Vals [x,y] us):∃ u w',us=[u,w']/\RelV x u/\RelV y w':=by
 cases r with
 | cons r1 r2 =>
   cases r2 with
   | cons r3 r4=>cases r4;exact⟨_,_,rfl,r1,r3⟩
theorem oY(hc:X.calm=true):eZ X (.builtin "max") (fun xs H Q=>∃ i j,xs=[.int i,.int j]/\Q (.int (if j > i then j else i)) H):=by
 intro pq s σ H xs us Q I r h;obtain⟨i,j,rfl,q⟩:=h;obtain⟨u,w',rfl,⟨t,rfl⟩,⟨t',rfl⟩⟩:=vals2 r;refine max_two_ints (I.ok.hd hc) fun h' tk k=>⟨_,H,I.kept k,?_,q⟩
 by_cases hj:j > i
 ·rw[if_pos hj,if_pos hj];exact⟨_,rfl⟩
 ·rw[if_neg hj,if_neg hj];exact⟨_,rfl⟩
theorem Bm(hc:X.calm=true):eZ X (.builtin "min") (fun xs H Q=>∃ i j,xs=[.int i,.int j]/\Q (.int (if j<i then j else i)) H):=by
 intro pq s σ H xs us Q I r h;obtain⟨i,j,rfl,q⟩:=h;obtain⟨u,w',rfl,⟨t,rfl⟩,⟨t',rfl⟩⟩:=vals2 r;refine min_two_ints (I.ok.hd hc) fun h' tk k=>⟨_,H,I.kept k,?_,q⟩
 by_cases hj:j<i
 ·rw[if_pos hj,if_pos hj];exact⟨_,rfl⟩
 ·rw[if_neg hj,if_neg hj];exact⟨_,rfl⟩
theorem lV:eZ X (.type "int") (fun xs H Q=>(∃ i,xs=[.int i]/\Q (.int i) H)\/∃ k,xs=[.bl k]/\Q (.int (if k then 1 else 0)) H):=by
 intro pq s σ H xs us Q I r h;rcases h with⟨i,rfl,q⟩|⟨k,rfl,q⟩
 ·obtain⟨u,rfl,t,rfl⟩:=vals1 r;exact call_int_int ⟨.int i,H,I,⟨_,rfl⟩,q⟩
 ·obtain⟨u,rfl,r1⟩:=vals1 r;cases r1;exact call_int_bool ⟨.int (if k then 1 else 0),H,I.tok _,⟨_,rfl⟩,q⟩
end
structure IG(h:Heap)(x dx C:Addr)(mA:kX):Prop where
 obj:h.get? x=some (PySem.W.instObj C dx)
 ns:h.Ns1 dx mA
 ne:dx≠x
theorem Bo{h:Heap}{dx:Addr}{mA:kX}(n:h.Ns1 dx mA):∃ od,h.get? dx=some od/\∀ name,PySem.W.lookIn name od=some (mA name):=by
 obtain⟨o,es,ep,ho,hd,hk,_,hm⟩:=n;refine⟨o,ho,fun name=>?_⟩
 have e:=hm name;unfold nsFind findBy at e;rw[<-Array.find?_toList]at e;unfold PySem.W.lookIn;rw[hd];dsimp only
 split
 ·rename_i y q
  rw[q]at e;exact congrArg some e
 ·rename_i q
  rw[q]at e;have a:es.toList.any (·.refKey)=false:=by
   rw[List.any_eq_false];intro y hy;obtain⟨z,t,hkey⟩:=hk y (Array.mem_toList_iff.mp hy);simp[DictEntry.refKey,hkey]
  have a' : ¬ es.toList.any (·.refKey)=true:=by rw[a];exact Bool.false_ne_true
  rw[if_neg a'];exact congrArg some e
theorem IG.look{h:Heap}{x dx C:Addr}{mA:kX}(I:IG h x dx C mA):∃ od,PySem.W.InstAt h x (PySem.W.instObj C dx) C (some od)/\∀ name,PySem.W.lookIn name od=some (mA name) :=
 let⟨od,ho,hl⟩:=Bo I.ns
 ⟨od,⟨I.obj,rfl,rfl,ho⟩,hl⟩
section
variable {P:Program}{w:World}{H H' : Hp}{h h' : Heap}{a C dx:Addr}{fs fs' : List (Str×V)}
theorem Gf(hok:nE P w H h)(e:H a=some (.ins C dx fs)):∃ mA,IG h a dx C mA/\(∀ f,Iv (fs.lookup f) (mA f))/\PySem.Within mA (fs.map (·.1))/\fs.length<=1000/\H dx=some (.own a):=by
 obtain⟨d,z,ne,ob,mA,n,r,q⟩:=(show bN P w H h a (.ins C dx fs) from hok a _ e)
 exact⟨mA,⟨ob,n,ne⟩,r,q,z,d⟩
end
structure NL(K:bO)(C:Addr):Prop where
 pg:PySem.W.plainGet K C Str.empty=true
 hd:PySem.W.hasDictIn K C=true
 po:PySem.W.plainOver K C=true
 sa:PySem.W.findIn K (.ref C) "__setattr__"=some (some (.builtin "object.__setattr__"))
theorem NL.get{K:bO}{C:Addr}(c:NL K C)(f:Str):PySem.W.plainGet K C f=true:=c.pg
section
variable {X:Cx}{pq:aW}{σ:St}{H:Hp}{s:Shared}{A:Around}{E:ig}{Q:ig}{c:Value}{b:Bool}
inductive oZ(K:bO)(H:Hp):V->Value->Prop where
 | fL:oZ K H .fL (.type "NoneType")
 | bl (x:Bool):oZ K H (.bl x) (.type "bool")
 | int (i:Int):oZ K H (.int i) (.type "int")
 | str (x:Str):oZ K H (.str x) (.type "str")
 | Kg (x:UInt64):oZ K H (.Kg x) (.type "float")
 | lst {a:Addr} {xs:List V} (e:H a=some (.lst xs)):oZ K H (.ref a) (.type "list")
 | pY {a:Addr} {o:Obj} {xs:List V} (e:H a=some (.pY o (.lst xs))):oZ K H (.ref a) (.type "list")
 | tup {a:Addr} {xs:List V} (e:H a=some (.tup xs)):oZ K H (.ref a) (.type "tuple")
 | dK {a:Addr} {kvs:List (Key×V)} (e:H a=some (.dK kvs)):oZ K H (.ref a) (.type "dict")
 | dT {a:Addr} {kvs:List (List Key×V)} (e:H a=some (.dT kvs)):oZ K H (.ref a) (.type "dict")
 | ins {a C dx:Addr} {fs:List (Str×V)} (e:H a=some (.ins C dx fs)) (cl:NL K C) (ha:PySem.W.findIn K (.ref C) "__class__"=some (some (.builtin "object.__class__")))
  (hn:PySem.W.specialIn K (.builtin "object.__class__") "__get__"=some (some (.builtin "getset_descriptor.__get__"))) (htk:PySem.W.takesIn K (.builtin "object.__class__")=some true)
  (hm:PySem.W.mroIn K C (.type "object")=some true):oZ K H (.ref a) (.ref C)
theorem Bp{x:V}{u t:Value}(I:Inv X pq σ H s)(rx:RelV x u)(ty:oZ X.K H x t)(e:PySem.W.kitOne X.K t c=some b)(h:∀ tk,Q (.bool b) { s with toks:=tk}):
 wpAny (model X.prog X.w) A (call (.builtin "isinstance") [u,c]) Q E s:=by
 cases ty with
 | fL=>cases(show u=Value.none from rx);exact PySem.W.kia_one PySem.W.kitx_none I.ua True.intro e (fun z=>nomatch z) h
 | bl y=>cases(show u=Value.bool y from rx);exact PySem.W.kia_one PySem.W.kitx_bool I.ua True.intro e (fun z=>nomatch z) h
 | int i=>obtain⟨t,q⟩:=(show ∃ t,u=Value.int i t from rx);cases q;exact PySem.W.kia_one PySem.W.kitx_int I.ua True.intro e (fun z=>nomatch z) h
 | str y=>obtain⟨t,q⟩:=(show ∃ t,u=Value.str y t from rx);cases q;exact PySem.W.kia_one PySem.W.kitx_str I.ua True.intro e (fun z=>nomatch z) h
 | Kg y=>obtain⟨t,q⟩:=(show ∃ t,u=Value.float y t from rx);cases q;exact PySem.W.kia_one PySem.W.kitx_float I.ua True.intro e (fun z=>nomatch z) h
 | @lst a xs ea =>
   cases(show u=Value.ref a from rx)
   obtain⟨_,_,n,_,h1⟩:=(show bN X.prog X.w H s.heap a (.lst xs) from I.hok a _ ea)
   exact PySem.W.kia_one PySem.W.kitx_list I.ua ⟨_,h1,rfl⟩ e (fun z=>nomatch z) h
 | @pY a ob xs ea =>
   cases(show u=Value.ref a from rx)
   obtain⟨_,_,_,n,_,h1⟩:=(show bN X.prog X.w H s.heap a (.pY ob (.lst xs)) from I.hok a _ ea)
   exact PySem.W.kia_one PySem.W.kitx_list I.ua ⟨_,h1,rfl⟩ e (fun z=>nomatch z) h
 | @tup a xs ea =>
   cases(show u=Value.ref a from rx)
   obtain⟨_,_,_,p⟩:=(show bN X.prog X.w H s.heap a (.tup xs) from I.hok a _ ea)
   obtain⟨o,h1,h2,_⟩:=p;exact PySem.W.kia_one PySem.W.kitx_tuple I.ua ⟨o,h1,h2⟩ e (fun z=>nomatch z) h
 | @dK a kvs ea =>
   cases(show u=Value.ref a from rx)
   obtain⟨_,_,vs,_,p⟩:=(show bN X.prog X.w H s.heap a (.dK kvs) from I.hok a _ ea)
   obtain⟨o,es,ep,h1,h2,_⟩:=p;exact PySem.W.kia_one PySem.W.kitx_dict I.ua ⟨o,h1,h2.1⟩ e (fun z=>nomatch z) h
 | @dT a kvs ea =>
   cases(show u=Value.ref a from rx)
   obtain⟨_,_,xs,_,o,es,ep,h1,h2,_⟩:=(show bN X.prog X.w H s.heap a (.dT kvs) from I.hok a _ ea)
   exact PySem.W.kia_one PySem.W.kitx_dict I.ua ⟨o,h1,h2.1⟩ e (fun z=>nomatch z) h
 | @ins a C dx fs ea cl ha hn htk hm =>
   cases(show u=Value.ref a from rx)
   obtain⟨mA,O,_⟩:=Gf I.hok ea;obtain⟨od,J,_⟩:=O.look;exact PySem.W.kia_one (PySem.W.kitx_own (cl.get _) cl.hd ha hn htk hm) I.ua J e (fun z=>nomatch z) h
end
structure gq(k:Nat)(A:Around):Prop where
 hd:A.handled=none
 dp:A.depth+3*k+5<recursionLimit
 un:A.units+16*k+200<cLine
theorem gq.mono{j k:Nat}{A:Around}(r:gq k A)(h:j<=k):gq j A:=⟨r.hd,by have:=r.dp;lia,by have:=r.un;lia⟩
theorem gq.deeper{k:Nat}{A:Around}(r:gq (k+1) A)(env:Env):gq k (A.deeper env) :=
 ⟨r.hd,by have:=r.dp;show A.depth+1+3*k+5<_;lia,by have:=r.un;show A.units+3+16*k+200<_;lia⟩
theorem gq.in1{k:Nat}{A:Around}(r:gq (k+1) A):gq k A.in1 :=
 ⟨r.hd,by have:=r.dp;show A.depth+3*k+5<_;lia,by have:=r.un;show A.units+1+16*k+200<_;lia⟩
theorem gq.depth{k:Nat}{A:Around}(r:gq k A):A.depth<recursionLimit:=by have:=r.dp;lia
theorem gq.units{k:Nat}{A:Around}(r:gq k A):A.units+64<cLine:=by have:=r.un;lia
def NO:TA:=fun _ H Q=>Q [] H
def K8(ta:TE)(tr:TA):TA:=fun σ H Q=>ta σ H fun x H1=>tr σ H1 fun xs H2=>Q (x::xs) H2
section
variable {X:Cx}{e:Expr}{es:List Expr}{te:TE}{t:TA}{pos:Pos}
theorem ae:PA X [] NO:=fun _ _ _ _ H Q I h=>Calls.spliced_nil ⟨[],H,I,.nil,h⟩
theorem aa(ha:PE X e te)(hr:PA X es t)(hs:starEach (e::es) X.env=(false,eval e X.env)::starEach es X.env:=by rfl):PA X (e::es) (K8 te t):=by
 intro pos pq s σ H Q I h;rw[hs];show wpAny _ _ (spliced ((false,eval e X.env)::backTo pos (starEach es X.env))) _ _ s;refine Calls.spliced_cons (eY (ha pq s σ H _ I h) fun u s1 ⟨x,H1,I1,r1,q1⟩=>?_)
 exact eY (hr pos pq s1 σ H1 _ I1 q1) fun us s2 ⟨xs,H2,I2,r2,q2⟩=>⟨x::xs,H2,I2,.cons r1 r2,q2⟩
def NP(t:TA):TE:=fun σ H Q=>t σ H fun xs H1=>xs.length<=sizeLine/\∀ p,H1 p=none->Q (.ref p) (upd H1 p (.tup xs))
def NQ(t:TA):TE:=fun σ H Q=>t σ H fun xs H1=>xs.length<=sizeLine/\∀ p,H1 p=none->Q (.ref p) (upd H1 p (.lst xs))
theorem g8{x1}(h:PA X es t):PE X (.Tuple es x1 pos) (NP t):=by
 intro pq s σ H Q I hq;refine wpAny_Tuple_spliced (eY (h pos pq s σ H _ I hq) fun us s1 ⟨xs,H1,I1,r,z,q⟩=>⟨by rw[<-r.length];exact z,?_⟩)
 have hf:H1 s1.heap.objs.size=none:=I1.hok.fresh (Nat.le_refl _);refine⟨.ref s1.heap.objs.size,upd H1 s1.heap.objs.size (.tup xs),I1.laid (t':=s1.toks) (fun b u e=>Heap.get?_push_of_some _ e) (Nat.le_refl _) ?_,rfl,q _ hf⟩
 exact⟨z,us,r,⟨_,Heap.get?_push_size _ rfl,rfl,_,rfl⟩⟩
theorem ef(h:PA X es t):PE X (.List es pos) (NQ t):=by
 intro pq s σ H Q I hq;refine wpAny_List_spliced (eY (h pos pq s σ H _ I hq) fun us s1 ⟨xs,H1,I1,r,z,q⟩=>⟨by rw[<-r.length];exact z,?_⟩)
 have hf:H1 s1.heap.objs.size=none:=I1.hok.fresh (Nat.le_refl _);refine⟨.ref s1.heap.objs.size,upd H1 s1.heap.objs.size (.lst xs),I1.laid (t':=s1.toks) (fun b u e=>Heap.get?_push_of_some _ e) (Nat.le_refl _) ?_,rfl,q _ hf⟩
 exact⟨z,us,0,r,Heap.get?_push_size _ rfl⟩
end
abbrev Sp:=List V->Hp->VK->XK->Prop
abbrev C3:=List Env->Hp->Shared->XK->Value->Shared->Prop
structure Gg(P:Program)(w:World)(K:bO)(mg:kX)(base:Heap)(A:Around)(outer:List Env)(s:Shared)(H:Hp):Prop where
 frames:A.frames=some outer
 mod:Mod K mg base
 bs:∀ b o,base.get? b=some o->s.heap.get? b=some o/\H b=none
 FN:base.objs.size<=s.heap.objs.size
 funs:s.heap.FunFrames base outer
 Hz:∀ b∈frs outer,H b=none
 hok:nE P w H s.heap
 bare:AllBare s.gens
def CE(outer:List Env)(P:Program)(w:World)(H:Hp)(s:Shared)(Q:VK)(u:Value)(s' : Shared):Prop :=
 ∃ v H',s'.os=s.os/\AllBare s'.gens/\Un (frs outer) [] H H' s.heap s'.heap/\nE P w H' s'.heap/\RelV v u/\Q v H'
def CR(CX:C3)(outer:List Env)(P:Program)(w:World)(H:Hp)(s:Shared)(Q:VK)(E:XK)(r:Result)(s' : Shared):Prop :=
 match r with
 | .ok (.ret u)=>CE outer P w H s Q u s'
 | .ok _=>False
 | .error e=>CX outer H s E e s'
structure k7(P:Program)(w:World)(K:bO)(mg:kX)(base:Heap)(CX:C3)(k:Nat)(f:Addr)(fd:FuncData)(ps:List Str)(sp:Sp):Prop where
 len:∀ vs H Q E,sp vs H Q E->vs.length=ps.length
 run:∀(A:Around) (outer:List Env) (s:Shared) (H:Hp) (args:Args) (us:List Value) (vs:List V) (Q:VK) (E:XK),gq k A->Gg P w K mg base A outer s H->BindsTo s fd args (ps.zip us)->Vals vs us->sp vs H Q E->
  codeAny (model P w) A (.call (.ref f) args) (CR CX outer P w H s Q E) s
section
variable {X:Cx}{pq:aW}{σ:St}{H:Hp}{s s' : Shared}
theorem Inv.NR(I:Inv X pq σ H s):Gg X.prog X.w X.K X.mg X.base X.A X.stack s H :=
 ⟨I.ok.frames,I.ok.mod,I.bs,Nat.le_trans I.ok.FN I.sz,I.stack,I.qy,I.hok,I.bare⟩
theorem Inv.after{Q:VK}{u:Value}(I:Inv X pq σ H s)(h:CE X.stack X.prog X.w H s Q u s'):EP X pq σ Q u s':=by
 obtain⟨v,H',os,bare,un,hok,r,q⟩:=h;obtain⟨hh,g,d,t,os'⟩:=s';obtain rfl:os' = s.os:=os;exact⟨v,H',I.call (h':=hh) (g':=g) (d':=d) (t':=t) (ch:=[]) un hok bare (fun b z=>absurd z (by simp)),r,q⟩
end
def HE(sp:Sp)(HF:List V)(E:XK)(t:TA):TE:=fun σ H Q=>t σ H fun vs H1=>sp (vs++HF) H1 Q E
def Binds(K:bO)(fd:FuncData)(ps:List Str)(ds:List Value):Prop :=
 ∀(s:Shared) (us:List Value),K.In s.heap->(us++ds).length=ps.length->BindsTo s fd ⟨us,[]⟩ (ps.zip (us++ds))
theorem Binds.all{K:bO}{fd:FuncData}{ps:List Str}(h:∀ us:List Value,us.length=ps.length->bindArgs fd ⟨us,[]⟩=pure (ps.zip us)):Binds K fd ps []:=fun s us _ hl=>by
 rw[List.append_nil]at hl ⊢;exact .of_eq (h us hl)
def Passes(CX:C3)(X:Cx)(E:XK):Prop:=∀(pq:aW) (σ:St) (H:Hp) (s:Shared) (e:Value) (s' : Shared),Inv X pq σ H s->CX X.stack H s E e s'->X.xe e s'
section
variable {X:Cx}{CX:C3}{k:Nat}{f C:Addr}{fd:FuncData}{ps:List Str}{sp:Sp}{HF:List V}{ds:List Value}{E:XK}{x m:Str}{p pos apos:Pos}{e o:Expr}{es:List Expr}{ta:TE}{t:TA}
theorem II{pq:aW}{σ:St}{H:Hp}{s:Shared}{Q:VK}{us:List Value}{vs:List V}(F:k7 X.prog X.w X.K X.mg X.base CX k f fd ps sp)(hr:gq k X.A)(hb:Binds X.K fd ps ds)(hd:Vals HF ds)(hx:Passes CX X E)
 (I:Inv X pq σ H s) (r:Vals vs us) (h:sp (vs++HF) H Q E):wpAny (model X.prog X.w) X.A (call (.ref f) us) (EP X pq σ Q) X.xe s:=by
 have r2:Vals (vs++HF) (us++ds):=r.append hd;have hl:(us++ds).length=ps.length:=by rw[<-r2.length];exact F.len _ _ _ _ h
 refine wpAny_call (codeAny_mono (F.run X.A X.stack s H ⟨us,[]⟩ (us++ds) (vs++HF) Q E hr I.NR (hb s us I.ua hl) r2 h) fun r s' hq=>?_)
 cases r with
 | error e=>exact hx pq σ H s e s' I hq
 | ok fl =>
   cases fl with
   | ret u=>exact I.after hq
   | next=>exact False.elim hq
   | brk=>exact False.elim hq
   | cont=>exact False.elim hq
theorem Gh(F:k7 X.prog X.w X.K X.mg X.base CX k f fd ps sp)(hr:gq k X.A)(hg:Gl X x)(hm:X.mg x=some (.ref f))(hk:PySem.W.keepIn X.K (.ref f)=true)(hb:Binds X.K fd ps ds)(hd:Vals HF ds)(hx:Passes CX X E)
 (ha:PA X (e::es) t) (hdb:(x==("__debug__":Str))=false:=by decide) (he:starEach (e::es) X.env=(false,eval e X.env)::starEach es X.env:=by rfl) (hpl:(backTo pos (starEach es X.env)).any (·.1)=false:=by rfl) :
 PE X (.Call (.Name x p) (e::es) [] pos) (HE sp HF E t):=by
 intro pq s σ H Q I h;refine wpAny_Call_Name_kw (qA I hg hm ?_ hdb);refine PySem.W.callWith_K (h₀:=X.base) I.ok.mod.MM hk (eY (ha pos pq s σ H _ I h) fun us s1 ⟨vs,H1,I1,r,q⟩=>⟨I1.ua,?_⟩) he hpl
 exact II F hr hb hd hx I1 r q
end
structure aE(N P:List Str)(sc:Scope):Prop where
 kind:sc.kind = .function
 co:sc.isCoroutine=false
 gen:sc.isGenerator=false
 nd:N.Nodup
 pre:N.take P.length=P
 par:∀ x∈P,sc.names.lookup x=some .local\/sc.names.lookup x=some .cell
 IJ:∀ y∈sc.names,y.2≠.free
theorem uc{kindOf:Str->Option NameKind}{x:Str}:∀{binds:List (Str×Value)} {m:kX},(∀ v,(x,v)∉binds)->bindL kindOf binds m x=m x
 | [],_,_=>rfl
 | (n,v)::r,m,h=>by
   unfold bindL;rw[uc fun w hw=>h w (lU _ hw)]
   split
   ·have:x≠n:=by rintro rfl;exact h v List.mem_cons_self
    simp[this]
   ·rfl
theorem ud{kindOf:Str->Option NameKind}{x:Str}:∀{binds:List (Str×Value)} {m:kX},(∀ v,(x,v)∉binds)->bindC kindOf binds m x=m x
 | [],_,_=>rfl
 | (n,v)::r,m,h=>by
   unfold bindC;rw[ud fun w hw=>h w (lU _ hw)]
   split
   ·rfl
   ·have:x≠n:=by rintro rfl;exact h v List.mem_cons_self
    simp[this]
theorem ue{kindOf:Str->Option NameKind}{x:Str}{v:Value}:∀{P:List Str} {vs:List Value} {i:Nat} {m:kX},P.Nodup->P[i]?=some x->vs[i]?=some v->kindOf x=some .local->
 bindL kindOf (P.zip vs) m x=some v
 | [],_,_,_,_,h,_,_=>by simp at h
 | _::_,[],_,_,_,_,h,_=>by simp at h
 | p::P,w::vs,0,m,nd,h1,h2,hk=>by
   simp at h1 h2;subst h1;subst h2;show bindL kindOf ((p,w)::P.zip vs) m p=_;unfold bindL;rw[uc fun v hv=>(List.nodup_cons.mp nd).1 (List.of_mem_zip hv).1,if_pos hk]
   simp
 | p::P,w::vs,i+1,m,nd,h1,h2,hk=>by
   show bindL kindOf ((p,w)::P.zip vs) m x=_;unfold bindL;exact ue (i:=i) (List.nodup_cons.mp nd).2 (by simpa using h1) (by simpa using h2) hk
theorem uf{kindOf:Str->Option NameKind}{x:Str}{v:Value}:∀{P:List Str} {vs:List Value} {i:Nat} {m:kX},P.Nodup->P[i]?=some x->vs[i]?=some v->kindOf x≠some .local->
 bindC kindOf (P.zip vs) m x=some v
 | [],_,_,_,_,h,_,_=>by simp at h
 | _::_,[],_,_,_,_,h,_=>by simp at h
 | p::P,w::vs,0,m,nd,h1,h2,hk=>by
   simp at h1 h2;subst h1;subst h2;show bindC kindOf ((p,w)::P.zip vs) m p=_;unfold bindC;rw[ud fun v hv=>(List.nodup_cons.mp nd).1 (List.of_mem_zip hv).1,if_neg hk]
   simp
 | p::P,w::vs,i+1,m,nd,h1,h2,hk=>by
   show bindC kindOf ((p,w)::P.zip vs) m x=_;unfold bindC;exact uf (i:=i) (List.nodup_cons.mp nd).2 (by simpa using h1) (by simpa using h2) hk
def start(N:List Str)(vs:List V):St:=vs.map some++List.replicate (N.length-vs.length) none
def qe(CX:C3)(P:Program)(w:World)(K:bO)(mg:kX)(base:Heap)(N:List Str)(qual:Str)(scope:Scope)(f:Addr)(cd:Value)(A:Around)(outer:List Env)(s:Shared)(H:Hp)(E:XK):Cx where
 prog:=P
 w:=w
 K:=K
 mg:=mg
 base:=base
 A:=A.deeper (envOfC qual scope s.heap.objs.size f cd)
 N:=N
 s₀:=s
 H₀:=H
 env:=envOfC qual scope s.heap.objs.size f cd
 outer:=outer
 stack:=envOfC qual scope s.heap.objs.size f cd::outer
 ex:=[]
 calm:=true
 fn:=fun _=>true
 pn:=[]
 xe:=fun e s'=>wpAny (model P w) (A.deeper (envOfC qual scope s.heap.objs.size f cd)) (leaving (envOfC qual scope s.heap.objs.size f cd) e) (fun _ s''=>CX outer H s E e s'') (fun e' s''=>CX outer H s E e' s'') s'
theorem wG{sc:Scope}{n:Nat}{x:Str}(h:sc.names.lookup x=some .cell):∃ c,(cellsFrom n sc.names []).lookup x=some c:=by
 have q:=PySem.W.cellsFrom_some sc.names n [] (.inl h);exact Option.isSome_iff_exists.mp q
theorem Bq{CX:C3}{P:Program}{w:World}{K:bO}{mg:kX}{base:Heap}{N ps:List Str}{qual:Str}{scope:Scope}{f:Addr}{cd:Value}{A:Around}{outer:List Env}{s s1:Shared}{H:Hp}{E:XK}{us:List Value}{vs:List V}
 (S:aE N ps scope) (hd:A.handled=none) (e0:Gg P w K mg base A outer s H) (hl:vs.length=ps.length) (r:Vals vs us)
 (x:InCallC s s.heap.objs.size (bindL (envOfC qual scope s.heap.objs.size f cd).kindOf (ps.zip us) fun _=>none) (cellsFrom (s.heap.objs.size+1) scope.names []) (bindC (envOfC qual scope s.heap.objs.size f cd).kindOf (ps.zip us) fun _=>none) s1) :
 Inv (qe CX P w K mg base N qual scope f cd A outer s H E) [] (start N vs) H s1:=by
 have hpl:ps.length<=N.length:=by have:=congrArg List.length S.pre;rw[List.length_take]at this;lia
 obtain⟨h1,tk,rfl,hk⟩:=x.done;have NS:∀ b:Addr,b∉(qe CX P w K mg base N qual scope f cd A outer s H E).ex:=fun b z=>absurd (show b∈([]:List Addr) from z) (by simp)
 refine⟨⟨e0.mod,S.kind,rfl,rfl,Nat.le_refl _,fun y z c h1 h2=>?_,fun y hy=>?_,fun y c _ h=>?_,fun _=>hd,Around.frames_deeper e0.frames,.inr ⟨rfl,rfl⟩,fun b z=>absurd z (NS b),e0.bs,e0.FN,fun b _ _=>NS b,fun b z=>absurd z (NS b),e0.funs,e0.Hz⟩,
  rfl,e0.bare,Un.kept hk,⟨_,x.toInCall.ns,fun i y v h1 h2 h3=>?_⟩,fun y c h=>⟨_,x.cell y c h⟩,e0.hok.fresh (Nat.le_refl _),fun y c h=>?_,fun p hp=>absurd (show p∈([]:aW) from hp) (by simp),e0.hok.kept hk,?_⟩
 ·exact name_of_addr x.apart (PySem.mem_of_lookup h1) (PySem.mem_of_lookup h2)
 ·have hy:scope.names.lookup y=some .cell\/scope.names.lookup y=some .free:=hy;rcases hy with hy|hy
  ·exact wG hy
  ·exact absurd rfl (S.IJ _ (PySem.mem_of_lookup hy))
 ·exact Nat.le_of_lt (x.above y c (PySem.mem_of_lookup h))
 ·have hi:i<vs.length:=by
   unfold start at h2
   by_cases hi:i<vs.length
   ·exact hi
   ·rw[List.getElem?_append_right (by simpa using hi)]at h2
    rw[List.getElem?_replicate]at h2
    split at h2<;>cases h2
  have ha:vs[i]?=some v:=by
   unfold start at h2;rw[List.getElem?_append_left (by simpa using hi),List.getElem?_map]at h2
   cases e:vs[i]? with
   | none=>rw[e]at h2;cases h2
   | some a=>rw[e]at h2;cases h2;rfl
  obtain⟨u,hu,rv⟩:=r.get ha;have hp:ps[i]?=some y:=by
   rw[<-S.pre,List.getElem?_take_of_lt (by lia)];exact h1
  have Ph:ps.Nodup:=by rw[<-S.pre];exact S.nd.sublist (List.take_sublist _ _)
  refine⟨u,rv,?_⟩;rcases S.par y (nv hp) with k|k
  ·exact .inl ⟨k,ue Ph hp hu k⟩
  ·obtain⟨c,e⟩:=wG (n:=s.heap.objs.size+1) k;refine .inr ⟨.inl k,c,e,?_⟩;have q:=x.cell y c e;rw[uf Ph hp hu (by show scope.names.lookup y≠_;rw[k];decide)]at q
   exact q
 ·exact e0.hok.fresh (Nat.le_of_lt (x.above y c (PySem.mem_of_lookup h)))
 ·unfold start;show _=N.length;rw[List.length_append,List.length_map,List.length_replicate]
  lia
theorem DA{CX:C3}{P:Program}{w:World}{K:bO}{mg:kX}{base:Heap}{k:Nat}{f:Addr}{name qual:Str}{params:Arguments}{body:List Stmt}{scope:Scope}{dV kV doc pm cdv ct oc:Value}{an od:Option Addr}
 {osl:Array (Option Value)} {N ps:List Str} {sp:Sp} (lk:K.lookup f=some ⟨oc,od,.func (PySem.W.fnOf name qual params body scope dV kV doc pm an cdv ct),osl⟩) (hcd:PySem.W.codeIn K cdv qual=true) (S:aE N ps scope)
 (len:∀ vs H Q E,sp vs H Q E->vs.length=ps.length)
 (hbody:∀(A:Around) (outer:List Env) (s:Shared) (H:Hp) (vs:List V) (Q:VK) (E:XK),gq k (A.deeper (envOfC qual scope s.heap.objs.size f cdv))->sp vs H Q E->
  ∃ t,qR (qe CX P w K mg base N qual scope f cdv A outer s H E) body t/\t { nx:=fun _ H'=>Q .fL H',rt:=Q} (start N vs) H) :
 k7 P w K mg base CX (k+1) f (PySem.W.fnOf name qual params body scope dV kV doc pm an cdv ct) ps sp:=by
 refine⟨len,fun A outer s H args us vs Q E hr e0 hb r qX=>?_⟩
 have hl:=len _ _ _ _ qX;have KX:K.In s.heap:=e0.mod.MM.keeps fun b o e=>(e0.bs b o e).1
 have lim:s.heap.NoLimit:=e0.mod.nolimit.keeps fun b o e=>(e0.bs b o e).1
 have hkind:∀ y∈ps.zip us,scope.names.lookup y.1=some .local\/(scope.names.lookup y.1=some .cell/\((cellsFrom (s.heap.objs.size+1) scope.names []).lookup y.1).isSome=true):=fun⟨n,v⟩ hy=>by
  rcases S.par n (List.of_mem_zip hy).1 with q|q
  ·exact .inl q
  ·exact .inr ⟨q,PySem.W.cellsFrom_some _ _ _ (.inl q)⟩
 refine codeAny_call_function hr.depth (KX _ _ lk) rfl S.co S.gen rfl (PySem.W.codeRec_of KX hcd) (hb _ _ _ _ ?_);refine wpAny_newFunctionEnv_cells S.kind hkind fun env he s1 x=>?_
 subst he;refine⟨lim.keeps x.toInCall.keep,codeAny_func ?_⟩;obtain⟨t,ht,hq⟩:=hbody A outer s H vs Q E (hr.deeper _) qX;have I:Inv (qe CX P w K mg base N qual scope f cdv A outer s H E) [] (start N vs) H s1:=Bq S hr.hd e0 hl r x;refine wpAny_mono (ht [] s1 (start N vs) H _ I hq) (fun fl s' hs=>?_) fun e s' hs=>hs
 have fin:∀{σ' : St} {H' : Hp} {v:V} {u:Value},Inv (qe CX P w K mg base N qual scope f cdv A outer s H E) [] σ' H' s'->RelV v u->Q v H'->CE outer P w H s Q u s' :=
  fun {σ' H' v u} J rv q=>⟨v,H',J.os,J.bare,J.base,J.hok,rv,q⟩
 cases fl with
 | ret u =>
   obtain⟨v,σ',H',J,rv,q⟩:=hs;exact fin J rv q
 | next =>
   obtain⟨σ',H',J,q⟩:=hs;exact fin (v:=V.fL) (u:=Value.none) J rfl q
 | brk =>
   obtain⟨_,_,_,q⟩:=hs;exact False.elim q
 | cont =>
   obtain⟨_,_,_,q⟩:=hs;exact False.elim q
section
variable {X:Cx}{x:Str}{p pos:Pos}{e:Expr}{es:List Expr}{t:TA}{id T:String}{r:List V->Hp->VK->Prop}
def NT(r:List V->Hp->VK->Prop)(t:TA):TE:=fun σ H Q=>t σ H fun vs H1=>r vs H1 Q
theorem bj(hc:eZ X (.builtin id) r)(hg:Gl X x)(hm:X.mg x=none)(hv:bootBuiltins x=some (.builtin id))(ha:PA X (e::es) t)(hn:x≠"__name__":=by decide)(hdb:(x==("__debug__":Str))=false:=by decide)
 (he:starEach (e::es) X.env=(false,eval e X.env)::starEach es X.env:=by rfl) (hpl:(backTo pos (starEach es X.env)).any (·.1)=false:=by rfl):PE X (.Call (.Name x p) (e::es) [] pos) (NT r t):=by
 intro pq s σ H Q I h;refine wpAny_Call_Name_kw (k6 I hg hm hv ?_ hn hdb);exact PyProof.Rows.callWith_builtin1 (eY (ha pos pq s σ H _ I h) fun us s1 ⟨vs,H1,I1,r1,q1⟩=>hc pq s1 σ H1 vs us Q I1 r1 q1) he hpl
theorem dD(hc:eZ X (.type T) r)(hg:Gl X x)(hm:X.mg x=none)(hv:bootBuiltins x=some (.type T))(ha:PA X (e::es) t)(hn:x≠"__name__":=by decide)(hdb:(x==("__debug__":Str))=false:=by decide)
 (he:starEach (e::es) X.env=(false,eval e X.env)::starEach es X.env:=by rfl) (hpl:(backTo pos (starEach es X.env)).any (·.1)=false:=by rfl):PE X (.Call (.Name x p) (e::es) [] pos) (NT r t):=by
 intro pq s σ H Q I h;refine wpAny_Call_Name_kw (k6 I hg hm hv ?_ hn hdb);exact PyProof.Rows.callWith_type1 (eY (ha pos pq s σ H _ I h) fun us s1 ⟨vs,H1,I1,r1,q1⟩=>hc pq s1 σ H1 vs us Q I1 r1 q1) he hpl
end
end L2
namespace HT
open PySem PyProof.Rows
section
variable {prog:Program}{w:World}{A:Around}{E:ig}{s:Shared}
def o4(n d:Nat):Option Int->Nat
 | none=>d
 | some v=>if v<0 then(v+(n:Int)).toNat else min v.toNat n
end
end HT
namespace L2
open PySem PySem.Spec PyProof.Rows
abbrev TO:=St->Hp->(Option Int->Hp->Prop)->Prop
def PO(X:Cx)(e:Option Expr)(t:TO):Prop :=
 ∀(pq:aW) (s:Shared) (σ:St) (H:Hp) (Q:Option Int->Hp->Prop),Inv X pq σ H s->t σ H Q->
  wpAny (model X.prog X.w) X.A (evalPart e X.env) (fun u s'=>∃ o H',Inv X pq σ H' s'/\IsPart u o/\Q o H') X.xe s
def Gi:TO:=fun _ H Q=>Q none H
def K9(t:TE):TO:=fun σ H Q=>t σ H fun x H1=>∃ i,x = .int i/\Q (some i) H1
theorem intsAre_of{ns:List Int}:∀{us:List Value},Vals (ns.map V.int) us->IntsAre us ns:=by
 induction ns with
 | nil=>intro us r;rw[List.map_nil]at r;cases r;exact .nil
 | cons n ns ih =>
   intro us r;rw[List.map_cons]at r;cases r with
   | cons r1 r2 =>
     obtain⟨t,e⟩:=r1;subst e;exact .cons n t (ih r2)
section
variable {X:Cx}{e:Expr}{te:TE}{lo hi:Option Expr}{tl th:TO}{pos p2:Pos}
theorem nK:PO X none Gi:=by
 intro pq s σ H Q I h;rw[evalPart_none];exact wpAny_pure ⟨none,H,I,.none,h⟩
theorem nL(h:PE X e te):PO X (some e) (K9 te):=by
 intro pq s σ H Q I hw;rw[evalPart_some];refine eY (h pq s σ H _ I hw) fun u s1 ⟨x,H1,I1,r1,q1⟩=>?_
 obtain⟨i,rfl,q⟩:=q1;obtain⟨t,rfl⟩:=r1;exact⟨some i,H1,I1,.int i t,q⟩
def NU(X:Cx)(r:V->Option Int->Option Int->Hp->VK->Prop):Prop :=
 ∀(pq:aW) (s:Shared) (σ:St) (H:Hp) (x:V) (v vl vu:Value) (lo hi:Option Int) (sl:Addr) (Q:VK),Inv X pq σ H s->RelV x v->s.heap.IsSliceOf sl vl vu .none->IsPart vl lo->IsPart vu hi->r x lo hi H Q->
  ∃ T id,typeLookup (.type T) "__getitem__"=pure (some (.builtin id))/\s.TypeIs v T/\wpAny (model X.prog X.w) X.A (getItem v (.ref sl)) (EP X pq σ Q) X.xe s
def Rz(r:V->Option Int->Option Int->Hp->VK->Prop)(te:TE)(tl th:TO):TE:=fun σ H Q=>te σ H fun x H1=>tl σ H1 fun l H2=>th σ H2 fun u H3=>r x l u H3 Q
theorem k8{r:V->Option Int->Option Int->Hp->VK->Prop}(hr:NU X r)(he:PE X e te)(hl:PO X lo tl)(hu:PO X hi th):PE X (.Subscript e (.Slice lo hi none p2) pos) (Rz r te tl th):=by
 intro pq s σ H Q I h;refine Subscript_ (eY (he pq s σ H _ I h) fun v s1 ⟨x,H1,I1,r1,q1⟩=>?_)
 refine wpAny_Slice (eY (hl pq s1 σ H1 _ I1 q1) fun vl s2 ⟨l,H2,I2,pl,q2⟩=>eY (hu pq s2 σ H2 _ I2 q2) fun vu s3 ⟨u,H3,I3,pu,q3⟩=>?_)
 rw[evalPart_none];refine wpAny_pure ?_;have I4:Inv X pq σ H3 { s3 with heap:=s3.heap.push { cls:=.type "slice",data:=.fields #[vl,vu,.none]}}:=I3.kept (t':=s3.toks) fun b ob q=>Heap.get?_push_of_some _ q
 obtain⟨T,id,hT,ht,hg⟩:=hr pq { s3 with heap:=s3.heap.push { cls:=.type "slice",data:=.fields #[vl,vu,.none]}} σ H3 x v vl vu l u s3.heap.objs.size Q I4 r1 (Heap.IsSliceOf.new ..) pl pu q3
 show wpAny (model X.prog X.w) X.A (subscriptTail e (.Slice lo hi none p2) v (.ref s3.heap.objs.size)) (EP X pq σ Q) X.xe { s3 with heap:=s3.heap.push { cls:=.type "slice",data:=.fields #[vl,vu,.none]}}
 exact tail_any (ops:=[.ref s3.heap.objs.size,v]) ht hT hg (by with_unfolding_all rfl)
def wH(xs:List V)(lo hi:Option Int):List V:=(xs.drop (HT.o4 xs.length 0 lo)).take (HT.o4 xs.length xs.length hi-HT.o4 xs.length 0 lo)
theorem wI(xs:List V)(lo hi:Option Int):(wH xs lo hi).length<=xs.length:=by
 unfold wH;rw[List.length_take,List.length_drop]
 lia
end
def Gj(n:Nat)(i:Int):Option Nat:=if 0<=i then(if i<n then some i.toNat else none) else if -(n:Int)<=i then some (i+n).toNat else none
def Am{α:Type}(xs:List α)(i:Int):Option α:=(Gj xs.length i).bind fun j=>xs[j]?
theorem An{n:Nat}{i:Int}{j:Nat}(h:Gj n i=some j):seqIndex? i n=some j/\j<n/\-(n:Int)<=i/\i<n:=by
 unfold Gj at h
 by_cases h0:0<=i
 ·rw[if_pos h0]at h
  by_cases h1:i<n
  ·rw[if_pos h1]at h;have e:i.toNat=j:=Option.some.inj h;exact⟨by rw[seqIndex_of h0 h1,e],by lia,by lia,h1⟩
  ·rw[if_neg h1]at h;cases h
 ·rw[if_neg h0]at h
  by_cases h1 : -(n:Int)<=i
  ·rw[if_pos h1]at h;have e:(i+n).toNat=j:=Option.some.inj h;exact⟨by rw[seqIndex_neg (by lia) h1,e],by lia,h1,by lia⟩
  ·rw[if_neg h1]at h;cases h
theorem Ao{α:Type}{xs:List α}{i:Int}{v:α}(h:Am xs i=some v):∃ j,seqIndex? i xs.length=some j/\xs[j]?=some v/\j<xs.length/\-(xs.length:Int)<=i/\i<xs.length:=by
 unfold Am at h;cases e:Gj xs.length i with
 | none=>rw[e]at h;cases h
 | some j =>
   rw[e]at h;obtain⟨h1,h2,h3,h4⟩:=An e;exact⟨j,h1,h,h2,h3,h4⟩
theorem ao{α:Type}{xs:List α}{j:Nat}{v:α}(h:xs[j]?=some v):Am xs (j:Int)=some v:=by
 have hj:j<xs.length:=(ny.mp h).1;have e:Gj xs.length (j:Int)=some j:=by
  unfold Gj;rw[if_pos (by lia),if_pos (by lia)];simp
 unfold Am;rw[e];exact h
def Aq(b:Expr):Prop:=∀ o i,subscripted b false o i=operate [o,i] (getItem o i)
def Ko(X:Cx)(r:R2):Prop :=
 ∀(value slice:Expr) (pq:aW) (s:Shared) (σ:St) (H:Hp) (x y:V) (v u:Value) (Q:VK),Inv X pq σ H s->RelV x v->RelV y u->r x y H Q->
  subscripted slice false v u=operate [v,u] (getItem v u)->wpAny (model X.prog X.w) X.A (subscriptTail value slice v u) (EP X pq σ Q) X.xe s
def NV(X:Cx)(id:String)(r:V->List V->Hp->VK->Prop):Prop :=
 ∀(pq:aW) (s:Shared) (σ:St) (H:Hp) (x:V) (xs:List V) (v:Value) (us:List Value) (Q:VK),Inv X pq σ H s->RelV x v->Vals xs us->r x xs H Q->
  wpAny (model X.prog X.w) X.A (call (.builtin id) (v::us)) (EP X pq σ Q) X.xe s
section
variable {X:Cx}{a b:Expr}{ta tb:TE}{pos:Pos}
theorem La{r:R2}(hr:Ko X r)(ha:PE X a ta)(hb:PE X b tb)(hs:Aq b):PE X (.Subscript a b pos) (K4 r ta tb):=by
 intro pq s σ H Q I h;exact Subscript_ (ID ha hb I h fun v u s2 x y H2 I2 rx ry q=>hr a b pq s2 σ H2 x y v u Q I2 rx ry q (hs _ _))
def Lb(K:bO):R2:=fun x y H Q=>∃ p xs i v,x = .ref p/\y = .int i/\aO K H p xs/\Am xs i=some v/\Q v H
def Lc(K:bO):R2:=fun x y H Q=>∃ p xs i v,x = .ref p/\y = .int i/\aY K H p xs/\Am xs i=some v/\Q v H
theorem Gk:Ko X (Lb X.K):=by
 intro value slice pq s σ H x y v u Q I rx ry h hs;obtain⟨p,xs,i,z,rfl,rfl,hq,he,q⟩:=h;cases rx;obtain⟨t,rfl⟩:=ry;obtain⟨its,r,pl,hz⟩:=I.list hq;obtain⟨j,h1,h2,h3,h4,h5⟩:=Ao he;obtain⟨w,ew,rw'⟩:=r.get h2;have hl:=r.length;have hn:=oX;have fin:EP X pq σ Q w s:=⟨z,H,I,rw',q⟩
 by_cases h0:0<=i
 ·have hj:i.toNat=j:=by
   rw[seqIndex_of h0 h5]at h1;exact Option.some.inj h1
  exact item_listR pl.isList h0 (by lia) (by rw[hj];simpa using ew) fin hs
 ·have hj:(i+(its.toArray.size:Int)).toNat=j:=by
   rw[seqIndex_neg (by lia) h4]at h1
   rw[List.size_toArray,<-hl];exact Option.some.inj h1
  exact subscriptTail_builtinR (x:=w) pl.isList.typeIs slot_list_getitem.lookup
   (wpAny_getItem_list_neg (Q:=fun r s'=>r=w/\EP X pq σ Q r s') pl.isList (by lia) (by rw[List.size_toArray]<;>lia) (by lia) (by rw[hj];simpa using ew) ⟨rfl,fin⟩) hs
theorem IK:Ko X (Lc X.K):=by
 intro value slice pq s σ H x y v u Q I rx ry h hs;obtain⟨p,xs,i,z,rfl,rfl,hq,he,q⟩:=h;cases rx;obtain⟨t,rfl⟩:=ry;obtain⟨its,r,pl,hz⟩:=I.tuple hq;obtain⟨j,h1,h2,h3,h4,h5⟩:=Ao he;obtain⟨w,ew,rw'⟩:=r.get h2;have hl:=r.length;have hn:=oX;have fin:EP X pq σ Q w s:=⟨z,H,I,rw',q⟩;exact subscriptTail_builtinR (x:=w) pl.typeIs slot_tuple_getitem.lookup
  (getItem_tuple (j:=j) (Q:=fun r s'=>r=w/\EP X pq σ Q r s') pl (by lia) (by lia) (by rw[List.size_toArray,<-hl];exact h1) (by simpa using ew) ⟨rfl,fin⟩) hs
theorem yE(its:List Value)(n j:Nat)(u:Value):Obj.mapSeq (·.setIfInBounds j u) { cls:=.type "list",data:=.seq its.toArray n}={ cls:=.type "list",data:=.seq (its.set j u).toArray n}:=by
 simp[Obj.mapSeq]
theorem Inv.lst{pq:aW}{σ:St}{H:Hp}{s:Shared}{p:Addr}{xs:List V}(I:Inv X pq σ H s)(h:H p=some (.lst xs)):
 ∃(its:List Value) (n:Nat),Vals xs its/\s.heap.get? p=some { cls:=.type "list",data:=.seq its.toArray n}/\xs.length<=sizeLine:=by
 obtain⟨z,its,n,r,e⟩:=I.hok p _ h;exact⟨its,n,r,e,z⟩
theorem Inv.IL{pq:aW}{σ:St}{H:Hp}{s:Shared}{p:Addr}{xs ys:List V}{its its' : List Value}{n n' : Nat}{f:Obj->Obj}(I:Inv X pq σ H s)(h:H p=some (.lst xs))
 (ho:s.heap.get? p=some { cls:=.type "list",data:=.seq its.toArray n}) (hf:f { cls:=.type "list",data:=.seq its.toArray n}={ cls:=.type "list",data:=.seq its'.toArray n'}) (r:Vals ys its') (hz:ys.length<=sizeLine) (t:Nat) :
 Inv X pq σ (upd H p (.lst ys)) { s with heap:=s.heap.update p f,toks:=t}:=by
 have e:(s.heap.update p f).get? p=some { cls:=.type "list",data:=.seq its'.toArray n'}:=by
  rw[Heap.get?_update_self f ho (by rw[hf]<;>rfl),hf]
 refine I.write (x:=p) (e:=p) (by rw[h];trivial) (.inl rfl) (fun b u hb q=>(Heap.get?_update_other _ _ (Ne.symm hb)).trans q) ⟨_,e⟩ ?_
 exact⟨hz,its',n',r,e⟩
def Ld:V->V->V->Hp->(Hp->Prop)->Prop:=fun o i v H Q=>∃ p xs k j,o = .ref p/\i = .int k/\H p=some (.lst xs)/\Gj xs.length k=some j/\Q (upd H p (.lst (xs.set j v)))
theorem set_list:IB X Ld:=by
 intro pq s σ H o i v ov iv u Q I ro ri rv h;obtain⟨p,xs,k,j,rfl,rfl,hp,hj,q⟩:=h;cases ro;obtain⟨t,rfl⟩:=ri;obtain⟨its,n,r,ho,hz⟩:=I.lst hp;obtain⟨h1,h2,h3,h4⟩:=An hj;have hl:=r.length;have hn:=oX;have I' : Inv X pq σ (upd H p (.lst (xs.set j v))) { s with heap:=s.heap.update p (Obj.mapSeq (·.setIfInBounds j u))} :=
  I.IL hp ho (yE its n j u) (r.set rv j) (by rw[List.length_set];exact hz) s.toks
 by_cases h0:0<=k
 ·have hk:k.toNat=j:=by
   rw[seqIndex_of h0 h4]at h1;exact Option.some.inj h1
  exact PySem.W.ki_setAt ho h0 (by lia) (by rw[List.size_toArray,<-hl];exact h4) (by rw[hk];exact⟨_,I',q⟩)
 ·have hk:(k+(its.toArray.size:Int)).toNat=j:=by
   rw[seqIndex_neg (by lia) h3]at h1
   rw[List.size_toArray,<-hl];exact Option.some.inj h1
  exact PySem.W.ki_setBack ho (by lia) (by rw[List.size_toArray,<-hl];exact h3) (by lia) (by rw[hk];exact⟨_,I',q⟩)
theorem uU(lo hi:Option Int)(n:Nat):(sliceBounds lo hi none n).1=((HT.o4 n 0 lo:Nat):Int)/\(sliceBounds lo hi none n).2.1=((HT.o4 n n hi:Nat):Int)/\(sliceBounds lo hi none n).2.2=1:=by
 refine⟨?_,?_,rfl⟩
 ·cases lo with
  | none=>simp[sliceBounds,HT.o4]
  | some i =>
    simp only[sliceBounds,HT.o4,Option.getD_none,show(1:Int) > 0 by decide,if_true]
    by_cases h:i<0
    ·simp only[h,if_true]<;>lia
    ·simp only[h,if_false]<;>lia
 ·cases hi with
  | none=>simp[sliceBounds,HT.o4]
  | some i =>
    simp only[sliceBounds,HT.o4,Option.getD_none,show(1:Int) > 0 by decide,if_true]
    by_cases h:i<0
    ·simp only[h,if_true]<;>lia
    ·simp only[h,if_false]<;>lia
theorem sS(its:List Value)(lo hi:Option Int):slicePick its.toArray lo hi none=((its.drop (HT.o4 its.length 0 lo)).take (HT.o4 its.length its.length hi-HT.o4 its.length 0 lo)).toArray:=by
 obtain⟨h1,h2,h3⟩:=uU lo hi its.toArray.size;unfold slicePick;rw[h1,h2,h3];simp only[sliceRange_one,pick_run,List.size_toArray]<;>rfl
def Le(K:bO):V->Option Int->Option Int->Hp->VK->Prop:=fun x lo hi H Q=>∃ a xs,x = .ref a/\aO K H a xs/\∀ p,H p=none->Q (.ref p) (upd H p (.lst (wH xs lo hi)))
theorem Gm:NU X (Le X.K):=by
 intro pq s σ H x v vl vu lo hi sl Q I rx hs pl pu h;obtain⟨a,xs,rfl,hx,q⟩:=h;cases rx;obtain⟨its,r,ht,hz⟩:=I.list hx;have hlen:=r.length;refine⟨"list",_,slot_list_getitem.lookup,ht.isList.typeIs,?_⟩;refine wpAny_getItem_list_slice ht.isList hs pl pu .none (by simp) ?_ (by rw[List.size_toArray]<;>lia)
 rw[sS,<-hlen];refine⟨.ref s.heap.objs.size,_,I.laid (t':=s.toks) (o:=.lst (wH xs lo hi)) (fun b ob q=>Heap.get?_push_of_some _ q) (Nat.le_refl _) ?_,rfl,q _ (I.hok.fresh (Nat.le_refl _))⟩
 exact⟨Nat.le_trans (wI xs lo hi) hz,_,0,(r.drop (HT.o4 xs.length 0 lo)).take (HT.o4 xs.length xs.length hi-HT.o4 xs.length 0 lo),Heap.get?_push_size _ rfl⟩
def ik:V->Bool
 | .fL=>true
 | .bl _=>true
 | .int _=>true
 | .str _=>true
 | _=>false
def Br:V->V->Bool
 | .fL,.fL=>true
 | .bl a,.bl b=>a==b
 | .bl a,.int b=>(if a then 1 else 0)==b
 | .int a,.bl b=>a==(if b then 1 else 0)
 | .int a,.int b=>a==b
 | .str a,.str b=>a==b
 | _,_=>false
theorem IM{A:Around}{s:Shared}{y x:V}{u v:Value}(ry:RelV y u)(rx:RelV x v)(fy:ik y=true)(fx:ik x=true):SeqAt.EqAt A s u v (Br y x):=by
 cases y with
 | fL =>
   cases ry;cases x with
   | fL=>cases rx;exact SeqAt.EqAt.same _
   | bl b=>cases rx;exact SeqAt.EqAt.none_bool b
   | int b=>obtain⟨t,rfl⟩:=rx;exact SeqAt.EqAt.none_int b t
   | str b=>obtain⟨t,rfl⟩:=rx;exact SeqAt.EqAt.none_str b t
   | _=>exact absurd (show false=true from fx) Bool.false_ne_true
 | bl a =>
   cases ry;cases x with
   | fL=>cases rx;exact SeqAt.EqAt.bool_none a
   | bl b=>cases rx;exact SeqAt.EqAt.bool_bool a b
   | int b=>obtain⟨t,rfl⟩:=rx;exact SeqAt.EqAt.bool_int a b t
   | str b=>obtain⟨t,rfl⟩:=rx;exact SeqAt.EqAt.bool_str a b t
   | _=>exact absurd (show false=true from fx) Bool.false_ne_true
 | int a =>
   obtain⟨t',rfl⟩:=ry;cases x with
   | fL=>cases rx;exact SeqAt.EqAt.int_none a t'
   | bl b=>cases rx;exact SeqAt.EqAt.int_bool a t' b
   | int b=>obtain⟨t,rfl⟩:=rx;exact SeqAt.EqAt.int_int a t' b t
   | str b=>obtain⟨t,rfl⟩:=rx;exact SeqAt.EqAt.int_str a t' b t
   | _=>exact absurd (show false=true from fx) Bool.false_ne_true
 | str a =>
   obtain⟨t',rfl⟩:=ry;cases x with
   | fL=>cases rx;exact SeqAt.EqAt.str_none a t'
   | bl b=>cases rx;exact SeqAt.EqAt.str_bool a t' b
   | int b=>obtain⟨t,rfl⟩:=rx;exact SeqAt.EqAt.str_int a t' b t
   | str b=>obtain⟨t,rfl⟩:=rx;exact SeqAt.EqAt.str_str a t' b t
   | _=>exact absurd (show false=true from fx) Bool.false_ne_true
 | _=>exact absurd (show false=true from fy) Bool.false_ne_true
def uV(x:V)(u:Value):Bool:=match u with
 | .none=>Br .fL x
 | .bool b=>Br (.bl b) x
 | .int i _=>Br (.int i) x
 | .str z _=>Br (.str z) x
 | _=>false
theorem uW{x y:V}{u:Value}(r:RelV y u)(f:ik y=true):uV x u=Br y x:=by
 cases y with
 | fL=>cases r;rfl
 | bl b=>cases r;rfl
 | int i=>obtain⟨t,rfl⟩:=r;rfl
 | str z=>obtain⟨t,rfl⟩:=r;rfl
 | _=>exact absurd (show false=true from f) Bool.false_ne_true
theorem nM{x:V}:∀{xs:List V} {us:List Value},Vals xs us->xs.all ik=true->us.any (uV x)=xs.any fun y=>Br y x
 | _,_,.nil,_=>rfl
 | y::xs,u::us,.cons r t,f=>by
   rw[List.all_cons,Bool.and_eq_true]at f;rw[List.any_cons,List.any_cons,uW r f.1,nM t f.2]
theorem iQ{A:Around}{s:Shared}{x:V}{v:Value}(rx:RelV x v)(fx:ik x=true):∀{xs:List V} {us:List Value},Vals xs us->xs.all ik=true->∀ u∈us,SeqAt.EqAt A s u v (uV x u)
 | _,_,.nil,_=>fun u hu=>by cases hu
 | y::xs,u::us,.cons r t,f=>fun u' hu=>by
   rw[List.all_cons,Bool.and_eq_true]at f;rcases List.mem_cons.mp hu with rfl|hu
   ·rw[uW r f.1];exact IM r rx f.1 fx
   ·exact iQ rx fx t f.2 u' hu
def FO(x:V)(xs:List V):Bool:=xs.any fun y=>Br y x
def MT(K:bO)(neg:Bool):R2:=fun x y H Q=>∃ p xs,y = .ref p/\(aO K H p xs\/aY K H p xs)/\ik x=true/\xs.all ik=true/\Q (.bl (if neg then !FO x xs else FO x xs)) H
theorem Bs:kR X (compareOp .In) (MT X.K false):=by
 intro pq s σ H x y v u Q I rx ry h;obtain⟨p,xs,rfl,hq,fx,fs,q⟩:=h;cases ry;rcases hq with hq|hq
 ·obtain⟨its,r,pl,hz⟩:=I.list hq;refine SeqAt.in_listAt (uV x) pl.isList (fun w hw=>iQ rx fx r fs w (by simpa using hw)) ⟨.bl _,H,I,rfl,?_⟩
  rw[show its.toArray.any (uV x)=its.any (uV x) by simp,nM r fs]
  exact q
 ·obtain⟨its,r,pl,hz⟩:=I.tuple hq;refine SeqAt.in_tupleAt (uV x) pl (fun w hw=>iQ rx fx r fs w (by simpa using hw)) ⟨.bl _,H,I,rfl,?_⟩
  rw[show its.toArray.any (uV x)=its.any (uV x) by simp,nM r fs]
  exact q
theorem uX:kR X (compareOp .NotIn) (MT X.K true):=by
 intro pq s σ H x y v u Q I rx ry h;obtain⟨p,xs,rfl,hq,fx,fs,q⟩:=h;cases ry;rcases hq with hq|hq
 ·obtain⟨its,r,pl,hz⟩:=I.list hq;refine SeqAt.notIn_listAt (uV x) pl.isList (fun w hw=>iQ rx fx r fs w (by simpa using hw)) ⟨.bl _,H,I,rfl,?_⟩
  rw[show its.toArray.any (uV x)=its.any (uV x) by simp,nM r fs]
  exact q
 ·obtain⟨its,r,pl,hz⟩:=I.tuple hq;refine SeqAt.notIn_tupleAt (uV x) pl (fun w hw=>iQ rx fx r fs w (by simpa using hw)) ⟨.bl _,H,I,rfl,?_⟩
  rw[show its.toArray.any (uV x)=its.any (uV x) by simp,nM r fs]
  exact q
theorem uY:eZ X (.builtin "len") (fun xs H Q=>∃ p ys,xs=[.ref p]/\(aO X.K H p ys\/aY X.K H p ys)/\Q (.int ys.length) H):=by
 intro pq s σ H xs us Q I r h;obtain⟨p,ys,rfl,hq,q⟩:=h;obtain⟨u,rfl,rx⟩:=vals1 r;cases rx;have hn:=oX;rcases hq with hq|hq
 ·obtain⟨its,r',pl,hz⟩:=I.list hq;have hlen:=r'.length;exact Calls.call_len_list pl.isList (by simp only[List.size_toArray]<;>lia) ⟨.int ys.length,H,I.tok _,⟨s.toks+1,by rw[List.size_toArray,hlen]⟩,q⟩
 ·obtain⟨its,r',pl,hz⟩:=I.tuple hq;have hlen:=r'.length;exact len_tuple pl (by simp only[List.size_toArray]<;>lia) ⟨.int ys.length,H,I.tok _,⟨s.toks+1,by rw[List.size_toArray,hlen]⟩,q⟩
theorem sU:eZ X (.type "tuple") (fun xs H Q=>∃ p ys,xs=[.ref p]/\((aO X.K H p ys/\∀ l,H l=none->Q (.ref l) (upd H l (.tup ys)))\/(aY X.K H p ys/\Q (.ref p) H))):=by
 intro pq s σ H xs us Q I r h;obtain⟨p,ys,rfl,h⟩:=h;obtain⟨u,rfl,rx⟩:=vals1 r;cases rx;rcases h with⟨hq,q⟩|⟨hq,q⟩
 ·obtain⟨its,r',pl,hz⟩:=I.list hq;have hlen:=r'.length;refine call_tuple_list pl.isList (fun h' kp=>?_) (by simp only[List.size_toArray]<;>lia)
  have I1:Inv X pq σ H { s with heap:=h'}:=I.kept (t':=s.toks) kp
  have I2:Inv X pq σ (upd H h'.objs.size (.tup ys)) { s with heap:=h'.push { cls:=.type "tuple",data:=.seq its.toArray}} :=
   I1.laid (t':=s.toks) (fun b o e=>Heap.get?_push_of_some _ e) (Nat.le_refl _) (show bN X.prog X.w _ _ _ (.tup ys) from⟨hz,its,r',IsTup.new _ _⟩)
  exact⟨.ref h'.objs.size,_,I2,rfl,q _ (I1.hok.fresh (Nat.le_refl _))⟩
 ·obtain⟨its,r',pl,hz⟩:=I.tuple hq;exact call_tuple_same pl ⟨.ref p,H,I,rfl,q⟩
def NW(K:bO)(T:String)(x:V)(H:Hp):Prop:=match x with
 | .str _=>T="str"
 | .int _=>T="int"
 | .ref p=>(T="list"/\∃ xs,aO K H p xs)\/(T="tuple"/\∃ o,K.lookup p=some o/\o.cls = .type "tuple"/\o.dict=none)\/
  (T="dict"/\((∃ kvs,H p=some (.dK kvs))\/∃ kvs,H p=some (.dT kvs)))\/(T="set"/\∃ S n,H p=some (.set S n))
 | _=>False
theorem DB{pq:aW}{σ:St}{H:Hp}{s:Shared}{T:String}{x:V}{v:Value}(I:Inv X pq σ H s)(r:RelV x v)(ty:NW X.K T x H):
 s.TypeIs v T/\∀ a,v = .ref a->∃ ob,s.heap.get? a=some ob/\ob.dict=none:=by
 cases x with
 | str z =>
   obtain⟨t,rfl⟩:=r;cases(show T="str" from ty)
   exact⟨typeIs_str s z t,fun _ e=>nomatch e⟩
 | int i =>
   obtain⟨t,rfl⟩:=r;cases(show T="int" from ty)
   exact⟨typeIs_int s i t,fun _ e=>nomatch e⟩
 | ref p =>
   cases r;rcases ty with⟨rfl,xs,hq⟩|⟨rfl,o,hk,hc,hd⟩|⟨rfl,hk⟩|⟨rfl,S,n,hk⟩
   ·obtain⟨its,_,pl,_⟩:=I.list hq;refine⟨pl.isList.typeIs,fun a e=>?_⟩
    cases e;obtain⟨o,n,e,c,hd,_⟩:=pl;exact⟨o,e,hd⟩
   ·refine⟨⟨o,I.ua p o hk,hc⟩,fun a e=>?_⟩
    cases e;exact⟨o,I.ua _ o hk,hd⟩
   ·have z:∃ o,s.heap.get? p=some o/\o.ExactDict:=by
     rcases hk with⟨kvs,hk⟩|⟨kvs,hk⟩
     ·obtain⟨_,_,_,_,o,_,_,e,ex,_⟩:=I.hok p _ hk;exact⟨o,e,ex⟩
     ·obtain⟨_,_,_,_,o,_,_,e,ex,_⟩:=I.hok p _ hk;exact⟨o,e,ex⟩
    obtain⟨o,e,ex⟩:=z;refine⟨⟨o,e,ex.1⟩,fun a e2=>?_⟩
    cases e2;exact⟨o,e,ex.2.1⟩
   ·obtain⟨o,_,_,_,e,ex,_⟩:=I.hok p _ hk;refine⟨⟨o,e,ex.1⟩,fun a e2=>?_⟩
    cases e2;exact⟨o,e,ex.2.1⟩
 | _=>exact False.elim ty
def NX(K:bO)(T:String)(r:V->List V->Hp->VK->Prop)(to:TE):TE:=fun σ H Q=>to σ H fun x H1=>NW K T x H1/\r x [] H1 Q
def NY(K:bO)(T:String)(r:V->List V->Hp->VK->Prop)(to:TE)(t:TA):TE:=fun σ H Q=>to σ H fun x H1=>NW K T x H1/\t σ H1 fun xs H2=>r x xs H2 Q
variable {o e:Expr}{es:List Expr}{to:TE}{t:TA}{name:Str}{apos cpos:Pos}{T id:String}{r:V->List V->Hp->VK->Prop}
theorem DC(pa:PlainAttrs T)(slot:Slot T name id)(hty:typeOf (.builtin id)=pure (.type "method_descriptor"))(hm:NV X id r)(ho:PE X o to)
 (hbase:attributeBase o name X.env (eval o X.env)=eval o X.env:=by rfl) (hline:(apos.endLine==cpos.line)=true:=by rfl):PE X (.Call (.Attribute o name apos) [] [] cpos) (NX X.K T r to):=by
 intro pq s σ H Q I h;refine wpAny_Call_method0_late hbase hline (eY (ho pq s σ H _ I h) fun v s1 ⟨x,H1,I1,r1,ty,q1⟩=>?_)
 obtain⟨h1,h2⟩:=DB I1 r1 ty;exact⟨T,id,pa,slot,hty,h1,h2,Calls.callWith_builtin rfl (PySem.evalArgs_none (hm pq s1 σ H1 x [] v [] Q I1 r1 .nil q1))⟩
theorem nN(pa:PlainAttrs T)(slot:Slot T name id)(hty:typeOf (.builtin id)=pure (.type "method_descriptor"))(hm:NV X id r)(ho:PE X o to)(ha:PA X (e::es) t)
 (hbase:attributeBase o name X.env (eval o X.env)=eval o X.env:=by rfl)
 (hfew:((backTo cpos (starEach (e::es) X.env)).all (fun x=>!x.1)&&(backToKw cpos (keywordEach [] X.env)).all (fun x=>x.1.isSome)
  && decide ((e::es).length+([]:List Keyword).length+(if([]:List Keyword).isEmpty then 0 else 1)<30))=true:=by rfl)
 (hline:(apos.endLine==cpos.line)=true:=by rfl) (hs:starEach (e::es) X.env=(false,eval e X.env)::starEach es X.env:=by rfl) (hplain:(backTo cpos (starEach es X.env)).any (·.1)=false:=by rfl) :
 PE X (.Call (.Attribute o name apos) (e::es) [] cpos) (NY X.K T r to t):=by
 intro pq s σ H Q I h;refine wpAny_Call_method_late hbase hfew hline rfl (eY (ho pq s σ H _ I h) fun v s1 ⟨x,H1,I1,r1,ty,q1⟩=>?_)
 obtain⟨h1,h2⟩:=DB I1 r1 ty;refine⟨T,id,pa,slot,hty,h1,h2,?_⟩;have hA:=ha cpos pq s1 σ H1 _ I1 q1;rw[hs]at hA ⊢;refine Calls.callWith_builtin (by show(false || (backTo cpos (starEach es X.env)).any (·.1))=false;rw[hplain]<;>rfl) (Calls.evalArgs_plain ?_)
 exact eY hA fun us s2 ⟨vs,H2,I2,r2,q2⟩=>hm pq s2 σ H2 x vs v us Q I2 r1 r2 q2
end
def MU(X:Cx)(id:String)(r:V->List V->Hp->VK->Prop):Prop :=
 ∀(pq:aW) (s:Shared) (σ:St) (H:Hp) (x:V) (xs:List V) (v:Value) (us:List Value) (Q:VK),Inv X pq σ H s->RelV x v->Vals xs us->r x xs H Q->
  wpAny (model X.prog X.w) X.A (call (.builtin id) (v::us)) (EP X pq σ Q) X.xe s
theorem Vals.one:∀{x:V} {us:List Value},Vals [x] us->∃ u,us=[u]/\RelV x u
 | _,_,.cons r .nil=>⟨_,rfl,r⟩
theorem Vals.rep{xs:List V}{us:List Value}(h:Vals xs us):∀ k:Nat,Vals (List.replicate k xs).flatten (List.replicate k us).flatten
 | 0=>.nil
 | k+1=>by
   rw[List.replicate_succ,List.replicate_succ,List.flatten_cons,List.flatten_cons];exact Vals.append h (Vals.rep h k)
theorem foldl_rep(its:List Value):∀(k:Nat) (acc:List Value),
 List.foldl (fun x1 x2=>x1++x2) acc.toArray (List.replicate k its.toArray)=(acc++(List.replicate k its).flatten).toArray
 | 0,acc=>by simp
 | k+1,acc=>by
   have e:acc.toArray++its.toArray=(acc++its).toArray:=by simp
   have e2:(acc++its)++(List.replicate k its).flatten=acc++(List.replicate (k+1) its).flatten:=by
    rw[List.replicate_succ,List.flatten_cons,List.append_assoc]
   rw[<-e2,<-foldl_rep its k (acc++its),<-e,List.replicate_succ,List.foldl_cons]
section
variable {X:Cx}{pq:aW}{σ:St}{H:Hp}{s:Shared}{l b:Addr}{xs ys zs:List V}
theorem Inv.Lf{its its' : List Value}{n:Nat}{f:Array Value->Array Value}{t' : Nat}(I:Inv X pq σ H s)(hH:H l=some (.lst xs))
 (e:s.heap.get? l=some { cls:=.type "list",data:=.seq its.toArray n}) (hf:f its.toArray=its'.toArray) (hv:Vals ys its') (hz:ys.length<=sizeLine) :
 Inv X pq σ (upd H l (.lst ys)) { s with heap:=s.heap.update l (Obj.mapSeq f),toks:=t'}:=by
 have q:=PySem.IsL.update e f;rw[hf]at q;refine I.write (x:=l) (e:=l) (by rw[hH];exact trivial) (.inl rfl) (fun b' u hb hu=>(Heap.get?_update_other s.heap (Obj.mapSeq f) (Ne.symm hb)).trans hu) ⟨_,q⟩ ?_
 exact⟨hz,its',_,hv,q⟩
theorem Inv.Lg{its:List Value}{t' : Nat}(I:Inv X pq σ H s)(hv:Vals ys its)(hz:ys.length<=sizeLine):
 Inv X pq σ (upd H s.heap.objs.size (.lst ys)) { s with heap:=s.heap.push { cls:=.type "list",data:=.seq its.toArray},toks:=t'} :=
 I.laid (fun _ _ q=>Heap.get?_push_of_some _ q) (Nat.le_refl _) ⟨hz,its,0,hv,Heap.get?_push_size _ rfl⟩
theorem Inv.fresh(I:Inv X pq σ H s):H s.heap.objs.size=none:=I.hok.fresh (Nat.le_refl _)
theorem Inv.Bt(I:Inv X pq σ H s)(hH:H l=some (.lst xs)):xs.length<=sizeLine/\∃(its:List Value) (n:Nat),Vals xs its/\xs.length=its.length/\s.heap.get? l=some { cls:=.type "list",data:=.seq its.toArray n}:=by
 obtain⟨z,its,n,r,e⟩:=I.hok l _ hH;exact⟨z,its,n,r,r.length,e⟩
theorem wJ{n:Nat}(h:n<=sizeLine):Builtin.List.listTooLong n=false:=by
 unfold Builtin.List.listTooLong;exact ff (by lia)
end
section
variable {X:Cx}
def Gn:V->List V->Hp->VK->Prop:=fun x vs H Q=>∃ l xs y,x = .ref l/\vs=[y]/\H l=some (.lst xs)/\xs.length<sizeLine/\Q .fL (upd H l (.lst (xs++[y])))
theorem gx:MU X "list.append" Gn:=by
 intro pq s σ H x vs v us Q I rx rv h;obtain⟨l,xs,y,rfl,rfl,hH,hz,q⟩:=h;cases rx;obtain⟨u,rfl,ru⟩:=rv.one;obtain⟨z,its,n,r,hl,e⟩:=I.Bt hH;refine call_meets F.slot_list_append ⟨_,e,rfl⟩ F.entry_list_append (F.args_list_append_2 _ _) (PySem.list_append l its.toArray n u (by rw[List.size_toArray];lia)) ⟨e,?_⟩
 refine⟨.fL,_,I.Lf (its':=its++[u]) hH e (by simp) (r.append (.cons ru .nil)) ?_,rfl,q⟩
 rw[List.length_append,List.length_singleton]
 lia
def Gp:V->List V->Hp->VK->Prop:=fun x vs H Q=>∃ l b xs zs,x = .ref l/\vs=[.ref b]/\H l=some (.lst xs)/\H b=some (.lst zs)/\xs.length+zs.length<=sizeLine/\Q .fL (upd H l (.lst (xs++zs)))
theorem Bu:MU X "list.extend" Gp:=by
 intro pq s σ H x vs v us Q I rx rv h;obtain⟨l,b,xs,zs,rfl,rfl,hH,hB,hz,q⟩:=h;cases rx;obtain⟨u,rfl,ru⟩:=rv.one;cases ru;obtain⟨z,its,n,r,hl,e⟩:=I.Bt hH;obtain⟨z2,its2,n2,r2,hl2,e2⟩:=I.Bt hB;have hsz:its.toArray.size+its2.toArray.size<=sizeLine:=by rw[List.size_toArray,List.size_toArray];lia
 have DE : ¬(!its.toArray.isEmpty&&Builtin.List.listTooLong (its.toArray.size+its2.toArray.size))=true:=by
  rw[wJ hsz,Bool.and_false];exact Bool.false_ne_true
 refine call_meets F.slot_list_extend ⟨_,e,rfl⟩ F.entry_list_extend (F.args_list_extend_2 _ _)
  (AutoSeq1.list_extend_list_list_0 l its.toArray n b its2.toArray n2 DE (by rw[List.size_toArray];lia) (by lia)) ⟨e,e2,?_⟩
 refine⟨.fL,_,I.Lf (its':=its++its2) hH e (by simp) (r.append r2) ?_,rfl,q⟩
 rw[List.length_append]
 lia
def NZ:R2:=fun x y H Q=>∃ l k xs,x = .ref l/\y = .int k/\H l=some (.lst xs)/\-(2^63)<=k/\k<2^63/\xs.length*k.toNat<=sizeLine/\
 ∀ p,H p=none->Q (.ref p) (upd H p (.lst (List.replicate k.toNat xs).flatten))
theorem len_rep{α:Type}(xs:List α)(k:Nat):(List.replicate k xs).flatten.length=k*xs.length:=by
 induction k with
 | zero=>simp
 | succ k ih=>rw[List.replicate_succ,List.flatten_cons,List.length_append,ih,Nat.succ_mul,Nat.add_comm]
theorem yF:kR X (binaryOp .Mult) NZ:=by
 intro pq s σ H x y v u Q I rx ry h;obtain⟨l,k,xs,rfl,rfl,hH,h1,h2,hz,q⟩:=h;cases rx;obtain⟨t,rfl⟩:=ry;obtain⟨z,its,n,r,hl,e⟩:=I.Bt hH;have hlen:its.toArray.size*k.toNat<=sizeLine:=by rw[List.size_toArray,<-hl];exact hz
 have N1 : ¬ its.toArray.size*k.toNat > (2^63-1)/8:=by
  have:(sizeLine:Nat)<=(2^63-1)/8:=by decide
  lia
 have hfit : ¬(!Builtin.List.listFitsIndex k)=true:=by
  rw[fitsIndex_both h1 h2];exact Bool.false_ne_true
 have DE : ¬ Builtin.List.listTooLong (its.toArray.size*k.toNat)=true:=by
  rw[wJ hlen];exact Bool.false_ne_true
 have hnew:List.foldl (fun x1 x2=>x1++x2) #[] (List.replicate (if its.toArray.isEmpty=true then 0 else k.toNat) its.toArray)=(List.replicate k.toNat its).flatten.toArray:=by
  have f0:∀ m:Nat,List.foldl (fun x1 x2=>x1++x2) #[] (List.replicate m its.toArray)=(List.replicate m its).flatten.toArray:=fun m=>by
   have:=foldl_rep its m [];rw[List.nil_append]at this;exact this
  rw[f0];cases its with
  | nil=>simp
  | cons a r'=>rw[if_neg (by simp)]
 refine wpAny_binaryOp_repeat_ref (T:="list") (U:="int") (by decide) ⟨_,e,rfl⟩ (fun s'=>typeIs_int s' k t) noFill_list_mul F.fills_int_mul F.slot_int_rmul repeat_list F.slot_int_index.lookup
  (call_meets F.slot_int_rmul (typeIs_int s k t) F.entry_int_rmul (F.args_int_rmul_2 _ _) (int___rmul___int_list k t l its.toArray n)
   ⟨e,rfl,⟨_,e,rfl⟩,call_meets F.slot_list_mul ⟨_,e,rfl⟩ F.entry_list_mul (F.args_list_mul_2 _ _) (AutoListH.list___mul___list_int_3 l its.toArray n k t hfit N1 DE) ⟨e,?_⟩⟩)
 rw[hnew];exact⟨.ref _,_,I.Lg (t':=s.toks) (r.rep k.toNat) (by rw[len_rep,Nat.mul_comm];exact hz),rfl,q _ I.fresh⟩
end
end L2
namespace Att
open PySem PySem.W PySem.Calls PyProof.Rows
theorem qf{P:Params}{h:Heap}:∀(ns:List Int) (vs:List Value),WellAll P h vs (ns.map WData.int)->IntsAre vs ns:=by
 intro ns
 induction ns with
 | nil =>
   intro vs w;rw[List.map_nil]at w;cases w;exact .nil
 | cons n ns ih =>
   intro vs w;rw[List.map_cons]at w;cases w with
   | cons a b =>
     cases a;exact .cons _ _ (ih _ b)
theorem Bv{l:OpenLaw}{n:Nat}(hn:l.most=some n){P:Params}{h:Heap}{args:List WData}{vals:List Value}
 (hpre:l.row.toRowW.claim.pre args=true) (N2:WellAll P h vals args) :
 ∃ a vs ns,vals=[Value.ref a]/\args=[WData.list (ns.map WData.int)]/\h.get? a=some { cls:=.type "list",data:=.seq vs.toArray}/\IntsAre vs ns/\ns.length<=n:=by
 have hsh:WShape.hasAll [] args [.list .int]=true:=(pre_splitW hpre).1;have hc:l.pre.holds [] { args:=args}=true:=(pre_splitW hpre).2;obtain⟨d,r,rfl,h1,h2⟩:=hasAllW_cons hsh;obtain rfl:=hasAllW_nil h2;obtain⟨xs,rfl,h3⟩:=hasW_list h1;obtain⟨ns,rfl⟩:=items_int h3;have hlen:ns.length<=n:=by
  unfold OpenLaw.pre at hc;have h4:(WTm.not (.lt (.lit (.int (n:Int))) (.len (.arg 0)))).holds [] { args:=[.list (ns.map .int)]}=true:=by
   have h4:=(holds_andW hc).1;rw[hn]at h4;exact h4
  have h5:=condW_of h4 (w_not (w_lt w_lit (w_len_list (w_arg rfl))));rw[List.length_map]at h5;refine Nat.le_of_not_lt fun q=>?_
  have q' : (n:Int)<((ns.length:Nat):Int):=by lia
  first
   | (rw[cU q']at h5;exact absurd h5 (by decide))
   | (simp at h5;lia)
 cases N2 with
 | cons w1 w2 =>
   cases w2;cases w1 with
   | list ho hall=>exact⟨_,_,ns,rfl,rfl,ho,qf ns _ hall,hlen⟩
theorem Bw(l:OpenLaw)(args:List WData):l.row.toRowW.claim.post args (.bool true) args=true :=
 postW_of (r:=l.row.toRowW) (X:=(true==true))
  (show WShape.has [] (.bool true) .bool=true by first | rfl | decide | simp[WShape.has,WShape.arms,WShape.armsAll])
  (show(WTm.eq .res (.lit (.bool true))).value [] { args:=args,res:=some (.bool true),after:=args}=some (.bool (true==true)) from w_eq_bool (w_res rfl) w_lit) rfl
theorem wK{l:OpenLaw}{n:Nat}{q:Program}{loose:List Str}{XP:(Str->Option Value)->Heap->Prop}{YP:World->Heap->Prop}{d:DefRec}
 (hn:l.most=some n) (Lh:d.params.defaults=[])
 (call:∀(w:World) (s₀ s₁:Shared) (mg mb:kX) (fa:Addr) (o:Obj) (pm cd doc:Value) (a:Addr) (vs:List Value) (ns:List Int),
  Ground q loose [] XP w s₀ mg mb s₁.heap->YP w s₁.heap->
  s₁.heap.get? fa=some o->o.data = .func (docDef d.name d.params d.body d.scope pm cd doc)->s₁.heap.CodeRec cd d.name->mg d.name=some (.ref fa)->
  s₁.heap.get? a=some { cls:=.type "list",data:=.seq vs.toArray}->IntsAre vs ns->ns.length<=n->s₁.gens = #[]->
  codeAny (model l.prog w) callerA (.call (.ref fa) ⟨[.ref a],[]⟩) (fun r s'=>r = .ok (.ret (.bool true))/\OldK s₁.heap s'.heap/\s'.os=s₁.os/\AllBare s'.gens) s₁) :
 WalkO q loose XP YP l.row.toRowW d [] (fun f vs=>PySem.call f vs):=by
 intro w s₀ s₁ mg mb G Y fa o pm cd doc dV kV ho hd hcd hD hmg hg args vals as hpre hlay hrd N2 hlo;obtain rfl:dV = .none:=Dflts.none hD Lh;obtain rfl:kV = .none:=Dflts.noKw hD;obtain⟨a,vs,ns,rfl,rfl,hobj,hints,hlen⟩:=Bv hn hpre N2;refine enter_call (codeAny_mono (call w s₀ s₁ mg mb fa o pm cd doc a vs ns G Y ho (fd_plain hd) hcd hmg hobj hints hlen hg) fun r s' hq=>?_)
 obtain⟨rfl,h2,h3,h4⟩:=hq;exact⟨.inl ⟨.bool true,.bool true,[],rfl,fun _=>rfl,.bool true,Bw l _,fun _=>⟨List.Pairwise.nil,fun _ hm=>(nomatch hm)⟩⟩,h2,h3,h4⟩
end Att
namespace L2
open PySem PySem.Spec PyProof.Rows
theorem ug:∀{vs:List Value} {ns:List Int},IntsAre vs ns->Vals (ns.map V.int) vs
 | _,_,.nil=>.nil
 | _,_,.cons n t h=>.cons ⟨t,rfl⟩ (ug h)
end L2
namespace L2
open PySem PySem.Spec PyProof.Rows
def dN(s:Stmt):Arguments:=match s with
 | .FunctionDef _ a _ _ _ _ _ _ _ _=>a
 | _=>{ posonlyargs:=[],args:=[],vararg:=none,kwonlyargs:=[],kw_defaults:=[],kwarg:=none,defaults:=[]}
def cf(s:Stmt):List Stmt:=match s with
 | .FunctionDef _ _ b _ _ _ _ _ _ _=>b
 | _=>[]
def aj(s:Stmt):Scope:=match s with
 | .FunctionDef _ _ _ _ _ _ sc _ _ _=>sc
 | _=>{ kind:=.function,names:=[],isGenerator:=false,isCoroutine:=false}
abbrev Ar:C3:=fun _ _ _ _ _ _=>False
abbrev E0:XK:=fun _ _ _=>False
theorem aL{X:Cx}:Passes Ar X E0:=fun _ _ _ _ _ _ _ h=>h.elim
structure Gq(K:bO)(x qual:Str)(st:Stmt)(f:Addr)(fd:FuncData):Prop where
 ex:∃(oc:Value) (od:Option Addr) (kV doc pm:Value) (an:Option Addr) (cdv ct:Value) (osl:Array (Option Value)),
  fd=PySem.W.fnOf x qual (dN st) (cf st) (aj st) .none kV doc pm an cdv ct/\K.lookup f=some ⟨oc,od,.func fd,osl⟩/\PySem.W.codeIn K cdv qual=true
 kp:PySem.W.keepIn K (.ref f)=true
section
variable {P:Program}{w:World}{K:bO}{mg:kX}{base:Heap}
theorem Gq.ok{x qual:Str}{st:Stmt}{f:Addr}{fd:FuncData}{N ps:List Str}{k:Nat}{sp:Sp}(F:Gq K x qual st f fd)(S:aE N ps (aj st))(len:∀ vs H Q E,sp vs H Q E->vs.length=ps.length)
 (hbody:∀(cdv:Value) (A:Around) (outer:List Env) (s:Shared) (H:Hp) (vs:List V) (Q:VK) (E:XK),gq k (A.deeper (envOfC qual (aj st) s.heap.objs.size f cdv))->sp vs H Q E->
  ∃ t,qR (qe Ar P w K mg base N qual (aj st) f cdv A outer s H E).yt (cf st) t/\t { nx:=fun _ H'=>Q .fL H',rt:=Q} (start N vs) H):k7 P w K mg base Ar (k+1) f fd ps sp:=by
 obtain⟨oc,od,kV,doc,pm,an,cdv,ct,osl,rfl,lk,hcd⟩:=F.ex;refine DA lk hcd S len fun A outer s H vs Q E hr qX=>?_
 obtain⟨t,h,q⟩:=hbody cdv A outer s H vs Q E hr qX;exact⟨t,h.yt,q⟩
theorem Gq.binds{x qual:Str}{st:Stmt}{f:Addr}{fd:FuncData}{ps:List Str}(F:Gq K x qual st f fd)
 (h:∀(kV doc pm:Value) (an:Option Addr) (cdv ct:Value) (us:List Value),us.length=ps.length->bindArgs (PySem.W.fnOf x qual (dN st) (cf st) (aj st) .none kV doc pm an cdv ct) ⟨us,[]⟩=pure (ps.zip us)):Binds K fd ps []:=by
 obtain⟨oc,od,kV,doc,pm,an,cdv,ct,osl,rfl,lk,hcd⟩:=F.ex;exact .all (h kV doc pm an cdv ct)
theorem IP{x qual:Str}{st:Stmt}{f:Addr}{oc:Value}{od an:Option Addr}{osl:Array (Option Value)}{kV doc pm cdv ct:Value}(l:K.lookup f=some ⟨oc,od,.func (PySem.W.fnOf x qual (dN st) (cf st) (aj st) .none kV doc pm an cdv ct),osl⟩)
 (c:PySem.W.codeIn K cdv qual=true) (k:PySem.W.keepIn K (.ref f)=true):Gq K x qual st f (PySem.W.fnOf x qual (dN st) (cf st) (aj st) .none kV doc pm an cdv ct):=⟨⟨oc,od,kV,doc,pm,an,cdv,ct,osl,rfl,l,c⟩,k⟩
end
theorem jH{n:Nat}(h:n<=1000):n<sizeLine:=Nat.lt_of_le_of_lt h (by decide)
section
variable {X:Cx}
theorem pv(i:Nat){x:Str}{pos:Pos}(hN:X.N[i]?=some x:=by rfl)(hv:MN X.env.scope x:=by first | exact Or.inl rfl | exact Or.inr (Or.inl rfl) | exact Or.inr (Or.inr rfl))(hd:(x==("__debug__":Str))=false:=by decide)
 (hcd:(x==("__classdict__":Str))=false:=by decide):PE X (.Name x pos) (KL i):=IA hN hv hd hcd
end
theorem bh{A B:Prop}(h:B):if false=true then A else B:=by
 rw[if_neg Bool.false_ne_true];exact h
theorem bQ{A B:Prop}(h:A):if true=true then A else B:=by
 rw[if_pos rfl];exact h
theorem gr{c A B:Prop}[Decidable c](h1:c->A)(h2 : ¬ c->B):if c then A else B:=by
 by_cases h:c
 ·rw[if_pos h];exact h1 h
 ·rw[if_neg h];exact h2 h
def au(H H' : Hp):Prop:=∀ b o,H b=some o->H' b=some o
theorem au.refl(H:Hp):au H H:=fun _ _ h=>h
theorem au.trans{H H1 H2:Hp}(a:au H H1)(b:au H1 H2):au H H2:=fun c o h=>b c o (a c o h)
theorem au.free{H H' : Hp}(e:au H H'){l:Addr}(h:H' l=Option.none):H l=Option.none:=by
 cases q:H l with
 | none=>rfl
 | some o =>
   rw[e l o q]at h;cases h
theorem au.seq{K:bO}{H H' : Hp}{a:Addr}{xs:List V}(e:au H H')(h:aO K H a xs):aO K H' a xs:=by
 rcases h with(h|⟨o,h⟩) | h
 ·exact .inl (.inl (e _ _ h))
 ·exact .inl (.inr ⟨o,e _ _ h⟩)
 ·exact .inr h
def cY(cells:List (Str×Addr)):List (Str×NameKind)->List (Str×Addr)->List (Str×Addr)
 | [],cs=>cs
 | (n,k)::r,cs=>cY cells r (if(k==NameKind.free)=true then(n,(cells.lookup n).getD 0)::cs else cs)
theorem qY{env:Env}{f:Str×NameKind->List (Str×Addr)->Sem (ForInStep (List (Str×Addr)))}
 (hf1:∀ n k cs c,(k==NameKind.free)=true->env.cells.lookup n=some c->f (n,k) cs=pure (.yield ((n,c)::cs)))
 (hf2:∀ n k cs,(k==NameKind.free)=false->f (n,k) cs=pure (.yield cs)) :
 ∀(names:List (Str×NameKind)) (cs:List (Str×Addr)),(∀ n k,(n,k)∈names->(k==NameKind.free)=true->∃ c,env.cells.lookup n=some c)->
  forIn names cs f=(pure (cY env.cells names cs):Sem (List (Str×Addr)))
 | [],cs,_=>by rw[List.forIn_nil];rfl
 | (n,k)::r,cs,h=>by
   have ih:=fun cs=>qY hf1 hf2 r cs fun m j hm=>h m j (lU _ hm)
   rw[List.forIn_cons];cases e:(k==NameKind.free) with
   | true =>
     obtain⟨c,hc⟩:=h n k List.mem_cons_self e;rw[hf1 n k cs c e hc,pure_bind];show forIn r ((n,c)::cs) f=_;rw[ih]
     conv=>rhs;unfold cY
     rw[if_pos e,hc];rfl
   | false =>
     rw[hf2 n k cs e,pure_bind];show forIn r cs f=_;rw[ih]
     conv=>rhs;unfold cY
     rw[if_neg (by rw[e];exact Bool.false_ne_true)]
theorem mU{scope:Scope}{env:Env}(h:∀ n k,(n,k)∈scope.names->(k==NameKind.free)=true->∃ c,env.cells.lookup n=some c):closureFor scope env=pure (cY env.cells scope.names []):=by
 simp only[closureFor];rw[qY (env:=env) ?_ ?_ scope.names [] h]
 ·rfl
 ·intro n k cs c e hc;show(if(k==NameKind.free)=true then _ else _)=_
  rw[if_pos e];unfold cellOf;rw[hc];rfl
 ·intro n k cs e;show(if(k==NameKind.free)=true then _ else _)=_
  rw[if_neg (by rw[e];exact Bool.false_ne_true)]
theorem i9{cells:List (Str×Addr)}{x:Str}{c:Addr}:∀{names:List (Str×NameKind)} {cs:List (Str×Addr)},(cY cells names cs).lookup x=some c->cs.lookup x=some c\/((x,NameKind.free)∈names/\(cells.lookup x).getD 0=c)
 | [],cs,h=>.inl h
 | (n,k)::r,cs,h=>by
   unfold cY at h;rcases i9 h with q|⟨q1,q2⟩
   ·by_cases e:(k==NameKind.free)=true
    ·rw[if_pos e]at q
     by_cases hx:x=n
     ·subst hx;rw[List.lookup_cons_self]at q;have hk:k=NameKind.free:=eq_of_beq e;exact .inr ⟨by rw[hk];exact List.mem_cons_self,Option.some.inj q⟩
     ·have hb:(x==n)=false:=beq_eq_false_iff_ne.mpr hx;simp only[List.lookup_cons,hb]at q;exact .inl q
    ·rw[if_neg e]at q;exact .inl q
   ·exact .inr ⟨lU _ q1,q2⟩
theorem iR{cells:List (Str×Addr)}{x:Str}:∀{names:List (Str×NameKind)} {cs:List (Str×Addr)},((x,NameKind.free)∈names\/∃ c,cs.lookup x=some c)->∃ c,(cY cells names cs).lookup x=some c
 | [],cs,h=>by
   rcases h with h|h
   ·cases h
   ·exact h
 | (n,k)::r,cs,h=>by
   unfold cY;apply iR;rcases h with h|⟨c,h⟩
   ·rcases List.mem_cons.mp h with h|h
    ·cases h
     right
     rw[if_pos (by rfl)]
     exact⟨_,List.lookup_cons_self⟩
    ·exact .inl h
   ·right
    by_cases e:(k==NameKind.free)=true
    ·rw[if_pos e]
     by_cases hx:x=n
     ·subst hx;exact⟨_,List.lookup_cons_self⟩
     ·have hb:(x==n)=false:=beq_eq_false_iff_ne.mpr hx;exact⟨c,by simp only[List.lookup_cons,hb];exact h⟩
    ·rw[if_neg e];exact⟨c,h⟩
theorem j7{env:Env}{x:Str}{k:NameKind}:∀{names:List (Str×NameKind)},
 (names.map fun(n,k)=>if(k==NameKind.free&&env.scope.kind == .function&&env.kindOf n==some .cell) then(n,NameKind.cell) else(n,k)).lookup x=some k->
  ∃ k0,names.lookup x=some k0/\(k=k0\/(k0 = .free/\k = .cell))
 | [],h=>by cases h
 | (n,j)::r,h=>by
   have ih:=@j7 env x k r
   replace h:List.lookup x ((if(j==NameKind.free&&env.scope.kind == .function&&env.kindOf n==some .cell)=true then(n,NameKind.cell) else(n,j))::_)=some k:=h
   cases hx:x==n with
   | true =>
     by_cases hc:(j==NameKind.free&&env.scope.kind == .function&&env.kindOf n==some .cell)=true
     ·rw[if_pos hc]at h;simp only[List.lookup_cons,hx]at h ⊢;have hj:j=NameKind.free:=by
       rw[Bool.and_eq_true,Bool.and_eq_true]at hc;exact eq_of_beq hc.1.1
      exact⟨j,rfl,.inr ⟨hj,(Option.some.inj h).symm⟩⟩
     ·rw[if_neg hc]at h;simp only[List.lookup_cons,hx]at h ⊢;exact⟨j,rfl,.inl (Option.some.inj h).symm⟩
   | false =>
     by_cases hc:(j==NameKind.free&&env.scope.kind == .function&&env.kindOf n==some .cell)=true
     ·rw[if_pos hc]at h;simp only[List.lookup_cons,hx]at h ⊢;exact ih h
     ·rw[if_neg hc]at h;simp only[List.lookup_cons,hx]at h ⊢;exact ih h
theorem nO{env:Env}{x:Str}:∀{names:List (Str×NameKind)},names.lookup x=some .free->
 (names.map fun(n,k)=>if(k==NameKind.free&&env.scope.kind == .function&&env.kindOf n==some .cell) then(n,NameKind.cell) else(n,k)).lookup x=some .cell\/
 (names.map fun(n,k)=>if(k==NameKind.free&&env.scope.kind == .function&&env.kindOf n==some .cell) then(n,NameKind.cell) else(n,k)).lookup x=some .free
 | [],h=>by cases h
 | (n,j)::r,h=>by
   have ih:=@nO env x r;show List.lookup x ((if(j==NameKind.free&&env.scope.kind == .function&&env.kindOf n==some .cell)=true then(n,NameKind.cell) else(n,j))::_)=_\/
    List.lookup x ((if(j==NameKind.free&&env.scope.kind == .function&&env.kindOf n==some .cell)=true then(n,NameKind.cell) else(n,j))::_)=_
   cases hx:x==n with
   | true =>
     simp only[List.lookup_cons,hx]at h;cases h
     by_cases hc:(NameKind.free==NameKind.free&&env.scope.kind == .function&&env.kindOf n==some .cell)=true
     ·rw[if_pos hc];simp only[List.lookup_cons,hx];exact .inl trivial
     ·rw[if_neg hc];simp only[List.lookup_cons,hx];exact .inr trivial
   | false =>
     simp only[List.lookup_cons,hx]at h
     by_cases hc:(j==NameKind.free&&env.scope.kind == .function&&env.kindOf n==some .cell)=true
     ·rw[if_pos hc];simp only[List.lookup_cons,hx];exact ih h
     ·rw[if_neg hc];simp only[List.lookup_cons,hx];exact ih h
def cZ(X:Cx)(N:List Str)(scope:Scope)(xe:ig)(C:Addr)(s:Shared)(H:Hp)(fp:List Addr):Cx where
 prog:=X.prog
 w:=X.w
 K:=X.K
 mg:=X.mg
 base:=X.base
 A:=X.A
 N:=N
 s₀:=s
 H₀:=H
 env:=compEnvC scope (cY X.env.cells scope.names []) C X.env
 outer:=X.stack
 stack:=X.stack
 ex:=fp
 fn:=fun _=>false
 calm:=X.calm
 pn:=[]
 xe:=xe
def fP(σ:St)(js:List Nat):St:=js.map fun j=>(σ[j]?).getD none
structure e7(X:Cx)(scope:Scope)(own fq:List Str)(js:List Nat):Prop where
 kind:scope.kind = .function
 uZ:∀ y∈scope.names,y.2≠.cell
 names:∀ y∈scope.names,y.2 = .local->scope.names.lookup y.1=some .local
 free:∀ y∈scope.names,y.2 = .free->X.env.scope.names.lookup y.1=some .cell\/X.env.scope.names.lookup y.1=some .free
 at_:js.map (fun j=>X.N[j]?)=fq.map some
 fr:∀ x∈fq,scope.names.lookup x=some .free
theorem qZ{σ:St}{js:List Nat}{i:Nat}{v:V}(h:(fP σ js)[i]?=some (some v)):∃ j,js[i]?=some j/\σ[j]?=some (some v):=by
 unfold fP at h;rw[List.getElem?_map]at h;cases e:js[i]? with
 | none=>rw[e]at h;cases h
 | some j =>
   rw[e]at h;have h' : (σ[j]?).getD none=some v:=Option.some.inj h;refine⟨j,rfl,?_⟩;cases q:σ[j]? with
   | none=>rw[q]at h';cases h'
   | some o=>rw[q]at h';rw[show o=some v from h']
section
variable {X:Cx}
theorem gy{pq:aW}{σ:St}{H:Hp}{s:Shared}{scope:Scope}{own fq:List Str}{js:List Nat}(I:Inv X pq σ H s)(T:e7 X scope own fq js):
 ∀ n k,(n,k)∈scope.names->(k==NameKind.free)=true->∃ c,X.env.cells.lookup n=some c:=fun n k hm e=>by
 have hk:k=NameKind.free:=eq_of_beq e;exact I.ok.has n (T.free (n,k) hm hk)
theorem DF{pq:aW}{σ:St}{H:Hp}{s:Shared}{scope:Scope}{own fq:List Str}{js:List Nat}{fp:List Addr}{D C:Addr}{h1:Heap}{t1:Nat}{m:kX}{xe:ig}
 (I:Inv X pq σ H s) (T:e7 X scope own fq js) (hf:∀ b∈fp,mT X pq H b) (hfo:∀ b∈fp,∃ o,s.heap.get? b=some o) (hD:s.heap.objs.size<=D) (hC:s.heap.objs.size<=C) (hDC:D≠C)
 (old:∀ b o,s.heap.get? b=some o->h1.get? b=some o) (hl:h1.get? D=some { cls:=.type "list",data:=.seq ([]:List Value).toArray 0}) (hn:h1.Ns C m) :
 Inv (cZ X (own++fq) scope xe C s H fp) [] (List.replicate own.length none++fP σ js) (upd H D (.lst [])) { s with heap:=h1,toks:=t1}:=by
 have cells:∀ x c,(cY X.env.cells scope.names []).lookup x=some c->X.env.cells.lookup x=some c:=fun x c h=>by
  rcases i9 h with q|⟨q1,q2⟩
  ·cases q
  ·obtain⟨c',hc'⟩:=gy I T x .free q1 rfl;rw[hc']at q2;rw[hc'];exact congrArg some q2
 have Li:∀ b o,s.heap.get? b=some o->b<s.heap.objs.size:=fun b o e=>Heap.lt_size e
 have hcl:∀ x c,X.env.cells.lookup x=some c->c<s.heap.objs.size:=fun x c e=>by
  obtain⟨v,q⟩:=I.cell x c e;exact q.lt
 have RA:∀ b∈frs X.stack,b<s.heap.objs.size:=fun b hb=>by
  obtain⟨_,o,ho,_⟩:=I.stack.mem hb;exact Heap.lt_size ho
 have RB:H D=none:=I.hok.fresh hD;have IQ:H C=none:=I.hok.fresh hC;refine⟨⟨I.ok.mod,T.kind,I.ok.glob,I.ok.blt,hC,fun x y c a b=>I.ok.inj x y c (cells x c a) (cells y c b),fun x hx=>?_,fun x c z _=>(nomatch z),I.ok.hd,I.ok.frames,.inl rfl,fun b hb=>⟨?_,fun x c e z=>?_⟩,
  fun b o e=>I.bs b o e,Nat.le_trans I.ok.FN I.sz,fun b o e hb=>?_,fun b hb z=>?_,I.stack,I.qy⟩,
  rfl,I.bare,Un.laid old hD RB,⟨m,hn,fun i x v e1 e2 e3=>?_⟩,fun x c e=>?_,?_,fun x c e=>?_,fun p hp=>absurd (show p∈([]:aW) from hp) (by simp),?_,?_⟩
 ·
  have hx:(relabel scope X.env).names.lookup x=some .cell\/(relabel scope X.env).names.lookup x=some .free:=hx;have RC:(x,NameKind.free)∈scope.names:=by
   rcases hx with hx|hx
   ·obtain⟨k0,q,r⟩:=j7 hx;have hm:=PySem.mem_of_lookup q;rcases r with r|⟨r,_⟩
    ·exact absurd r.symm (T.uZ _ hm)
    ·rw[r]at hm;exact hm
   ·obtain⟨k0,q,r⟩:=j7 hx;have hm:=PySem.mem_of_lookup q;rcases r with r|⟨_,r⟩
    ·rw[<-r]at hm;exact hm
    ·cases r
  exact iR (.inl RC)
 ·
  obtain⟨o,ho⟩:=hfo b hb;exact Nat.ne_of_lt (Nat.lt_of_lt_of_le (Li b o ho) hC)
 ·exact(hf b hb).2.2.2.2.1 x c (cells x c e) z
 ·
  obtain⟨_,_,_,f3,_,_⟩:=hf b hb;rcases f3 with z|z
  ·exact I.ok.Bd b o e z
  ·exact absurd (Nat.lt_of_lt_of_le (Heap.lt_size (I.ok.bs b o e).1) z) (Nat.lt_irrefl _)
 ·
  obtain⟨_,f1,f2,_⟩:=hf b hb;rcases List.mem_cons.mp (I.qP b z) with q|q
  ·exact f1 q
  ·exact f2 q
 ·
  by_cases hi:i<own.length
  ·rw[List.getElem?_append_left (by simpa using hi),List.getElem?_replicate,if_pos hi]at e2
   cases e2
  ·rw[List.getElem?_append_right (by simpa using hi),List.length_replicate]at e2
   replace e1:(own++fq)[i]?=some x:=e1
   rw[List.getElem?_append_right (by lia)]at e1
   obtain⟨j,hj,hσ⟩:=qZ e2;have hN:X.N[j]?=some x:=by
    have q:=congrArg (fun l=>l[i-own.length]?) T.at_
    simp only[List.getElem?_map,hj,e1,Option.map_some]at q;exact Option.some.inj q
   have hfx:=T.fr x (nv e1);have hm:=PySem.mem_of_lookup hfx;have hk:=T.free (x,.free) hm rfl;obtain⟨m0,hn0,IS⟩:=I.loc;obtain⟨u,r,l⟩:=IS j x v hN hσ (by rcases hk with k|k;exact .inr (.inl k);exact .inr (.inr k))
   refine⟨u,r,.inr ⟨nO hfx,?_⟩⟩;rcases l with⟨oV,_⟩|⟨_,c,hc,hcell⟩
   ·have oV:X.env.scope.names.lookup x=some .local:=oV;rcases hk with k|k<;>(rw[oV]at k;cases k)
   ·obtain⟨c',hc'⟩:=iR (cells:=X.env.cells) (names:=scope.names) (cs:=[]) (x:=x) (.inl hm);have q:=cells x c' hc';rw[hc]at q;cases q;exact⟨c,hc',hcell.keeps old⟩
 ·
  obtain⟨v,q⟩:=I.cell x c (cells x c e);exact⟨v,q.keeps old⟩
 ·
  show upd H D (.lst []) C=none;rw[av (Ne.symm hDC)];exact IQ
 ·show upd H D (.lst []) c=none;have e:=cells x c e;rw[av (Nat.ne_of_lt (Nat.lt_of_lt_of_le (hcl x c e) hD))];exact I.fD x c e
 ·exact I.hok.laid old hD ⟨Nat.zero_le _,[],0,.nil,hl⟩
 ·show _=(own++fq).length;have q:=congrArg List.length T.at_;rw[List.length_map,List.length_map]at q;rw[List.length_append,List.length_append,List.length_replicate];unfold fP;rw[List.length_map,q]
theorem mJ{pq:aW}{σ σ' : St}{H H' : Hp}{s s' : Shared}{scope:Scope}{N:List Str}{fp:List Addr}{C:Addr}{h' : Heap}{xe:ig}
 (I:Inv X pq σ H s) (hf:∀ b∈fp,mT X pq H b) (hC:s.heap.objs.size<=C) (J:Inv (cZ X N scope xe C s H fp) [] σ' H' s') (sb:Heap.SameBut C s'.heap h'):Inv X pq σ H' { s' with heap:=h'}:=by
 have IQ:H' C=none:=J.free;refine I.Di (ch:=fp) J.os ?_ ?_ J.bare (fun b hb=>?_)
 ·have u:Un (frs X.stack) fp H H' s.heap s'.heap:=J.base;have ne:∀ b o,s.heap.get? b=some o->b≠C:=fun b o e=>Nat.ne_of_lt (Nat.lt_of_lt_of_le (Heap.lt_size e) hC)
  refine⟨fun b o e n hb hx=>(sb.2 b (ne b o e)).trans (u.keep b o e n hb hx),fun b o e n hb hx=>?_,u.free,fun b o e hx=>?_,u.tups,u.kT,u.kY⟩
  ·obtain⟨sl,q⟩:=u.slot b o e n hb hx;exact⟨sl,(sb.2 b (ne b o e)).trans q⟩
  ·obtain⟨o',q⟩:=u.there b o e hx;exact⟨o',(sb.2 b (ne b o e)).trans q⟩
 ·intro b ob e;refine(J.hok b ob e).stay (fun c w' hc q=>(sb.2 c ?_).trans q) (fun _ q=>q) fun _ _ q=>q
  rintro rfl;rcases hc with rfl|hc
  ·rw[IQ]at e;cases e
  ·rw[IQ]at hc;cases hc
 ·obtain⟨_,f1,_,f3,f4,f5⟩:=hf b hb;exact⟨f3,f1,f4,f5⟩
end
section
variable {prog:Program}{w:World}{A:Around}{R:Result->Shared->Prop}{s:Shared}
abbrev As(ifs:List Expr)(env:Env):Sem Bool:=forIn ifs true fun c r=>if r=true then do let ok←isTrue c env (eval c env);pure (ForInStep.yield ok) else pure (ForInStep.yield r)
theorem u0{elt target iter:Expr}{ifs:List Expr}{scope:Scope}{pos:Pos}{it acc:Value}{env:Env}(I:Nat->Shared->Prop)
 (turn:∀ n s,I n s->wpAny (model prog w) A (pyNext it) (fun r s₁=>match r with
  | none=>R (.ok .next) s₁
  | some v=>wpAny (model prog w) A (letOwnedTupleGo target it v) (fun _ s₀=>wpAny (model prog w) A (assign target env v) (fun _ s₂ =>
   wpAny (model prog w) A (As ifs env) (fun ok s₃ =>
    if ok=true then wpAny (model prog w) A (eval elt env) (fun x s₄ =>
     wpAny (model prog w) A (call (.builtin "list.append") [acc,x]) (fun _ s₅=>∃ m,m<n/\I m s₅) (notedBy (model prog w) A env fun e s'=>R (.error e) s') s₄) (notedBy (model prog w) A env fun e s'=>R (.error e) s') s₃
    else ∃ m,m<n/\I m s₃) (notedBy (model prog w) A env fun e s'=>R (.error e) s') s₂) (notedBy (model prog w) A env fun e s'=>R (.error e) s') s₀) (notedBy (model prog w) A env fun e s'=>R (.error e) s') s₁) (notedBy (model prog w) A env fun e s'=>R (.error e) s') s)
 (n:Nat) (h:I n s) :
 codeAny (model prog w) A (.compLoop (.ListComp elt [⟨target,iter,ifs,0⟩] scope pos) 0 it acc env) R s:=by
 refine codeAny_loop rfl I (fun n s hI=>?_) n h
 show wpAny _ A ((compTurn (.ListComp elt [⟨target,iter,ifs,0⟩] scope pos) 0 it acc env).onRaise (fun x=>do noteFrame x env;theTreesLotGoes x)) _ _ s
 refine wpAny_noted ?_;rw[compTurn_list];refine dB (wpAny_standAt (dB (wpAny_mono (turn n s hI) (fun r s₁ h₁=>?_) fun _ _ h'=>h')))
 cases r with
 | none=>exact wpAny_pure h₁
 | some v =>
   refine dB (wpAny_mono h₁ (fun _ s₀ h₀=>?_) fun _ _ h'=>h')
   refine dB (wpAny_mono h₀ (fun _ s₂ h₂=>dB (wpAny_mono h₂ (fun ok s₃ h₃=>?_) fun _ _ h'=>h')) fun _ _ h'=>h')
   cases ok with
   | false=>exact wpAny_pure ⟨rfl,h₃⟩
   | true =>
     exact dB (dB (wpAny_mono h₃ (fun x s₄ h₄=>dB (wpAny_mono h₄ (fun _ s₅ h₅=>wpAny_pure (wpAny_pure ⟨rfl,h₅⟩)) fun _ _ h'=>h')) fun _ _ h'=>h'))
end
def Lj(X:Cx)(ifs:List Expr)(t:TT):Prop :=
 ∀(pq:aW) (s:Shared) (σ:St) (H:Hp) (Q:Bool->Hp->Prop),Inv X pq σ H s->t σ H Q->wpAny (model X.prog X.w) X.A (As ifs X.env) (TP X pq σ Q) X.xe s
def Lk:TT:=fun _ H Q=>Q true H
theorem cH{X:Cx}:Lj X [] Lk:=fun _ _ _ H _ I h=>wpAny_tests_nil ⟨H,I,h⟩
theorem dO{X:Cx}{c:Expr}{t:TT}(h:PT X c t):Lj X [c] t:=fun pq s σ H Q I q=>wpAny_tests_one (h pq s σ H Q I q)
def jI(J:It)(g:TG)(tt:TT)(te:TE)(n:Nat)(fr:St)(D:Addr)(Q:Hp->Prop)(H1:Hp):Prop :=
 ∃ W:Nat->Nat->List V->Hp->Prop,(∃ m,W 0 m [] H1)/\∀ i m acc H,W i m acc H->H D=some (.lst acc)/\
   ((J.stop i H/\Q H)\/(J.go i H/\acc.length<sizeLine/\∃ N:List V->Hp->Prop,(∀ acc' H',N acc' H'->∃ m',m'<m/\W (i+1) m' acc' H')/\
     ∀ x H',J.F9 i H x H'->g x (List.replicate n none++fr) H' fun σ2 H2=>σ2.drop n=fr/\tt σ2 H2 fun b H3 =>
     if b=true then te σ2 H3 fun v H4=>H4 D=some (.lst acc)/\N (acc++[v]) (upd H4 D (.lst (acc++[v])))
     else N acc H3))
def HG(wi:TI)(g:TG)(tt:TT)(te:TE)(n:Nat)(js:List Nat):TE:=fun σ H Q=>wi σ H fun J H1=>∀ D,H1 D=none->jI J g tt te n (fP σ js) D (fun H2=>Q (.ref D) H2) (upd H1 D (.lst []))
structure HH(A:Around)(cm:Bool)(P:Program)(w:World)(K:bO)(tg:Expr)(J:It)(fp:List Addr)(it:Addr)(tn:Nat->Heap->Prop):Prop where
 mem:it∈fp
 obj:∀ i h,tn i h->∀ b∈fp,∃ o,h.get? b=some o/\∀ v,o.data≠.cell v
 keep:∀ i h h',tn i h->(∀ b∈fp,∀ o,h.get? b=some o->h'.get? b=some o)->tn i h'
 item:∀(X:Cx),X.prog=P->X.w=w->X.K=K->X.A=A->X.calm=cm->∀(i:Nat) (pq:aW) (s:Shared) (σ:St) (H:Hp) (E:ig),Inv X pq σ H s->(∀ b∈fp,mT X pq H b)->tn i s.heap->J.go i H->
  wpAny (model P w) X.A (pyNext (.ref it)) (fun r s1=>∃ u,r=some u/\
   wpAny (model P w) X.A (letOwnedTupleGo tg (.ref it) u) (fun _ s2=>∃ x H',Inv X pq σ H' s2/\RelV x u/\J.F9 i H x H'/\tn (i+1) s2.heap/\∀ b∈fp,H' b=none) E s1) E s
 done:∀(X:Cx),X.prog=P->X.w=w->X.K=K->X.A=A->X.calm=cm->∀(i:Nat) (pq:aW) (s:Shared) (σ:St) (H:Hp) (E:ig),Inv X pq σ H s->(∀ b∈fp,mT X pq H b)->tn i s.heap->J.stop i H->
  wpAny (model P w) X.A (pyNext (.ref it)) (fun r s1=>r=none/\Inv X pq σ H s1) E s
 self:∀(A:Around) (i:Nat) (s:Shared) (Q:ig) (E:ig),tn i s.heap->Q (.ref it) s->wpAny (model P w) A (pyIter (.ref it)) Q E s
theorem Turn.x{A:Around}{cm:Bool}{P:Program}{w:World}{K:bO}{tg:Expr}{J:It}{fp:List Addr}{it:Addr}{tn:Nat->Heap->Prop}(T:Turn P w K tg J fp it tn)(hc:cm=true):HH A cm P w K tg J fp it tn :=
 ⟨T.mem,T.obj,T.keep,fun X a b c _ d=>T.item X a b c (d.trans hc),fun X a b c _ d=>T.done X a b c (d.trans hc),T.self⟩
section
variable {X:Cx}{elt iter tg:Expr}{ifs:List Expr}{scope:Scope}{pos:Pos}{own fq:List Str}{js:List Nat}{wi:TI}{g:TG}{tt:TT}{te:TE}
theorem q9{pq:aW}{σ:St}{H2:Hp}{s2:Shared}{it:Addr}{fp:List Addr}{tn:Nat->Heap->Prop}{J:It}{E:ig}{RR:Value->Addr->Result->Shared->Prop}{QQ:Addr->Hp->Prop}
 (T:e7 X scope own fq js)
 (hg:∀ C s H fp,PG (cZ X (own++fq) scope (fun _ _=>False) C s H fp) tg g)
 (ht:∀ C s H fp,Lj (cZ X (own++fq) scope (fun _ _=>False) C s H fp) ifs tt)
 (he:∀ C s H fp,PE (cZ X (own++fq) scope (fun _ _=>False) C s H fp) elt te)
 (I2:Inv X pq σ H2 s2) (C4:HH X.A X.calm X.prog X.w X.K tg J fp it tn) (st2:tn 0 s2.heap) (f2:∀ b∈fp,mT X pq H2 b)
 (hl:∀ D,H2 D=none->jI J g tt te own.length (fP σ js) D (QQ D) (upd H2 D (.lst [])))
 (hRR:∀ D C σ' H' s',s2.heap.objs.size<=C->Inv (cZ X (own++fq) scope (fun _ _=>False) C s2 H2 fp) [] σ' H' s'->QQ D H'->RR (.ref D) C (.ok .next) s') :
 wpAny (model X.prog X.w) X.A (newList []) (fun acc s₃=>wpAny (model X.prog X.w) X.A (newFunctionEnv scope X.env.globals (cY X.env.cells scope.names []) [] X.env.qual none .none (some X.env)) (fun cenv s₄ =>
  codeAny (model X.prog X.w) X.A (.compStart (.ListComp elt [⟨tg,iter,ifs,0⟩] scope pos) 0 (.ref it) acc { cenv with scope:=relabel scope X.env}) (RR acc cenv.locals) s₄) E s₃) E s2:=by
 refine wpAny_newObj_type (wpAny_newFunctionEnv T.uZ (by intro y hy;simp at hy) (fun h₁ IT Gr=>?_) T.kind)
 dsimp only at IT Gr ⊢;generalize Kp:s2.heap.push { cls:=.type "list",dict:=none,data:=.seq ([]:List Value).toArray}=G2 at IT Gr ⊢;have hC:G2.objs.size=s2.heap.objs.size+1:=by rw[<-Kp,Heap.size_push]
 have hDC:s2.heap.objs.size≠G2.objs.size:=by rw[hC];exact Nat.ne_of_lt (Nat.lt_succ_self _)
 have Ll:s2.heap.objs.size<=G2.objs.size:=by rw[hC];exact Nat.le_succ _
 have below:∀ b,b<s2.heap.objs.size->b≠G2.objs.size:=fun b hb=>by rw[hC];exact Nat.ne_of_lt (Nat.lt_succ_of_lt hb)
 have old:∀ b o,s2.heap.get? b=some o->h₁.get? b=some o:=fun b o e=>Gr.extBut b o (below b (Heap.lt_size e)) (Heap.get?_push_of_some _ (Kp▸Heap.get?_push_of_some _ e))
 have hacc:h₁.get? s2.heap.objs.size=some { cls:=.type "list",data:=.seq ([]:List Value).toArray 0}:=Gr.extBut _ _ hDC (Heap.get?_push_of_some _ (Kp▸Heap.get?_push_size _ rfl));have N3:∀ b∈fp,∃ o,s2.heap.get? b=some o:=fun b hb=>let⟨o,e,_⟩:=C4.obj _ _ st2 b hb;⟨o,e⟩
 have st1:tn 0 h₁:=C4.keep _ _ _ st2 fun b _ o e=>old b o e
 obtain⟨W,⟨m0,w0⟩,turn⟩:=hl s2.heap.objs.size (I2.hok.fresh (Nat.le_refl _));have hfx:∀{H' : Hp},(∀ b∈fp,H' b=none)->∀ b∈fp,mT (cZ X (own++fq) scope (fun _ _=>False) G2.objs.size s2 H2 fp) [] H' b:=fun {H'} hn b hb=>by
  obtain⟨_,f1,RD,_,f4,_⟩:=f2 b hb;obtain⟨o,ho⟩:=N3 b hb;refine⟨hn b hb,below b (Heap.lt_size ho),fun z=>?_,.inl hb,fun x c e=>?_,fun p hp=>absurd (show p∈([]:aW) from hp) (by simp)⟩
  ·rcases List.mem_cons.mp (I2.qP b z) with q|q
   ·exact f1 q
   ·exact RD q
  ·rcases i9 (show(cY X.env.cells scope.names []).lookup x=some c from e) with q|⟨q1,q2⟩
   ·cases q
   ·obtain⟨c',hc'⟩:=gy I2 T x .free q1 rfl;rw[hc']at q2;have q2:c' = c:=q2;rw[<-q2];exact f4 x c' hc'
 have RE:∀ b∈fp,upd H2 s2.heap.objs.size (.lst []) b=none:=fun b hb=>by
  obtain⟨o,ho⟩:=N3 b hb;rw[av (Nat.ne_of_lt (Heap.lt_size ho))];exact(f2 b hb).1
 have back:∀{σ6:St} {p6:aW} {H6:Hp} {s6:Shared},Inv (cZ X (own++fq) scope (fun _ _=>False) G2.objs.size s2 H2 fp) p6 σ6 H6 s6->σ6.drop own.length=fP σ js->
  Inv (cZ X (own++fq) scope (fun _ _=>False) G2.objs.size s2 H2 fp) [] (List.replicate own.length none++fP σ js) H6 s6:=fun {σ6 p6 H6 s6} I6 hd=>by
  have RG:σ6.length=(own++fq).length:=I6.len;have J6:=I6.iq (qz:=[]) fun p hp=>absurd hp (by simp)
  refine J6.weak ?_ fun i v e=>?_
  ·have q:=congrArg List.length hd;rw[List.length_drop]at q;rw[List.length_append]at RG;rw[List.length_append,List.length_replicate]
   lia
  ·by_cases hi:i<own.length
   ·rw[List.getElem?_append_left (by simpa using hi),List.getElem?_replicate,if_pos hi]at e
    cases e
   ·rw[List.getElem?_append_right (by simpa using hi),List.length_replicate,<-hd,List.getElem?_drop]at e
    rw[show own.length+(i-own.length)=i by lia]at e
    exact e
 have loop:∀ s₃:Shared,s₃={ s2 with heap:=h₁,toks:=s2.toks+([]:List (Str×Value)).length}->
  codeAny (model X.prog X.w) X.A (.compLoop (.ListComp elt [⟨tg,iter,ifs,0⟩] scope pos) 0 (.ref it) (.ref s2.heap.objs.size) (compEnvC scope (cY X.env.cells scope.names []) G2.objs.size X.env))
   (RR (.ref s2.heap.objs.size) G2.objs.size) s₃:=by
  rintro s₃ rfl;refine u0 (fun n s'=>∃ i acc H',Inv (cZ X (own++fq) scope (fun _ _=>False) G2.objs.size s2 H2 fp) [] (List.replicate own.length none++fP σ js) H' s'/\tn i s'.heap/\(∀ b∈fp,H' b=none)/\W i n acc H') ?_ m0
   ⟨0,[],upd H2 s2.heap.objs.size (.lst []),DF I2 T f2 N3 (Nat.le_refl _) Ll hDC old hacc IT,st1,RE,w0⟩
  rintro n s3 ⟨i,acc,H3,I3,st3,HD,w3⟩;obtain⟨uh,Lm⟩:=turn i n acc H3 w3;rcases Lm with⟨stop,qn⟩|⟨go,hz,NN,Pj,step⟩
  ·refine wpAny_mono (C4.done (cZ X (own++fq) scope (fun _ _=>False) G2.objs.size s2 H2 fp) rfl rfl rfl rfl rfl i [] s3 _ H3 (fun _ _=>False) I3 (hfx HD) st3 stop) (fun r s4 ⟨hr,I4⟩=>?_) fun _ _ z=>z.elim
   subst hr;exact hRR _ _ _ H3 s4 Ll I4 qn
  ·refine wpAny_mono (C4.item (cZ X (own++fq) scope (fun _ _=>False) G2.objs.size s2 H2 fp) rfl rfl rfl rfl rfl i [] s3 _ H3 (fun _ _=>False) I3 (hfx HD) st3 go) (fun r s4 ⟨u,hr,h4⟩=>?_) fun _ _ z=>z.elim
   subst hr;refine wpAny_mono h4 (fun _ s5 ⟨x,H5,I5,r5,y5,Dt,K2⟩=>?_) fun _ _ z=>z.elim
   have K3:=I5.pinned (hfx K2) (C4.obj _ _ Dt);refine wpAny_mono (hg _ _ _ _ _ s5 _ H5 x u _ K3 r5 (step x H5 y5)) (fun _ s6 ⟨σ6,H6,I6,Pk,q6⟩=>?_) fun _ _ z=>z.elim
   refine wpAny_mono (ht _ _ _ _ _ s6 σ6 H6 _ I6 q6) (fun ok s7 ⟨H7,I7,q7⟩=>?_) fun _ _ z=>z.elim
   have again:∀{H8:Hp} {s8:Shared},Inv (cZ X (own++fq) scope (fun _ _=>False) G2.objs.size s2 H2 fp) ([]++oW fp s5.heap) σ6 H8 s8->tn (i+1) s8.heap/\∀ b∈fp,H8 b=none:=fun {H8 s8} I8=>by
    refine⟨C4.keep _ _ _ Dt fun b hb o e=>(I8.pin (b,o) (oU _ (oU _ (gw hb e)))).1,fun b hb=>?_⟩
    obtain⟨o,e,d⟩:=C4.obj _ _ Dt b hb;exact(I8.pin (b,o) (oU _ (oU _ (gw hb e)))).2.1
   cases ok with
   | false =>
     rw[if_neg Bool.false_ne_true];obtain⟨m',hm,w7⟩:=Pj _ _ q7;obtain⟨t7,n7⟩:=again I7;exact⟨m',hm,i+1,acc,H7,back I7 Pk,t7,n7,w7⟩
   | true =>
     rw[if_pos rfl];refine wpAny_mono (he _ _ _ _ _ s7 σ6 H7 _ I7 q7) (fun xv s8 ⟨v,H8,I8,r8,RH,q8⟩=>?_) fun _ _ z=>z.elim
     obtain⟨m',hm,w8⟩:=Pj _ _ q8;refine wpAny_mono (gx (X:=cZ X (own++fq) scope (fun _ _=>False) G2.objs.size s2 H2 fp) _ s8 σ6 H8 (.ref s2.heap.objs.size) [v] (.ref s2.heap.objs.size) [xv] (fun y H9=>y = .fL/\H9=upd H8 s2.heap.objs.size (.lst (acc++[v]))) I8 rfl (.cons r8 .nil) ⟨_,acc,v,rfl,rfl,RH,hz,rfl,rfl⟩)
      (fun _ s9 ⟨y,H9,I9,_,_,e9⟩=>?_) fun _ _ z=>z.elim
     subst e9;obtain⟨t9,n9⟩:=again I9;exact⟨m',hm,i+1,acc++[v],_,back I9 Pk,t9,n9,w8⟩
 exact codeAny_compStart_list (loop _ rfl) (C4.self _ 0 _ _ _ st1 (loop _ rfl))
theorem bw(T:e7 X scope own fq js)(hc:X.calm=true)(hi:PI X tg iter wi)
 (hg:∀ C s H fp,PG (cZ X (own++fq) scope (fun _ _=>False) C s H fp) tg g)
 (ht:∀ C s H fp,Lj (cZ X (own++fq) scope (fun _ _=>False) C s H fp) ifs tt)
 (he:∀ C s H fp,PE (cZ X (own++fq) scope (fun _ _=>False) C s H fp) elt te)
 (hs:∀ x,foldedSetIterable iter X.env x=pure x:=by intro _;rfl) :
 PE X (.ListComp elt [⟨tg,iter,ifs,0⟩] scope pos) (HG wi g tt te own.length js):=by
 intro pq s σ H Q I h;rw[eval_ListComp];refine wpAny_comprehension_free (use:=none) rfl hs (mU (gy I T)) T.kind T.names ?_;refine wpAny_mono (hi pq s σ H _ I h) (fun v s1 h1=>wpAny_mono h1 (fun itv s2 h2=>?_) fun _ _ z=>z) fun _ _ z=>z
 obtain⟨it,fp,tn,J,H2,e,I2,C4,st2,f2,hl⟩:=h2;subst e;refine q9 (QQ:=fun D H'=>Q (.ref D) H') T hg ht he I2 (C4.x hc) st2 f2 hl fun D C σ' H' s' hC J' q=>?_
 obtain⟨m,hn,_⟩:=J'.loc;exact⟨m,hn,fun h' sb=>⟨.ref D,H',mJ I2 f2 hC J' sb,rfl,q⟩⟩
def DG(i:Nat)(wi:TI)(g:TG)(tt:TT)(te:TE)(n:Nat)(js:List Nat):TS:=fun D σ H=>HG wi g tt te n js σ H fun v H1=>D.nx (σ.set i (some v)) H1
theorem lW{i:Nat}{x:Str}{pos' spos:Pos}(hN:X.N.Nodup)(hix:X.N[i]?=some x)(hx:X.env.scope.names.lookup x=some .local)(T:e7 X scope own fq js)(hc:X.calm=true)(hi:PI X tg iter wi)
 (hg:∀ C s H fp,PG (cZ X (own++fq) scope (fun _ _=>False) C s H fp) tg g)
 (ht:∀ C s H fp,Lj (cZ X (own++fq) scope (fun _ _=>False) C s H fp) ifs tt)
 (he:∀ C s H fp,PE (cZ X (own++fq) scope (fun _ _=>False) C s H fp) elt te)
 (hsw:swapsWith (.ListComp elt [⟨tg,iter,ifs,0⟩] scope pos) (some (.Name x pos')) spos.line X.env=pure true:=by rfl)
 (hs:∀ x,foldedSetIterable iter X.env x=pure x:=by intro _;rfl) :
 PS X (.Assign [.Name x pos'] (.ListComp elt [⟨tg,iter,ifs,0⟩] scope pos) spos) (DG i wi g tt te own.length js):=by
 intro pq s σ H D I h;rw[exec_Assign_Name_used _ _ _ _ hsw];refine dB (wpAny_standAt (dB ?_));show wpAny _ X.A (do let _←comprehension (.ListComp elt [⟨tg,iter,ifs,0⟩] scope pos) scope X.env _ (newList []) false (eval iter X.env) (some (assign (.Name x pos') X.env))) _ _ s
 refine dB (wpAny_mono (wpAny_comprehension_free (use:=some (assign (.Name x pos') X.env)) (Q:=fun _ s'=>SP X pq D .next s') rfl hs (mU (gy I T)) T.kind T.names ?_) (fun _ s' hq=>wpAny_pure (wpAny_pure hq)) fun _ _ e=>e)
 refine wpAny_mono (hi pq s σ H _ I h) (fun v s1 h1=>wpAny_mono h1 (fun itv s2 h2=>?_) fun _ _ z=>z) fun _ _ z=>z
 obtain⟨it,fp,tn,J,H2,e,I2,C4,st2,f2,hl⟩:=h2;subst e;refine q9 (QQ:=fun D' H'=>D.nx (σ.set i (some (.ref D'))) H') T hg ht he I2 (C4.x hc) st2 f2 hl fun D' C σ' H' s' hC J' q=>?_
 have I3:Inv X pq σ H' s':=by
  obtain⟨hh,gg,dd,Vz,oo⟩:=s';exact mJ I2 f2 hC J' (Heap.SameBut.refl ..)
 obtain⟨m,hn,_⟩:=J'.loc;obtain⟨oC,es,ep,RI,Pn,rest⟩:=id hn;have IQ:H' C=none:=J'.free;have Po:C≠X.env.locals:=Nat.ne_of_gt (Nat.lt_of_lt_of_le I2.lt hC);have RJ:C∉X.fs:=fun z=>by
  obtain⟨_,o,ho,_⟩:=I2.funs.mem z;exact absurd (Nat.lt_of_lt_of_le (Heap.lt_size ho) hC) (Nat.lt_irrefl _)
 have I4:Inv X (pq++[(C,oC)]) σ H' s':=I3.iq fun p hp=>(List.mem_append.mp hp).elim (fun z=>I3.pin p (oU _ z)) fun z=>by
  have e:p=(C,oC):=by simpa using z
  subst e;exact⟨RI,IQ,Po,RJ,fun v z=>by have z' : oC.data = .cell v:=z;rw[Pn]at z';cases z'⟩
 show wpAny _ X.A (assign (.Name x pos') X.env (.ref D')) _ _ _;refine wpAny_assign_Name (kZ (v:=.ref D') I4 hN hix (.inl hx) rfl (fun s5 I5=>?_) (.inr hx))
 have e5:s5.heap.get? C=some oC:=(I5.pin (C,oC) (oU _ (oU _ (by simp)))).1
 refine⟨m,⟨oC,es,ep,e5,Pn,rest⟩,fun h' sb=>⟨_,H',?_,q⟩⟩
 have I6:Inv X pq (σ.set i (some (.ref D'))) H' s5:=I5.iN;refine I6.turned (t':=s5.toks) (fun b o hb e=>(sb.2 b hb).trans e) IQ Po (.inr (Nat.le_trans I2.sz hC)) (fun y c e=>?_) (fun p hp z=>?_)
 ·obtain⟨v,qc⟩:=I2.cell y c e;exact Nat.ne_of_lt (Nat.lt_of_lt_of_le qc.lt hC)
 ·have Pp:=(I2.pin p hp).1;exact absurd (Nat.lt_of_lt_of_le (Heap.lt_size Pp) (by rw[z];exact hC)) (Nat.lt_irrefl _)
end
section
variable {K:bO}{a:Addr}{xs:List V}{g:TG}{tt:TT}{te:TE}{n:Nat}{fr:St}{D:Addr}{Q:Hp->Prop}{H1:Hp}
theorem aU(Pv:Nat->List V->Hp->Prop)(h0:Pv 0 [] H1)(hl:∀ i acc H,i<=xs.length->Pv i acc H->aO K H a xs/\H D=some (.lst acc)/\acc.length<=i)(hz:xs.length<=sizeLine)
 (hs:∀ i x acc H,xs[i]?=some x->Pv i acc H->g x (List.replicate n none++fr) H fun σ2 H2=>σ2.drop n=fr/\tt σ2 H2 fun b H3 =>
  if b=true then te σ2 H3 fun v H4=>H4 D=some (.lst acc)/\Pv (i+1) (acc++[v]) (upd H4 D (.lst (acc++[v]))) else Pv (i+1) acc H3)
 (hd:∀ acc H,Pv xs.length acc H->Q H):jI (Ga K a) g tt te n fr D Q H1:=by
 refine⟨fun i m acc H=>m=xs.length-i/\i<=xs.length/\Pv i acc H,⟨xs.length,by simp,Nat.zero_le _,h0⟩,?_⟩
 rintro i m acc H ⟨rfl,hi,p⟩;obtain⟨q,hD,ha⟩:=hl i acc H hi p;refine⟨hD,?_⟩
 by_cases hlt:i<xs.length
 ·refine .inr ⟨⟨xs,xs[i],q,by simp[hlt]⟩,by lia,Pv (i+1),fun acc' H' p'=>⟨xs.length-(i+1),by lia,rfl,hlt,p'⟩,fun x H' y=>?_⟩
  obtain⟨e,y⟩:=y;subst e;exact hs i x acc _ (y xs q) p
 ·have e:i=xs.length:=by lia
  subst e;exact .inl ⟨⟨xs,q,Nat.le_refl _⟩,hd acc H p⟩
theorem dh{lo:Int}{m:Nat}(Pv:Nat->List V->Hp->Prop)(h0:Pv 0 [] H1)(hl:∀ i acc H,i<=m->Pv i acc H->H D=some (.lst acc)/\acc.length<=i)(hz:m<=sizeLine)
 (hs:∀ i acc H,i<m->Pv i acc H->g (.int (lo+i)) (List.replicate n none++fr) H fun σ2 H2=>σ2.drop n=fr/\tt σ2 H2 fun b H3 =>
  if b=true then te σ2 H3 fun v H4=>H4 D=some (.lst acc)/\Pv (i+1) (acc++[v]) (upd H4 D (.lst (acc++[v]))) else Pv (i+1) acc H3)
 (hd:∀ acc H,Pv m acc H->Q H):jI (Ds lo m) g tt te n fr D Q H1:=by
 refine⟨fun i k acc H=>k=m-i/\i<=m/\Pv i acc H,⟨m,by simp,Nat.zero_le _,h0⟩,?_⟩
 rintro i k acc H ⟨rfl,hi,p⟩;obtain⟨hD,ha⟩:=hl i acc H hi p;refine⟨hD,?_⟩
 by_cases hlt:i<m
 ·refine .inr ⟨hlt,by lia,Pv (i+1),fun acc' H' p'=>⟨m-(i+1),by lia,rfl,hlt,p'⟩,fun x H' y=>?_⟩
  obtain⟨e,y⟩:=y;subst e y;exact hs i acc _ hlt p
 ·have e:i=m:=by lia
  subst e;exact .inl ⟨Nat.le_refl _,hd acc H p⟩
end
def wL(scope Ln:Scope)(N fq:List Str)(js:List Nat):Bool :=
 decide (scope.kind = .function)&&scope.names.all (fun y=>decide (y.2≠.cell))&&scope.names.all (fun y=>decide (y.2 = .local->scope.names.lookup y.1=some .local)) &&
 scope.names.all (fun y=>decide (y.2 = .free->Ln.names.lookup y.1=some .cell\/Ln.names.lookup y.1=some .free))&&decide (js.map (fun j=>N[j]?)=fq.map some)&&fq.all (fun x=>decide (scope.names.lookup x=some .free))
theorem aI{X:Cx}{scope:Scope}{own fq:List Str}{js:List Nat}(Ln:Scope)(N:List Str)(h1:X.env.scope=Ln:=by rfl)(h2:X.N=N:=by rfl)(h:wL scope Ln N fq js=true:=by decide +kernel):e7 X scope own fq js:=by
 unfold wL at h;simp only[Bool.and_eq_true,decide_eq_true_eq,List.all_eq_true]at h;obtain⟨⟨⟨⟨⟨a,b⟩,c⟩,d⟩,e⟩,f⟩:=h;exact⟨a,b,c,by rw[h1];exact d,by rw[h2];exact e,f⟩
mutual
inductive nQ(K:bO)(H:Hp):V->PyData->Prop
 | fL:nQ K H .fL .none
 | bl (b:Bool):nQ K H (.bl b) (.bool b)
 | int (i:Int):nQ K H (.int i) (.int i)
 | str (x:Str):nQ K H (.str x) (.str x)
 | lst {a:Addr} {xs:List V} {ds:List PyData} (h:aO K H a xs) (r:DatVs K H xs ds):nQ K H (.ref a) (.list ds)
 | tup {a:Addr} {xs:List V} {ds:List PyData} (h:aY K H a xs) (r:DatVs K H xs ds):nQ K H (.ref a) (.tuple ds)
inductive DatVs(K:bO)(H:Hp):List V->List PyData->Prop
 | nil:DatVs K H [] []
 | cons {x:V} {d:PyData} {xs:List V} {ds:List PyData} (h:nQ K H x d) (r:DatVs K H xs ds):DatVs K H (x::xs) (d::ds)
end
section
variable {X:Cx}{pq:aW}{σ:St}{H:Hp}{s:Shared}
mutual
theorem nQ.reads(I:Inv X pq σ H s):∀{v:V} {d:PyData} {u:Value},nQ X.K H v d->RelV v u->∃ as,Reads s.heap u d as
 | _,_,u,.fL,r=>by cases(show u=Value.none from r);exact⟨_,.none⟩
 | _,_,u,.bl b,r=>by cases(show u=Value.bool b from r);exact⟨_,.bool b⟩
 | _,_,u,.int i,r=>by obtain⟨t,rfl⟩:=(show ∃ t,u=Value.int i t from r);exact⟨_,.int i t⟩
 | _,_,u,.str x,r=>by obtain⟨t,rfl⟩:=(show ∃ t,u=Value.str x t from r);exact⟨_,.str x t⟩
 | _,_,u,.lst (a:=a) h rs,r=>by
   cases(show u=Value.ref a from r)
   obtain⟨its,rv,⟨o,n,e,c,_,d⟩,_⟩:=I.list h;obtain⟨as,q⟩:=DatVs.reads I rs rv;exact⟨_,.list e c d (by simpa using q)⟩
 | _,_,u,.tup (a:=a) h rs,r=>by
   cases(show u=Value.ref a from r)
   obtain⟨its,rv,⟨o,e,c,n,d⟩,_⟩:=I.tuple h;obtain⟨as,q⟩:=DatVs.reads I rs rv;exact⟨_,.tuple e c d (by simpa using q)⟩
theorem DatVs.reads(I:Inv X pq σ H s):∀{vs:List V} {ds:List PyData} {us:List Value},DatVs X.K H vs ds->Vals vs us->∃ as,ReadsAll s.heap us ds as
 | _,_,_,.nil,.nil=>⟨_,.nil⟩
 | _,_,_,.cons h r,.cons rv rr=>by
   obtain⟨as,q⟩:=nQ.reads I h rv;obtain⟨bs,q2⟩:=DatVs.reads I r rr;exact⟨_,.cons q q2⟩
end
end
section
variable {X:Cx}
def Lo(K:bO):R2:=fun x y H Q=>∃ d e,nQ K H x d/\nQ K H y e/\SeqAt.shaped d=true/\SeqAt.shaped e=true/\Q (.bl (PyData.eqv d e)) H
def Lp(K:bO):R2:=fun x y H Q=>∃ d e,nQ K H x d/\nQ K H y e/\SeqAt.shaped d=true/\SeqAt.shaped e=true/\Q (.bl (!PyData.eqv d e)) H
theorem IU(hu:X.A.units+64<cLine):kR X (compareOp .Eq) (Lo X.K):=by
 intro pq s σ H x y v u Q I rx ry h;obtain⟨d,e,h1,h2,s1,s2,q⟩:=h;obtain⟨as,ra⟩:=h1.reads I rx;obtain⟨bs,rb⟩:=h2.reads I ry;exact eq_dataH ra rb s1 s2 hu ⟨.bl _,H,I,rfl,q⟩
theorem IV(hu:X.A.units+64<cLine):kR X (compareOp .NotEq) (Lp X.K):=by
 intro pq s σ H x y v u Q I rx ry h;obtain⟨d,e,h1,h2,s1,s2,q⟩:=h;obtain⟨as,ra⟩:=h1.reads I rx;obtain⟨bs,rb⟩:=h2.reads I ry;exact ne_dataH ra rb s1 s2 hu ⟨.bl _,H,I,rfl,q⟩
def IW:V->Option Value
 | .ty n=>some (.type n)
 | .ref a=>some (.ref a)
 | _=>none
theorem Au{c:V}{u w:Value}(h:IW c=some u)(r:RelV c w):w=u:=by
 cases c with
 | ty n=>exact(show w=Value.type n from r).trans (Option.some.inj h)
 | ref a=>exact(show w=Value.ref a from r).trans (Option.some.inj h)
 | _=>cases h
def Lq(K:bO):List V->Hp->VK->Prop:=fun xs H Q=>∃ x c t u b,xs=[x,c]/\IW c=some u/\oZ K H x t/\PySem.W.kitOne K t u=some b/\Q (.bl b) H
theorem DH:eZ X (.builtin "isinstance") (Lq X.K):=by
 intro pq s σ H xs us Q I r h;obtain⟨x,c,t,u,b,rfl,rc,ty,e,q⟩:=h;cases r with
 | cons r1 r2 =>
   cases r2 with
   | cons r2 r3 =>
     cases r3;cases Au rc r2;exact Bp I r1 ty e fun tk=>⟨.bl b,H,I.tok tk,rfl,q⟩
theorem IX(K:bO):PySem.W.kitOne K (.type "int") (.type "int")=some true:=by with_unfolding_all rfl
theorem IY(K:bO):PySem.W.kitOne K (.type "int") (.type "bool")=some false:=by with_unfolding_all rfl
theorem yG(K:bO):PySem.W.kitOne K (.type "tuple") (.type "tuple")=some true:=by with_unfolding_all rfl
theorem DI(K:bO):PySem.W.kitOne K (.type "list") (.type "list")=some true:=by with_unfolding_all rfl
theorem Av:NV X "int.bit_length" (fun x xs H Q=>∃ i,x = .int i/\xs=[]/\Q (.int (Builtin.Int.intBits i)) H):=by
 intro pq s σ H x xs v us Q I rx rs h;obtain⟨i,rfl,rfl,q⟩:=h;obtain⟨t,rfl⟩:=rx;cases rs;exact call_int_bit_length ⟨.int _,H,I.tok _,⟨_,rfl⟩,q⟩
theorem Gs{x:Str}{v:Int}{pos:Pos}(hg:Gl X x)(h:∃ t,X.mg x=some (.int v t))(hd:(x==("__debug__":Str))=false:=by decide):PE X (.Name x pos) (tC (.int v)):=by
 obtain⟨t,e⟩:=h;exact Af hg e ⟨t,rfl⟩ hd
end
theorem dl{n:Nat}(h:Nat.ble n 1000=true):n<=sizeLine:=Nat.le_of_lt (jH (Nat.le_of_ble_eq_true h))
theorem mV{j:Int}(h:decide (0<j)=true):0<j:=i6 h
theorem au.new{H:Hp}{p:Addr}{o:HO}(h:H p=none):au H (upd H p o):=fun b u e=>by
 rw[av (bf e h)];exact e
theorem au.put{H H2:Hp}{D:Addr}{o:HO}(s:au H H2)(h:H D=none):au H (upd H2 D o):=fun b u e=>by
 rw[av (bf e h)];exact s b u e
def jJ(H H' : Hp):Prop:=∀ b xs,H b=some (.tup xs)->H' b=some (.tup xs)
theorem au.tups{H H' : Hp}(s:au H H'):jJ H H':=fun b xs e=>s b _ e
theorem jJ.trans{H H1 H2:Hp}(a:jJ H H1)(b:jJ H1 H2):jJ H H2:=fun c xs e=>b c xs (a c xs e)
theorem jJ.put{H:Hp}{D:Addr}{o:HO}{ys:List V}(h:H D=some (.lst ys)):jJ H (upd H D o):=fun b xs e=>by
 rw[av (dm e h (by intro z;cases z))]
 exact e
theorem Paired.rf{α β:Type}{F:α->β->Prop}:∀{l:List α} {r:List β} {i:Nat} {x:α},Paired F l r->l[i]?=some x->∃ y,r[i]?=some y/\F x y
 | _,_,_,_,.nil,e=>by simp at e
 | _,_,0,_,.cons h _,e=>by
   simp at e;subst e;exact⟨_,rfl,h⟩
 | _,_,i+1,x,.cons _ t,e=>by
   obtain⟨y,h1,h2⟩:=Paired.rf (i:=i) (x:=x) t (by simpa using e)
   exact⟨y,by simpa using h1,h2⟩
theorem DJ(ns:List Int)(lo hi:Option Int):wH (ns.map V.int) lo hi=((ns.drop (HT.o4 ns.length 0 lo)).take (HT.o4 ns.length ns.length hi-HT.o4 ns.length 0 lo)).map V.int:=by
 unfold wH;rw[List.length_map,<-List.map_drop,<-List.map_take]
section
variable {X:Cx}{l:Expr}{tl:TE}{tg a b o e:Expr}{ta tb to:TE}{es:List Expr}
theorem DK(K:bO)(hu:X.A.units+64<cLine)(h:X.K=K:=by rfl):kR X (compareOp .Eq) (Lo K):=by subst h;exact IU hu
theorem IZ(K:bO)(hu:X.A.units+64<cLine)(h:X.K=K:=by rfl):kR X (compareOp .NotEq) (Lp K):=by subst h;exact IV hu
theorem Bx(K:bO)(h:X.K=K:=by rfl):eZ X (.builtin "isinstance") (Lq K):=by subst h;exact DH
def Lr(K:bO):List V->Hp->VK->Prop:=fun xs H Q=>∃ p ys,xs=[.ref p]/\(aO K H p ys\/aY K H p ys)/\Q (.int ys.length) H
theorem N4(K:bO)(h:X.K=K:=by rfl):eZ X (.builtin "len") (Lr K):=by subst h;exact uY
def Ls(K:bO):List V->Hp->VK->Prop:=fun xs H Q=>∃ p ys,xs=[.ref p]/\((aO K H p ys/\∀ l,H l=none->Q (.ref l) (upd H l (.tup ys)))\/(aY K H p ys/\Q (.ref p) H))
theorem Lu(K:bO)(h:X.K=K:=by rfl):eZ X (.type "tuple") (Ls K):=by subst h;exact sU
theorem mW(K:bO)(h:X.K=K:=by rfl):Ko X (Lb K):=by subst h;exact Gk
theorem cu(K:bO)(h:X.K=K:=by rfl):Ko X (Lc K):=by subst h;exact IK
theorem Lv(K:bO)(h:X.K=K:=by rfl):NU X (Le K):=by subst h;exact Gm
theorem RK(K:bO)(h:X.K=K:=by rfl):kR X (compareOp .In) (MT K false):=by subst h;exact Bs
theorem u3(K:bO)(h:X.K=K:=by rfl):kR X (compareOp .NotIn) (MT K true):=by subst h;exact uX
theorem mE(K:bO)(hl:PE X l tl)(h:X.K=K:=by rfl):PI X tg l (HC K tl):=by subst h;exact Gb hl
theorem HJ(K:bO){k:Nat}{t:HA}{n:Nat}{pos:Pos}(hc:X.calm=true)(hp:KQ X es t)(hn:(assignEach es X.env).length=n:=by rfl)(hst:(assignEach es X.env).findIdx? (·.1)=none:=by rfl)(h:X.K=K:=by rfl):
 PG X (.Tuple es k pos) (KU K n t):=by subst h;exact IC hc hp hn hst
theorem rg{x:Str}{T:String}{pos:Pos}(hg:Gl X x)(hm:X.mg x=none)(hv:bootBuiltins x=some (.type T))(hn:x≠"__name__":=by decide)(hd:(x==("__debug__":Str))=false:=by decide):PE X (.Name x pos) (tC (.ty T)) :=
 F6 hg hm hv rfl hn hd
end
def sV(od:Option Addr)(c:Value)(e:Addr)(h:Heap):Prop:=∃ oe vs,h.get? e=some oe/\oe.data = .fields vs/\vs[2]?=some c/\oe.dict=od
theorem DL(o:Obj)(f):(o.mapFields f).dict=o.dict:=by
 obtain⟨c,d,dt,sl⟩:=o;cases dt<;>rfl
section
variable {M:Model}{A:Around}{E:ig}{s:Shared}{B:Heap}{env:Env}{outer l:List Env}{L e:Addr}{cls a0:Value}{Q:Unit->Shared->Prop}{od:Option Addr}{c:Value}
theorem u4{h:Heap}{T:Addr}{oT:Obj}{ts:Array Value}(f:Obj->Obj)(hT:h.get? T=some oT)(hd:oT.data = .fields ts):h.UpToSlots (h.update T f):=fun b o hb hn=>by
 have ne:T≠b:=fun z=>by
  rw[<-z,hT]at hb;cases hb;exact hn ts hd
 exact⟨o.slots,(Heap.get?_update_other h f ne).trans hb⟩
theorem o5{h:Heap}{T:Addr}(f:Obj->Obj)(k:B.StaysIn h)(n:B.get? T=none):B.StaysIn (h.update T f):=fun b o hb=>by
 have ne:T≠b:=fun z=>by
  rw[<-z,n]at hb;cases hb
 exact(Heap.get?_update_other h f ne).trans (k b o hb)
theorem j8{h h' : Heap}(x:h.FunFrames B l)(u:h.UpToSlots h'):h'.FunFrames B l:=x.of_keeps fun b o hb hn =>
 let⟨_,q⟩:=u b o hb hn
 ⟨_,q,rfl⟩
theorem Aw{fl:Value}(hk:B.StaysIn s.heap)(hn:B.get? e=none)(hl:s.heap.FunFrames B l)(ht:s.heap.TracedAtW B e cls a0 fl)(h2:sV od c e s.heap)
 (q:∀ h',Heap.FlyingW B l e cls a0 h'->sV od c e h'->s.heap.UpToSlots h'->Q () { s with heap:=h'}):wpAny M A (setFlight (.ref e) none) Q E s:=by
 obtain⟨oe,vs,T,oT,ts,ge,hc,de,f1,nT,Te,gT,dT,f3⟩:=ht;have z3:3<ts.size:=(Array.getElem?_eq_some_iff.mp f3).1;rw[setFlight];refine dB (wpAny_field ge de f1 ?_);rw[if_pos (by simp)]
 refine wpAny_setField gT dT z3 ?_;have up:=u4 (Obj.mapFields (·.setIfInBounds 3 ((none:Option Addr).elim Value.none fun f=>rawInt f))) gT dT
 have MV:=(Heap.get?_update_other s.heap (Obj.mapFields (·.setIfInBounds 3 ((none:Option Addr).elim Value.none fun f=>rawInt f))) Te).trans ge
 have Pq:=Obj.data_mapFields dT (·.setIfInBounds 3 ((none:Option Addr).elim Value.none fun f=>rawInt f))
 refine q _ ⟨o5 _ hk nT,hn,j8 hl up,oe,vs,T,_,_,MV,hc,de,f1,nT,Te,Heap.get?_update_self _ gT (Obj.isFreed_of_fields Pq),Pq,by simp[z3]⟩ ?_ up
 obtain⟨o2,v2,g2,d2,k2,z2⟩:=h2;rw[ge]at g2;cases g2;exact⟨oe,v2,MV,d2,k2,z2⟩
theorem DM{oe:Obj}{vs:Array Value}{head:Value}{hadNext:Bool}(hfr:A.frames=some (env::outer))(hl:s.heap.FunFrames B (env::outer))(hf:env.frame=some L)(ge:s.heap.get? e=some oe)(hk:B.StaysIn s.heap)(hn:B.get? e=none)
 (de:oe.data = .fields vs) (hz:1<vs.size) (h0:vs[0]?=some a0) (h2:vs[2]?=some c) (hz2:oe.dict=od)
 (q:∀ h',Heap.HeldW B (env::outer) e oe.cls a0 L h'->sV od c e h'->s.heap.UpToSlots h'->Q () { s with heap:=h'}) :
 wpAny M A (do let a←frameOf env;let pl←entryPlaceOf L hadNext;let b←EntryCells.newEntry head a .none (rawInt L) .none pl;setField (.ref e) 1 b) Q E s:=by
 have N5:e∉(env::outer).filterMap (·.frame):=fun z=>by
  obtain⟨_,o,ho,nf⟩:=hl.mem z;rw[ge]at ho;cases ho;exact nf vs de
 refine dB (wpAny_frameOf_fun hfr hl hf fun h1 so=>dB (wpAny_entryPlaceOf fun pl ip=>?_))
 rw[EntryCells.newEntry,newFields];refine dB (wpAny_newObj_type ?_ (ip.sizeOk5 _ _ _ _ _));generalize hnw:({ cls:=.type "traceback",dict:=none,data:=.fields ([head,.ref L,.none,rawInt L,.none]++(if pl.isEmpty then List.replicate 6 Value.none else pl)).toArray}:Obj)=nw
 have dn:nw.data = .fields ([head,.ref L,.none,rawInt L,.none]++(if pl.isEmpty then List.replicate 6 Value.none else pl)).toArray:=by rw[<-hnw]
 have ge1:h1.get? e=some oe:=(so.2.1 e N5).trans ge;have N6:=Heap.get?_push_of_some (h:=h1) nw ge1;have Te:h1.objs.size≠e:=Nat.ne_of_gt (Heap.lt_size ge1);refine wpAny_setField N6 de hz ?_;have N7:=Obj.data_mapFields de (·.setIfInBounds 1 (Value.ref h1.objs.size));have Pr:=Heap.get?_update_self (Obj.mapFields (·.setIfInBounds 1 (Value.ref h1.objs.size))) N6 (Obj.isFreed_of_fields N7);have RL:=(Heap.get?_update_other (h1.push nw) (Obj.mapFields (·.setIfInBounds 1 (Value.ref h1.objs.size))) (Ne.symm Te)).trans (Heap.get?_push_size h1 (by rw[<-hnw];rfl))
 have up:s.heap.UpToSlots ((h1.push nw).update e (Obj.mapFields (·.setIfInBounds 1 (Value.ref h1.objs.size)))):=by
  have u1:s.heap.UpToSlots h1:=fun b o hb _=>so.2.2 b o hb
  exact(u1.trans (.of_keeps fun b o hb=>Heap.get?_push_of_some nw hb)).trans (u4 _ N6 de)
 have k1:B.StaysIn h1:=fun b o hb=>(so.2.1 b fun z=>by rw[(hl.mem z).1]at hb;cases hb).trans (hk b o hb)
 have k2:B.StaysIn (h1.push nw):=fun b o hb=>Heap.get?_push_of_some nw (k1 b o hb)
 refine q _ ⟨o5 _ k2 hn,hn,j8 hl up,_,_,h1.objs.size,nw,_,Pr,⟨Obj.cls_mapFields _ _,by rw[Array.getElem?_setIfInBounds_ne (by decide)];exact h0⟩,N7,by simp[hz],k1.fresh,Te,RL,dn,?_⟩ ?_ up
 ·first | (simp;done) | (rcases ip with rfl | ⟨_,_,_,_,_,_,_,rfl⟩<;>simp)
 ·exact⟨_,_,Pr,N7,by rw[Array.getElem?_setIfInBounds_ne (by decide)];exact h2,(DL _ _).trans hz2⟩
theorem HK(hfr:A.frames=some (env::outer))(hf:env.frame=some L)(fl:Heap.FlyingW B (env::outer) e cls a0 s.heap)(h2:sV od c e s.heap)
 (q:∀ h',Heap.HeldW B (env::outer) e cls a0 L h'->sV od c e h'->s.heap.UpToSlots h'->Q () { s with heap:=h'}):wpAny M A (noteFrame (.ref e) env) Q E s:=by
 obtain⟨hk,hn,hl,oe,vs,T,oT,ts,ge,⟨hc,h0⟩,de,f1,nT,Te,gT,dT,f3⟩:=fl;obtain⟨o2,v2,g2,d2,k2,z2⟩:=h2;rw[ge]at g2;cases g2;rw[de]at d2;cases d2;cases hc;rw[noteFrame];simp only[hf];refine dB (wpAny_field ge de f1 ?_);rw[if_pos (by simp)]
 refine dB (wpAny_field gT dT f3 ?_);rw[if_neg (by simp[rawInt])]
 refine dB (wpAny_setField gT dT (Array.getElem?_eq_some_iff.mp f3).1 ?_);have up:=u4 (Obj.mapFields (·.setIfInBounds 3 Value.none)) gT dT;have MV:=(Heap.get?_update_other s.heap (Obj.mapFields (·.setIfInBounds 3 Value.none)) Te).trans ge;exact DM (s:={ s with heap:=s.heap.update T (Obj.mapFields (·.setIfInBounds 3 Value.none))}) hfr (j8 hl up) hf MV (o5 _ hk nT) hn de (Array.getElem?_eq_some_iff.mp f1).1 h0 k2 z2 fun h' x1 x2 x3=>q h' x1 x2 (up.trans x3)
theorem Lw(x:Heap.FlyingW B (env::outer) e cls a0 s.heap):Heap.FlyingW B outer e cls a0 s.heap :=
 let⟨k1,k2,⟨_,_,k3⟩,k4⟩:=x
 ⟨k1,k2,k3,k4⟩
theorem leave_on2(hfr:A.frames=some (env::outer))(hf:env.frame=some L)(fl:Heap.FlyingW B (env::outer) e cls a0 s.heap)(h2:sV od c e s.heap)
 (q:∀ h',Heap.FlyingW B outer e cls a0 h'->sV od c e h'->s.heap.UpToSlots h'->Q () { s with heap:=h'}):wpAny M A (leaving env (.ref e)) Q E s:=by
 rw[leaving];refine dB (HK hfr hf fl h2 fun h' x1 x2 x3=>?_)
 obtain⟨y1,y2,y3,y4⟩:=x1;exact Aw (s:={ s with heap:=h'}) y1 y2 y3 y4 x2 fun h'' z1 z2 z3=>q h'' (Lw (s:={ s with heap:=h''}) z1) z2 (x3.trans z3)
theorem leave_new{oe:Obj}{vs:Array Value}(hfr:A.frames=some (env::outer))(hf:env.frame=some L)(hk:B.StaysIn s.heap)(hn:B.get? e=none)(hl:s.heap.FunFrames B (env::outer))(ge:s.heap.get? e=some oe)(de:oe.data = .fields vs)
 (h0:vs[0]?=some a0) (h1:vs[1]?=some .none) (h2:vs[2]?=some c) (hz2:oe.dict=od)
 (q:∀ h',Heap.FlyingW B outer e oe.cls a0 h'->sV od c e h'->s.heap.UpToSlots h'->Q () { s with heap:=h'}):wpAny M A (leaving env (.ref e)) Q E s:=by
 rw[leaving,noteFrame];simp only[hf];refine dB (dB (wpAny_field ge de h1 ?_));rw[if_neg (by decide)]
 refine DM (a0:=a0) hfr hl hf ge hk hn de (Array.getElem?_eq_some_iff.mp h1).1 h0 h2 hz2 fun h' x1 x2 x3=>?_
 obtain⟨y1,y2,y3,y4⟩:=x1;exact Aw (s:={ s with heap:=h'}) y1 y2 y3 y4 x2 fun h'' z1 z2 z3=>q h'' (Lw (s:={ s with heap:=h''}) z1) z2 (x3.trans z3)
end
section
variable {P:Program}{w:World}{H H0 H1:Hp}{h h0 h1 h2:Heap}{a:Addr}{o:HO}{fs:List Addr}{B:Heap}
theorem bN.thing(x:bN P w H h a o):∃ ob,h.get? a=some ob:=by
 cases o with
 | lst xs=>obtain⟨_,_,_,_,e⟩:=x;exact⟨_,e⟩
 | tup xs=>obtain⟨_,_,_,ob,e,_⟩:=x;exact⟨ob,e⟩
 | dK kvs=>obtain⟨_,_,_,_,ob,_,_,e,_⟩:=x;exact⟨ob,e⟩
 | dT kvs=>obtain⟨_,_,_,_,ob,_,_,e,_⟩:=x;exact⟨ob,e⟩
 | set S n=>obtain⟨ob,_,_,_,e,_⟩:=x;exact⟨ob,e⟩
 | ins C dx fs=>obtain⟨_,_,_,e,_⟩:=x;exact⟨_,e⟩
 | own y=>exact x
 | xd fs=>obtain⟨_,⟨ob,_,_,e,_⟩,_⟩:=x;exact⟨ob,e⟩
 | Bb lo hi=>obtain⟨_,_,_,e⟩:=x;exact⟨_,e⟩
 | pY ob u=>obtain⟨e,_⟩:=x;exact⟨_,e⟩
 | kQ ps=>obtain⟨_,e,_⟩:=x;exact⟨_,e⟩
 | met f y=>exact⟨_,(show h.get? a=some _ from x)⟩
 | ext φ=>obtain⟨_,e,_⟩:=x;exact e
def Gu(B:Heap)(fs:List Addr)(h0:Heap)(H:Hp)(h:Heap):Prop:=∀ b o,h.get? b=some o->(H b≠none\/∃ o',h0.get? b=some o')->b∉fs->B.get? b=some o
theorem wM(un:Un fs [] H0 H1 h0 h1)(hok:nE P w H1 h1)(N8:∀ b∈fs,H1 b=none)(fr:∀ b∈fs,∀ ob,h1.get? b=some ob->∀ vs,ob.data≠.fields vs)(DN:Gu B fs h0 H1 h1)
 (hB:B.StaysIn h2) (up:h1.UpToSlots h2):Un fs [] H0 H1 h0 h2/\nE P w H1 h2/\Gu B fs h0 H1 h2:=by
 have N9:∀ b ob,h1.get? b=some ob->(H1 b≠none\/∃ o',h0.get? b=some o')->b∉fs->h2.get? b=some ob:=fun b ob e c n=>hB b ob (DN b ob e c n)
 have Kl:∀ b u,H1 b=some u->b∉fs:=fun b u e z=>by
  rw[N8 b z]at e;cases e
 refine⟨⟨fun b ob e n hb hx=>N9 b ob (un.keep b ob e n hb hx) (.inr ⟨ob,e⟩) hb,fun b ob e n hb hx=>?_,un.free,fun b ob e hx=>?_,un.tups,un.kT,un.kY⟩,fun b u e=>?_,fun b ob e c n=>?_⟩
 ·obtain⟨sl,q⟩:=un.slot b ob e n hb hx;obtain⟨MP,q'⟩:=up b _ q (fr b hb _ q);exact⟨MP,q'⟩
 ·obtain⟨o',q⟩:=un.there b ob e hx
  by_cases hb:b∈fs
  ·obtain⟨MP,q'⟩:=up b _ q (fr b hb _ q);exact⟨_,q'⟩
  ·exact⟨o',N9 b o' q (.inr ⟨ob,e⟩) hb⟩
 ·refine(hok b u e).stay (fun c v hc q=>?_) (fun _ q=>q) fun _ _ q=>q
  have hct:∃ z,H1 c=some z:=by
   rcases hc with hc|hc
   ·rw[hc];exact⟨u,e⟩
   ·exact⟨_,hc⟩
  obtain⟨z,hz⟩:=hct;exact N9 c v q (.inl (by rw[hz];simp)) (Kl c z hz)
 ·have ht:∃ o1,h1.get? b=some o1:=by
   rcases c with c|⟨o',c⟩
   ·cases hz:H1 b with
    | none=>exact absurd hz c
    | some z=>exact(hok b z hz).thing
   ·exact un.there b o' c (by simp)
  obtain⟨o1,q⟩:=ht;have q2:=DN b o1 q c n;have q3:=hB b o1 q2;rw[e]at q3;rw[Option.some.inj q3];exact q2
end
def nR(ea:Addr)(cls:Value):HO:=.ext fun h=>∃ oe vs,h.get? ea=some oe/\oe.cls=cls/\oe.data = .fields vs/\vs[2]?=some .none
theorem Gv{P:Program}{w:World}{H:Hp}{h:Heap}{ea:Addr}{cls:Value}(q:∃ oe vs,h.get? ea=some oe/\oe.cls=cls/\oe.data = .fields vs/\vs[2]?=some .none):bN P w H h ea (nR ea cls) :=
 ⟨q,let⟨oe,_,e,_⟩:=q;⟨oe,e⟩,fun h1 h2 ⟨oe,vs,e,c,d,z⟩ k=>⟨oe,vs,k oe e,c,d,z⟩⟩
def Ja(E:XK)(cls:Value)(od:Option Addr)(c:Value)(H:Hp):Prop:=(c = .none/\(∃ C0:Addr,cls = .ref C0)/\E cls od H)\/∃ C e' C',cls = .ref C/\od=none/\c = .ref e'/\H e' = some (nR e' C')/\E (.int (C:Int) e') none H
def yu(P:Program)(w:World):C3:=fun outer H s E e s'=>∃(ea:Addr) (cls a0:Value) (od:Option Addr) (c:Value) (H' : Hp) (B:Heap),e = .ref ea/\s'.os=s.os/\AllBare s'.gens/\Un (frs outer) [] H H' s.heap s'.heap/\nE P w H' s'.heap/\H' ea=none/\
 Gu B (frs outer) s.heap H' s'.heap/\Heap.FlyingW B outer ea cls a0 s'.heap/\sV od c ea s'.heap/\Ja E cls od c H'
structure Out(X:Cx)(E:XK):Prop where
 FL:X.stack=X.env::X.outer
 fr:X.env.frame=some X.env.locals
 ex:X.ex=[]
 xe:∀ e s',wpAny (model X.prog X.w) X.A (leaving X.env e) (fun _ s''=>yu X.prog X.w X.outer X.H₀ X.s₀ E e s'') (fun e' s''=>yu X.prog X.w X.outer X.H₀ X.s₀ E e' s'') s'->X.xe e s'
def Pu(X:Cx)(E:XK):Prop:=∀(pq:aW) (σ:St) (H:Hp) (s:Shared) (h1:Heap) (ea C0:Addr) (vs:List Value),Inv X pq σ H s->Heap.MadeExcOf s.heap h1 ea (.ref C0) vs->E (.ref C0) none H->X.xe (.ref ea) { s with heap:=h1}
section
variable {X:Cx}{E:XK}{pq:aW}{σ:St}{H:Hp}{s:Shared}
theorem Inv.Jb(I:Inv X pq σ H s):∀ b∈X.fs,∀ ob,s.heap.get? b=some ob->∀ vs,ob.data≠.fields vs:=fun b hb ob e=>by
 obtain⟨_,o,ho,hnf⟩:=I.funs.mem hb;rw[e]at ho;cases ho;exact hnf
theorem Inv.Jc(I:Inv X pq σ H s)(hx:X.ex=[]):∀ b∈X.fs,H b=none:=fun b hb=>by
 obtain⟨_,o,ho,_⟩:=I.ok.funs.mem hb;exact I.base.free b o ho (I.ok.Hz b hb) (by rw[hx];simp)
theorem Gu.outer{B h0:Heap}{h:Heap}(I:Inv X pq σ H s)(DN:Gu B (frs X.stack) h0 H h)(k:∀ b o,X.s₀.heap.get? b=some o->∃ o',h0.get? b=some o'):Gu B X.fs X.s₀.heap H h:=fun b o e c n=>by
 refine DN b o e (c.imp id fun⟨o',q⟩=>k b o' q) fun z=>?_
 rcases List.mem_cons.mp (I.qP b z) with q|q
 ·subst q;rcases c with c|⟨o',c⟩
  ·exact c I.free
  ·exact absurd (Nat.lt_of_lt_of_le (Heap.lt_size c) I.ok.above) (Nat.lt_irrefl _)
 ·exact n q
theorem Ax(O:Out X E)(I:Inv X pq σ H s){B:Heap}{ea:Addr}{cls a0:Value}{od:Option Addr}{c:Value}{h2:Heap}(DN:Gu B X.fs X.s₀.heap H s.heap)(fl:Heap.FlyingW B X.outer ea cls a0 h2)(sc:sV od c ea h2)(up:s.heap.UpToSlots h2)(hn:H ea=none)(q:Ja E cls od c H):
 yu X.prog X.w X.outer X.H₀ X.s₀ E (.ref ea) { s with heap:=h2}:=by
 have un:Un X.fs [] X.H₀ H X.s₀.heap s.heap:=by
  have u:=I.base;rw[O.ex]at u;exact u
 obtain⟨u2,Oa,c2⟩:=wM un I.hok (I.Jc O.ex) I.Jb DN fl.1 up;exact⟨ea,cls,a0,od,c,H,B,rfl,I.os,I.bare,u2,Oa,hn,c2,fl,sc,q⟩
theorem Out.Ob(O:Out X E){ea:Addr}{oe:Obj}{vs:Array Value}{a0 c:Value}(I:Inv X pq σ H s)(ge:s.heap.get? ea=some oe)(de:oe.data = .fields vs)(h0:vs[0]?=some a0)(h1:vs[1]?=some .none)(h2:vs[2]?=some c)
 (hn:H ea=none) (new:X.s₀.heap.get? ea=none) (q:Ja E oe.cls oe.dict c H):X.xe (.ref ea) s:=by
 refine O.xe _ _ ?_;have hfr:X.A.frames=some (X.env::X.outer):=by rw[I.ok.frames,O.FL]
 have hl:s.heap.FunFrames (PySem.W.hideAll s.heap (ea::frs X.stack)) (X.env::X.outer):=by
  have z:=PySem.W.funFrames_hide (as:=ea::frs X.stack) I.stack fun env he b hb=>lU _ (List.mem_filterMap.mpr ⟨env,he,hb⟩)
  rw[O.FL]at z ⊢;exact z
 refine leave_new hfr O.fr (fun b o e=>PySem.W.of_hideAll _ e) (PySem.W.hideAll_none _ (List.mem_cons_self ..)) hl ge de h0 h1 h2 rfl fun h3 fl sc up=>?_
 refine Ax O I (Gu.outer I (h0:=X.s₀.heap) (fun b o e c n=>?_) fun b o e=>⟨o,e⟩) fl sc up hn q
 refine PySem.W.hideAll_get _ e fun z=>?_
 rcases List.mem_cons.mp z with z|z
 ·subst z;rcases c with c|⟨o',c⟩
  ·exact c hn
  ·rw[new]at c;cases c
 ·exact n z
theorem Out.Oc(O:Out X E){ea:Addr}{oe:Obj}{vs:Array Value}{a0:Value}(I:Inv X pq σ H s)(ge:s.heap.get? ea=some oe)(de:oe.data = .fields vs)(h0:vs[0]?=some a0)(h1:vs[1]?=some .none)(h2:vs[2]?=some .none)
 (hn:H ea=none) (new:X.s₀.heap.get? ea=none) (hcl:∃ C0:Addr,oe.cls = .ref C0) (q:E oe.cls oe.dict H):X.xe (.ref ea) s:=O.Ob I ge de h0 h1 h2 hn new (.inl ⟨rfl,hcl,q⟩)
theorem Out.MW(O:Out X E):Pu X E:=by
 intro pq σ H s h1 ea C0 vs I mk q;have I1:Inv X pq σ H { s with heap:=h1}:=I.kept (t':=s.toks) mk.keeps
 have hn:H ea=none:=by
  cases hz:H ea with
  | none=>rfl
  | some z =>
    obtain⟨ob,e⟩:=(I.hok ea z hz).thing;rw[mk.new]at e;cases e
 obtain⟨t,ge,_,_⟩:=mk.there;refine O.Oc I1 (a0:=.ref t) ge rfl rfl rfl rfl hn ?_ ⟨_,rfl⟩ q;cases hz:X.s₀.heap.get? ea with
 | none=>rfl
 | some o =>
   obtain⟨o',e⟩:=I.base.there ea o hz (by rw[O.ex];simp)
   rw[mk.new]at e;cases e
theorem Inv.DO{H' : Hp}{s' : Shared}(I:Inv X pq σ H s)(os:s'.os=s.os)(bare:AllBare s'.gens)(un:Un (frs X.stack) [] H H' s.heap s'.heap)(hok:nE X.prog X.w H' s'.heap):Inv X pq σ H' s' :=
 I.Di (ch:=[]) os un hok bare fun b z=>absurd z (by simp)
theorem Out.passes(O:Out X E):Passes (yu X.prog X.w) X E:=by
 intro pq σ H s e s' I q;obtain⟨ea,cls,a0,od,c,H',B,rfl,os,bare,un,hok,hn,DN,fl,sc,qE⟩:=q;have I1:=I.DO os bare un hok;refine O.xe _ _ ?_;have hfr:X.A.frames=some (X.env::X.outer):=by rw[I.ok.frames,O.FL]
 rw[O.FL]at fl;refine leave_on2 hfr O.fr fl sc fun h2 RN FP up=>?_
 exact Ax O I1 (Gu.outer I1 DN fun b o e=>I.base.there b o e (by rw[O.ex];simp)) RN FP up hn qE
end
theorem eg{P:Program}{w:World}{K:bO}{mg:kX}{base:Heap}{N:List Str}{qual:Str}{scope:Scope}{f:Addr}{cd:Value}{A:Around}{outer:List Env}{s:Shared}{H:Hp}{E:XK}:
 Out (qe (yu P w) P w K mg base N qual scope f cd A outer s H E) E:=⟨rfl,rfl,rfl,fun _ _ h=>h⟩
theorem Gq.yH{P:Program}{w:World}{K:bO}{mg:kX}{base:Heap}{x qual:Str}{st:Stmt}{f:Addr}{fd:FuncData}{N ps:List Str}{k:Nat}{sp:Sp}(F:Gq K x qual st f fd)(S:aE N ps (aj st))
 (len:∀ vs H Q E,sp vs H Q E->vs.length=ps.length)
 (hbody:∀(cdv:Value) (A:Around) (outer:List Env) (s:Shared) (H:Hp) (vs:List V) (Q:VK) (E:XK),gq k (A.deeper (envOfC qual (aj st) s.heap.objs.size f cdv))->sp vs H Q E->
  ∃ t,qR (qe (yu P w) P w K mg base N qual (aj st) f cdv A outer s H E) (cf st) t/\t { nx:=fun _ H'=>Q .fL H',rt:=Q} (start N vs) H):k7 P w K mg base (yu P w) (k+1) f fd ps sp:=by
 obtain⟨oc,od,kV,doc,pm,an,cdv,ct,osl,rfl,lk,hcd⟩:=F.ex;exact DA lk hcd S len fun A outer s H vs Q E hr qX=>hbody cdv A outer s H vs Q E hr qX
section
variable {X:Cx}{E:XK}
def Jd(C:Addr)(E:XK)(t:TA):TS:=fun _ σ H=>t σ H fun vs H1=>vs.length<=sizeLine/\E (.ref C) none H1
theorem nS{x:Str}{C:Addr}{bm:List Value}{B newId initId:String}{e:Expr}{es:List Expr}{ta:TA}{np cpos pos:Pos}(th:Pu X E)(hc:X.calm=true)(hg:Gl X x)(O:∀ h,X.K.In h->h.Ns mainGlobals X.mg->OwnCls x C bm newId X.mg h)
 (FB:ExcBaseFacts B newId initId bm) (ha:PA X (e::es) ta) (he:starEach (e::es) X.env=(false,eval e X.env)::starEach es X.env:=by rfl) (hpl:(backTo cpos (starEach es X.env)).any (·.1)=false:=by rfl)
 (hd:(x==("__debug__":Str))=false:=by decide):PS X (.Raise (some (.Call (.Name x np) (e::es) [] cpos)) none pos) (Jd C E ta):=by
 intro pq s σ H D I h;have OC:=O _ I.mod.MM I.mod.glob;obtain⟨tl,N,nm,q,bs,hdct,sn,sub,ab,col,dd,k0,k1,k2,k3,k5,mN,hC,hN,hni,T⟩:=OC.obj;refine wpAny_Raise_call_subT (C:=C) (nm:=nm) (q:=q) (N:=N) (bs:=bs) (bm:=tl) (hdct:=hdct) (sn:=sn) (sub:=sub) (ab:=ab) (col:=col) (dd:=dd) (k0:=k0) (k1:=k1) (k2:=k2) (k3:=k3) (k5:=k5)
  FB (mN:=mN) (T.hasType FB.hasBase) (I.ok.hd hc) (by rw[he];show(false || (backTo cpos (starEach es X.env)).any (·.1))=false;rw[hpl];rfl) hni (qA I hg OC.bound ⟨rfl,?_⟩ hd)
 have hA:=ha cpos pq s σ H _ I h;rw[he]at hA ⊢;refine Calls.evalArgs_plain (wpAny_mono hA (fun us s1 ⟨vs,H1,I1,r1,z,q1⟩=>?_) fun _ _ y=>y)
 exact⟨rfl,by rw[<-r1.length];exact z,I1.bk _ _ hC,hN.keeps I1.bk,T.keeps I1.bk,fun h' ea hm=>th pq σ H1 s1 h' ea _ us I1 hm q1⟩
end
theorem Je(K:bO)(i:Int)(n:Nat)(v:Value):PySem.W.exmOne K (.int i n) v≠some true:=by
 unfold PySem.W.exmOne
 split
 ·unfold PySem.W.kitCls
  split
  ·split<;>simp[PySem.W.subIn]
  ·split<;>simp[PySem.W.subIn]
  ·simp
 ·simp
section
variable {X:Cx}{pq:aW}{σ:St}{H:Hp}{s:Shared}
theorem Inv.Lx{ea:Addr}{o:HO}(I:Inv X pq σ H s)(hn:H ea=none)(h0:X.s₀.heap.get? ea=none)(hL:ea≠X.env.locals)(hC:∀ x c,X.env.cells.lookup x=some c->c≠ea)(hp:∀ p∈X.pn++pq,p.1≠ea)
 (ok:bN X.prog X.w (upd H ea o) s.heap ea o):Inv X pq σ (upd H ea o) s:=by
 have ne:∀ b u,H b=some u->b≠ea:=fun b u e z=>by rw[z,hn]at e;cases e
 refine⟨I.ok,I.os,I.bare,⟨I.base.keep,I.base.slot,fun b ob e n hx=>?_,I.base.there,fun b xs e=>?_,fun b ob u e=>?_,fun b ps e=>?_⟩,I.loc,I.cell,?_,fun x c e=>?_,fun p hpp=>?_,fun b u e=>?_,I.len⟩
 ·rw[av (fun z=>by rw[z,h0]at e;cases e)]
  exact I.base.free b ob e n hx
 ·have q:=I.base.tups b xs e;rw[av (ne b _ q)];exact q
 ·have q:=I.base.kT b ob u e;rw[av (ne b _ q)];exact q
 ·obtain⟨more,q⟩:=I.base.kY b ps e;exact⟨more,by rw[av (ne b _ q)];exact q⟩
 ·rw[av (Ne.symm hL)];exact I.free
 ·rw[av (hC x c e)];exact I.fD x c e
 ·obtain⟨a1,a2,a3⟩:=I.pin p hpp;exact⟨a1,by rw[av (hp p hpp)];exact a2,a3⟩
 ·by_cases hb:b=ea
  ·subst hb;rw[af]at e;cases e;exact ok
  ·rw[av hb]at e;exact(I.hok b u e).stay (fun _ _ _ q=>q) (fun c q=>by rw[av (ne c _ q)];exact q) fun c xs q=>by rw[av (ne c _ q)];exact q
theorem Inv.yI{A' : Around}{Kq qz:aW}{cm:Bool}{Jf:ig}(I:Inv X pq σ H s)(hA:A'.frames=X.A.frames)(Od:cm=true->A'.handled=none)(hp:∀ p∈Kq++qz,p∈X.pn++pq):
 Inv { X with A:=A',calm:=cm,pn:=Kq,xe:=Jf} qz σ H s :=
 ⟨⟨I.ok.mod,I.ok.kind,I.ok.glob,I.ok.blt,I.ok.above,I.ok.inj,I.ok.has,I.ok.Km,Od,hA.trans I.ok.frames,I.ok.FL,I.ok.Nx,I.ok.bs,I.ok.FN,I.ok.Bd,I.ok.Dh,I.ok.funs,I.ok.Hz⟩,
   I.os,I.bare,I.base,I.loc,I.cell,I.free,I.fD,fun p z=>I.pin p (hp p z),I.hok,I.len⟩
theorem By{M:Model}{A:Around}{E:ig}{i:Nat}{x:Str}{pos:Pos}{Q:Unit->Shared->Prop}(I:Inv X pq σ H s)(hN:X.N.Nodup)(hi:X.N[i]?=some x)(hx:X.env.scope.names.lookup x=some .local)
 (h:∀ s',Inv X pq (σ.set i none) H s'->Q () s'):wpAny M A (do bindName X.env x .none;unbindBehindTheSuite X.env x pos) Q E s:=by
 obtain⟨m,hn,hl⟩:=id I.loc;have hcls:(X.env.scope.kind == .class || (X.env.scope.kind == .module&&X.env.locals != X.env.globals))=false:=by rw[I.ok.kind];rfl
 refine wpAny_nameGoes_keeps hx hn hcls fun h' v hn' hs=>?_
 have below:∀ b ob,X.s₀.heap.get? b=some ob->b≠X.env.locals:=fun b ob e=>Nat.ne_of_lt (Nat.lt_of_lt_of_le (Heap.lt_size e) I.ok.above)
 refine h _ ⟨I.ok,I.os,I.bare,⟨fun b ob e n hb hx=>(hs.2 b (below b ob e)).trans (I.base.keep b ob e n hb hx),fun b ob e n hb hx=>?_,I.base.free,fun b ob e hx=>?_,I.base.tups,I.base.kT,I.base.kY⟩,
  ⟨_,hn',fun j y v' e1 e2 e3=>?_⟩,fun y c e=>?_,I.free,I.fD,fun p hp=>?_,fun b ob e=>?_,by rw[List.length_set];exact I.len⟩
 ·obtain⟨sl,e1⟩:=I.base.slot b ob e n hb hx;exact⟨sl,(hs.2 b (below b ob e)).trans e1⟩
 ·obtain⟨o',e1⟩:=I.base.there b ob e hx;exact⟨o',(hs.2 b (below b ob e)).trans e1⟩
 ·by_cases hj:j=i
  ·subst hj;have hlt:j<σ.length:=by rw[I.len];exact(ny.mp hi).1
   rw[List.getElem?_set_self hlt]at e2;cases e2
  ·rw[List.getElem?_set_ne (Ne.symm hj)]at e2;obtain⟨u',r',q⟩:=hl j y v' e1 e2 e3;refine⟨u',r',?_⟩;rcases q with⟨k,e⟩|⟨k,c,e,z⟩
   ·have hyx:y≠x:=fun e'=>hj (qQ hN e1 (e'▸hi))
    exact .inl ⟨k,by simp[hyx,e]⟩
   ·exact .inr ⟨k,c,e,z.sameBut hs (I.F5 y c e)⟩
 ·obtain⟨w',z⟩:=I.cell y c e;exact⟨w',z.sameBut hs (I.F5 y c e)⟩
 ·obtain⟨e,n,ne,nf,d⟩:=I.pin p hp;exact⟨(hs.2 p.1 ne).trans e,n,ne,nf,d⟩
 ·refine(I.hok b ob e).stay (fun c v hc q=>(hs.2 c ?_).trans q) (fun _ q=>q) fun _ _ q=>q
  intro z;subst z;have hf:H X.env.locals=none:=I.free;rcases hc with hc|hc
  ·rw[<-hc,hf]at e;cases e
  ·rw[hf]at hc;cases hc
end
def HM(o:Addr->Value->Option Addr->HO)(K:bO)(C i k:Nat)(tb:XK->TS)(th:Addr->TS):TS:=fun D σ H=>∃ E:XK,tb E D σ H/\∀ cls od H',E cls od H'->PySem.W.exmOne K cls (.ref C)=some true/\
 ∀ ea,H' ea=none->th ea { nx:=fun σ2 H2=>D.nx (σ2.set i none) H2,rt:=fun _ _=>False} ((List.replicate k none).set i (some (.ref ea))) (upd H' ea (o ea cls od))
abbrev Oe:=HM fun ea cls _=>nR ea cls
section
variable {X:Cx}
theorem Gw(oo:Addr->Value->Option Addr->HO)(RO:∀{H:Hp} {h:Heap} {ea:Addr} {cls:Value} {od:Option Addr},(∃ oe vs,h.get? ea=some oe/\oe.cls=cls/\oe.data = .fields vs/\vs[2]?=some .none/\oe.dict=od)->bN X.prog X.w H h ea (oo ea cls od))
 {x n:Str} {i:Nat} {C:Addr} {body rest:List Stmt} {b0:Stmt} {np hpos pos:Pos} {tb:XK->TS} {th:Addr->TS} (K:bO) (hst:X.stack=X.env::X.outer) (hf:X.env.frame=some X.env.locals) (Jg:X.ex=[]) (hN:X.N.Nodup) (hi:X.N[i]?=some n)
 (hx:X.env.scope.names.lookup n=some .local) (hg:Gl X x) (hm:X.mg x=some (.ref C))
 (hb:∀ E pn xe,Passes (yu X.prog X.w) { X with pn:=pn,xe:=xe} E->qR { X with pn:=pn,xe:=xe} body (tb E))
 (hh:∀ ea pn,qR { X with A:=X.A.mark (some (.ref ea)),calm:=false,pn:=pn,xe:=fun _ _=>False} (b0::rest) (th ea)) (hK:X.K=K:=by rfl) (hdb:(x==("__debug__":Str))=false:=by decide) :
 PS X (.Try body [.ExceptHandler (some (.Name x np)) (some n) (b0::rest) hpos] [] [] pos) (HM oo K C i X.N.length tb th):=by
 subst hK;intro pq s σ H D I h;obtain⟨E,htb,hE⟩:=h;refine wpAny_Try_except ?_;have hfr:X.A.frames=some (X.env::X.outer):=by rw[I.ok.frames,hst]
 have I' : Inv { X with pn:=X.pn++pq,xe:=fun e s1=>∃ qz σ' H0 s0,Inv { X with pn:=X.pn++pq} qz σ' H0 s0/\yu X.prog X.w X.stack H0 s0 E e s1} [] σ H s :=
  I.yI (A':=X.A) (cm:=X.calm) rfl I.ok.hd fun p hp=>by simpa using hp
 have hpass:Passes (yu X.prog X.w) { X with pn:=X.pn++pq,xe:=fun e s1=>∃ qz σ' H0 s0,Inv { X with pn:=X.pn++pq} qz σ' H0 s0/\yu X.prog X.w X.stack H0 s0 E e s1} E:=by
  intro qz σ' H0 s0 e s1 J q;exact⟨qz,σ',H0,s0,J.yI (A':=X.A) (cm:=X.calm) (Kq:=X.pn++pq) rfl J.ok.hd fun p hp=>hp,q⟩
 have RP:∀{qz σ' H' s'},Inv { X with pn:=X.pn++pq} qz σ' H' s'->Inv X pq σ' H' s':=fun {qz σ' H' s'} J=>by
  have z:=J.yI (A':=X.A) (cm:=X.calm) (Kq:=X.pn) (qz:=pq) (Jf:=X.xe) rfl J.ok.hd fun p hp=>Kf _ hp
  exact z
 have Gx:∀{qz σ' H' s'} {Jf:ig},Inv { X with pn:=X.pn++pq,xe:=Jf} qz σ' H' s'->Inv X pq σ' H' s':=fun {qz σ' H' s' Jf} J=>by
  have z:=J.yI (A':=X.A) (cm:=X.calm) (Kq:=X.pn) (qz:=pq) (Jf:=X.xe) rfl J.ok.hd fun p hp=>Kf _ hp
  exact z
 refine wpAny_mono (hb E _ _ hpass [] s σ H D I' htb) (fun f s1 q=>?_) fun e s1 q=>?_
 ·cases f with
  | next =>
    obtain⟨σ',H',J,q⟩:=q;exact wpAny_execs_nil ⟨σ',H',Gx J,q⟩
  | brk =>
    obtain⟨σ',H',J,q⟩:=q;exact⟨σ',H',Gx J,q⟩
  | cont =>
    obtain⟨σ',H',J,q⟩:=q;exact⟨σ',H',Gx J,q⟩
  | ret u =>
    obtain⟨v,σ',H',J,r,q⟩:=q;exact⟨v,σ',H',Gx J,r,q⟩
 ·obtain⟨qz,σ',H0,s0,I0,ea,cls,a0,od,c,H1,B,rfl,os,bare,un,hok,hn,DN,fl,sc,qE⟩:=q;rcases qE with⟨rfl,_,qE⟩|⟨C9,e9,C8,rfl,rfl,rfl,_,qE⟩
  case inr=>exact absurd (hE _ _ _ qE).1 (Je _ _ _ _)
  obtain⟨hex,RQ⟩:=hE cls od H1 qE;have J1:Inv { X with pn:=X.pn++pq} qz σ' H1 s1:=I0.DO os bare un hok
  have N8:∀ b∈frs X.stack,H1 b=none:=J1.qy;have Pw:∀{h' : Heap},s1.heap.UpToSlots h'->∀ b∈frs X.stack,∀ ob,h'.get? b=some ob->∀ vs,ob.data≠.fields vs:=fun {h'} up b hb ob e vs z=>by
   obtain⟨_,o,ho,hnf⟩:=J1.stack.mem hb;obtain⟨sl,q⟩:=up b o ho hnf;rw[e]at q;cases q;exact hnf vs z
  have at_:∀{h' : Heap},B.StaysIn h'->s1.heap.UpToSlots h'->Inv X pq σ' H1 { s1 with heap:=h'}:=fun {h'} hB up=>by
   obtain⟨u2,Oa,_⟩:=wM un hok N8 (Pw (Heap.UpToSlots.refl _)) DN hB up;exact RP (I0.DO (s':={ s1 with heap:=h'}) os bare u2 Oa)
  have RS:ea∉frs X.stack:=fun z=>by
   obtain⟨oe,vs,e,_,d,_⟩:=fl.first;exact Pw (Heap.UpToSlots.refl _) ea z oe e vs d
  have Ly:s0.heap.get? ea=none:=by
   cases hz:s0.heap.get? ea with
   | none=>rfl
   | some o =>
     obtain⟨oe,vs,e,_⟩:=fl.first;have q:=DN ea oe e (.inr ⟨o,hz⟩) RS;rw[fl.2.1]at q;cases q
  have RT:Heap.FlyingW B (X.env::X.outer) ea cls a0 s1.heap:=by
   rw[hst]at fl;exact fl
  refine HK hfr hf RT sc fun h4 Lz RU RV=>?_
  obtain⟨g1,g2,g3,g4⟩:=Lz;refine Aw (s:={ s1 with heap:=h4}) g1 g2 g3 g4 RU fun h5 Of RW RX=>?_
  have LA:=RV.trans RX;have J5:=at_ Of.1 LA;have hfm:(X.A.mark (some (.ref ea))).frames=X.A.frames:=rfl;have RY:Inv { X with A:=X.A.mark (some (.ref ea)),calm:=false,pn:=X.pn,xe:=fun _ _=>False} pq σ' H1 { s1 with heap:=h5}:=J5.yI hfm (fun z=>nomatch z) fun p hp=>hp
  refine wpAny_handleBy_cons (codeAny_handlers_test (qA RY hg hm ?_ hdb)) (by intro q;cases q)
  obtain⟨ob,hob,Og⟩:=Of.there;have LT:PySem.W.Looks (model X.prog X.w) h5 (typeOf (.ref ea)) cls:=Og▸(PySem.W.Looks.ld hob).andThen .now;refine PySem.W.Looks.here (s:={ s1 with heap:=h5}) (PySem.W.exm_one (K:=X.K) J5.ua LT hex) ?_
  refine codeAny_handlers_suite_as ?_;obtain⟨k1,k2,k3,k4⟩:=Of;refine Aw (s:={ s1 with heap:=h5}) k1 k2 k3 k4.at RW fun h6 Px RZ R0=>?_
  have Oh:=LA.trans R0;have J6:=at_ Px.1 Oh;obtain⟨oe,vs,e6,c6,d6,_⟩:=Px.first;have z6:vs[2]?=some .none/\oe.dict=od:=by
   obtain⟨o2,v2,g2,d2,z2,y2⟩:=RZ;rw[e6]at g2;cases g2;rw[d6]at d2;cases d2;exact⟨z2,y2⟩
  have R1:ea≠X.env.locals:=fun z=>by
   obtain⟨m,⟨o,_,_,ho,hd,_⟩,_⟩:=J6.loc;rw[<-z]at ho;rw[e6]at ho;cases ho;rw[d6]at hd;cases hd
  have J7:Inv X pq σ' (upd H1 ea (oo ea cls od)) { s1 with heap:=h6}:=by
   refine J6.Lx hn ?_ R1 (fun y c e z=>?_) (fun p hp z=>?_) (RO ⟨oe,vs,e6,c6,d6,z6.1,z6.2⟩)
   ·cases hz:X.s₀.heap.get? ea with
    | none=>rfl
    | some o =>
      obtain⟨o',q⟩:=I0.base.there ea o hz (show ea∉X.ex by rw[Jg];simp)
      rw[Ly]at q;cases q
   ·obtain⟨v,o,ho,hd⟩:=J6.cell y c e;rw[z,e6]at ho;cases ho;rw[d6]at hd;cases hd
   ·have q:=(I0.pin p (Kf _ hp)).1;rw[z,Ly]at q;cases q
  have J8:Inv { X with A:=X.A.mark (some (.ref ea)),calm:=false,pn:=X.pn,xe:=fun _ _=>False} pq (List.replicate X.N.length none) (upd H1 ea (oo ea cls od)) { s1 with heap:=h6}:=by
   have z:Inv X pq (List.replicate X.N.length none) (upd H1 ea (oo ea cls od)) { s1 with heap:=h6}:=J7.weak (by rw[List.length_replicate,J7.len]) fun j v e=>by
    rw[List.getElem?_replicate]at e
    split at e<;>cases e
   exact z.yI hfm (fun z=>nomatch z) fun p hp=>hp
  refine kZ (X:={ X with A:=X.A.mark (some (.ref ea)),calm:=false,pn:=X.pn,xe:=fun _ _=>False}) (v:=.ref ea) J8 hN hi (.inl hx) rfl (fun s9 J9=>?_) (.inr hx)
  refine wpAny_mono (hh _ _ pq s9 _ _ _ J9 (RQ ea hn)) (fun f Oi q=>?_) fun _ _ z=>z.elim
  cases f with
  | next =>
    obtain⟨σ2,H2,R3,q⟩:=q;have R4:Inv X pq σ2 H2 Oi:=by
     have z:=R3.yI (A':=X.A) (cm:=X.calm) (Kq:=X.pn) (qz:=pq) (Jf:=X.xe) hfm.symm I.ok.hd fun p hp=>hp
     exact z
    exact By R4 hN hi hx fun s12 R5=>⟨_,H2,R5,q⟩
  | brk=>obtain⟨_,_,_,q⟩:=q;exact q.elim
  | cont=>obtain⟨_,_,_,q⟩:=q;exact q.elim
  | ret u=>obtain⟨_,_,_,_,_,q⟩:=q;exact q.elim
theorem Jh{x n:Str}{i:Nat}{C:Addr}{body rest:List Stmt}{b0:Stmt}{np hpos pos:Pos}{tb:XK->TS}{th:Addr->TS}(K:bO)(hst:X.stack=X.env::X.outer)(hf:X.env.frame=some X.env.locals)(Jg:X.ex=[])(hN:X.N.Nodup)(hi:X.N[i]?=some n)
 (hx:X.env.scope.names.lookup n=some .local) (hg:Gl X x) (hm:X.mg x=some (.ref C))
 (hb:∀ E pn xe,Passes (yu X.prog X.w) { X with pn:=pn,xe:=xe} E->qR { X with pn:=pn,xe:=xe} body (tb E))
 (hh:∀ ea pn,qR { X with A:=X.A.mark (some (.ref ea)),calm:=false,pn:=pn,xe:=fun _ _=>False} (b0::rest) (th ea)) (hK:X.K=K:=by rfl) (hdb:(x==("__debug__":Str))=false:=by decide) :
 PS X (.Try body [.ExceptHandler (some (.Name x np)) (some n) (b0::rest) hpos] [] [] pos) (Oe K C i X.N.length tb th):=Gw (fun ea cls _=>nR ea cls) (fun⟨oe,vs,e,c,d,z,_⟩=>Gv ⟨oe,vs,e,c,d,z⟩) K hst hf Jg hN hi hx hg hm hb hh hK hdb
end
open PySem PySem.Spec PySem.Calls PyProof.Rows PySem.W PySem.Builtin PySem.Builtin.ObjectAttr PySem.Builtin.Getset_descriptor
structure rh(K:Frag)(D:Addr):Prop where
 ga:findIn K (.ref D) "__getattribute__"=some (some (.builtin "BaseException.__getattribute__"))
 gh:findIn K (.ref D) "__getattr__"=some none
 cl:findIn K (.ref D) "__class__"=some (some (.builtin "object.__class__"))
 gt:specialIn K (.builtin "object.__class__") "__get__"=some (some (.builtin "getset_descriptor.__get__"))
 tk:takesIn K (.builtin "object.__class__")=some true
 mr:mroIn K D (.type "object")=some true
 mb:mroIn K D (.type "BaseException")=some true
 Py:(clsIn K D).isSome=true
def ExcAt(x:Addr)(D:Value)(h:Heap):Prop:=∃ ox,h.get? x=some ox/\ox.cls=D
section
variable {K:Frag}{x D:Addr}
theorem ExcAt.ty{M:Model}{h:Heap}{V:Value}(q:ExcAt x V h):Looks M h (typeOf (.ref x)) V:=by
 obtain⟨ox,e,c⟩:=q;exact c▸(Looks.ld e).andThen .now
theorem yJ{M:Model}{h:Heap}{C:Addr}{name:Str}{at_ g:Value}(X:K.In h)(ha:findIn K (.ref C) name=some (some at_))(hg:specialIn K at_ "__get__"=some (some g))(hd:takesIn K at_=some true):
 Looks M h (find (.ref x) (.ref C) name) (.bind g at_):=by
 refine(looks_findIn X ha).andThen (Looks.andThen (show Looks M h (getOf (some at_)) (some g) from looks_specialIn X hg) ?_)
 have L3:=looks_takesIn (M:=M) X hd;have L4:Looks M h (dataDescriptor? (some at_) (some g)) (some (g,at_)):=L3.andThen .now;exact L4.andThen (Looks.tag .now)
section
variable {prog:Program}{w:World}{A:Around}{E:ig}{s:Shared}
theorem yK{M:Model}{nameV:Value}{Q:Unit->Shared->Prop}{hh:Heap}{gg:Array GenState}{dd:Drawn}{tt:Nat}{oo:OsState}(S:Looks M hh (isInstance (.ref x) (.type "BaseException")) true)(hq:Q () ⟨hh,gg,dd,tt,oo⟩):
 wpAny M A (checkBuiltinCall "BaseException.__getattribute__" ⟨[.ref x,nameV],[]⟩) Q E ⟨hh,gg,dd,tt,oo⟩:=by
 have hk:builtinKind "BaseException.__getattribute__"=some .slot:=by decide +kernel
 have hsplit:splitId "BaseException.__getattribute__"=some ("BaseException","__getattribute__"):=by decide +kernel
 have ha:=F.args_bexc_ga (.ref x) nameV;simp only[checkBuiltinCall,hk,hsplit];refine dB (S.at ?_)
 repeat (first | wp_step)
 exact hq
theorem BA{Q:Option Value->Shared->Prop}(C:rh K D)(X:K.In s.heap)(q:ExcAt x (.ref D) s.heap)(h:Q (some (.ref D)) { s with toks:=s.toks+1}):wpAny (model prog w) A (getAttr? (.ref x) "__class__") Q E s:=by
 obtain⟨hh,gg,dd,tt,oo⟩:=s;have L0:=q.ty (M:=model prog w);have L1:=looks_findIn (M:=model prog w) X C.ga;have L2:=yJ (M:=model prog w) (x:=x) X C.cl C.gt C.tk;have L3:=looks_findIn (M:=model prog w) X C.gh;have L4:=looks_mroIn (M:=model prog w) X C.mr;have L5:=looks_mroIn (M:=model prog w) X C.mb;have S5:Looks (model prog w) hh (isInstance (.ref x) (.type "BaseException")) true:=L0.andThen L5;unfold getAttr? getAttrBy? getAttrBy;refine dB (wpAny_mkText (dB (wpAny_attempt (wpAny_holding (dB (L0.at (dB (L1.at ?_))))))));show wpAny _ _ (getAttrByItsOwn (.ref x) (.str "__class__" tt) (.ref D) (.builtin "BaseException.__getattribute__") false false) _ _ _;unfold getAttrByItsOwn;refine dB (Looks.at (show Looks (model prog w) hh (hookBefore (.ref D)) none from L3) ?_)
 refine dB (wpAny_attempt (wpAny_holding ?_));show wpAny _ _ (boundAndCalled _ _ _) _ _ _;unfold boundAndCalled;rw[F.attrBase_ValueError.ga.bind (.ref x)];refine dB (wpAny_pure ?_);show wpAny _ _ (call (.builtin "BaseException.__getattribute__") [.ref x,.str "__class__" tt]) _ _ _;refine wpAny_call (codeAny_call_builtin F.attrBase_ValueError.ga.plain F.entry_bexc_ga ?_);refine yK S5 ?_;refine dB (wpAny_pure (dB (wpAny_pure (dB (L0.at (dB (L2.at ?_)))))));show wpAny _ _ (holding [_] (call (.builtin "getset_descriptor.__get__") [.builtin "object.__class__",.ref x,.ref D]) >>= ret) _ _ _;refine dB (wpAny_holding (wpAny_call ?_));refine codeAny_call_builtin KF.slot_gs.plain KF.entry_gs (KF.slot_gs.check _ _ _ _ _ _ _ _ KF.type_class (KF.args_gs _ _ _) ?_)
 (unfold Builtin.«getset_descriptor.__get__» descrGet;rw[dga_obj])
 refine dB (wpAny_pure ?_)
 (unfold descrGetter descrCheckInstance descrNameAndClass isInstance;simp only[KF.owner_class])
 repeat lk
 refine⟨Code.quiet_builtin _ (by decide +kernel),codeAny_builtin KF.entry_class ?_⟩
 (unfold Builtin.«object.__class__» shownTypeOf)
 repeat lk
 exact h
end
theorem DP(C:rh K D):KitX K (.ref x) (.ref D) (ExcAt x (.ref D)) where
 ty:=fun _ _ _ q=>q.ty
 it:=fun M h X _=>by
  have z:=C.Py;unfold clsIn at z
  split at z
  ·rename_i ho
   intro A1 Q1 E1 s1 k q
   (unfold isType;unfold loadHead)
   exact dB (wpAny_loadPart (k _ _ (X _ _ ho)) (wpAny_pure q))
  ·cases z
 ne:=fun h tp dd its n sl X htp=>by
  have z:=C.Py;refine Hx.mpr fun q=>?_
  cases Value.ref.inj (beq_iff_eq.mp q);unfold clsIn at z
  split at z
  ·rename_i ho
   cases(X _ _ ho).symm.trans htp
  ·cases z
 ca:=fun X q k=>BA C X q k
end
def LB(K:Frag):List V->Hp->VK->Prop:=fun xs H Q=>∃ x c D u b,xs=[.ref x,c]/\IW c=some u/\H x=some (nR x (.ref D))/\rh K D/\kitOne K (.ref D) u=some b/\Q (.bl b) H
theorem Gy{X:Cx}(K:Frag)(hK:X.K=K:=by rfl):eZ X (.builtin "isinstance") (LB K):=by
 subst hK;intro pq s σ H xs us Q I r h;obtain⟨x,c,D,u,b,rfl,rc,ty,C,e,q⟩:=h;cases r with
 | cons r1 r2 =>
   cases r2 with
   | cons r2 r3 =>
     cases r3;cases Au rc r2;cases(show _=Value.ref x from r1)
     obtain⟨⟨oe,vs,e1,e2,_⟩,_⟩:=(show bN X.prog X.w H s.heap x (nR x (.ref D)) from I.hok x _ ty)
     exact kia_one (DP C) I.ua ⟨oe,e1,e2⟩ e (fun z=>nomatch z) fun tk=>⟨.bl b,H,I.tok tk,rfl,q⟩
section
variable {X:Cx}
theorem Ji:kR X (compareOp .IsNot) (fun x y H Q=>∃ a b,x = .bl a/\y = .bl b/\Q (.bl (!(a==b))) H):=by
 intro pq s σ H x y v u Q I rx ry h;obtain⟨a,b,rfl,rfl,q⟩:=h;cases rx;cases ry;refine wpAny_isNot_plain rfl ⟨.bl _,H,I,?_,q⟩;cases a<;>cases b<;>rfl
def LC(K:bO):V->V->Hp->VK->Prop:=fun o i H Q=>∃ p xs j v,o = .ref p/\i = .int ((j:Nat):Int)/\aO K H p xs/\xs[j]?=some v/\Q v H
theorem getL(K:bO)(hK:X.K=K:=by rfl):KZ X (LC K):=by
 subst hK;intro pq s σ H o i ov iv Q I ro ri h;obtain⟨p,xs,j,v,rfl,rfl,hq,e,q⟩:=h;cases ro;obtain⟨t,rfl⟩:=ri;obtain⟨its,r,pl,hz⟩:=I.list hq;obtain⟨u,eu,ru⟩:=r.get e;have hj:j<xs.length:=(ny.mp e).1;have hn:=oX;exact wpAny_getItem_list pl.isList (by lia) (by lia) (by simpa using eu) ⟨v,H,I,ru,q⟩
def LD(K:bO):R2:=fun x y H Q=>∃ l b xs zs,x = .ref l/\y = .ref b/\aO K H l xs/\aO K H b zs/\xs.length+zs.length<=sizeLine/\∀ p,H p=none->Q (.ref p) (upd H p (.lst (xs++zs)))
theorem LF(K:bO)(hK:X.K=K:=by rfl):kR X (binaryOp .Add) (LD K):=by
 subst hK;intro pq s σ H x y v u Q I rx ry h;obtain⟨l,b,xs,zs,rfl,rfl,hH,hB,hz,q⟩:=h;cases rx;cases ry;obtain⟨its,r,pl,_⟩:=I.list hH;obtain⟨its2,r2,MX,_⟩:=I.list hB;obtain⟨⟨cls,dd,data,sl⟩,n,e,hc,_,hd⟩:=pl;obtain⟨⟨R6,dd2,data2,sl2⟩,n2,e2,hc2,_,hd2⟩:=MX;simp only at hc hd hc2 hd2;subst hc hd hc2 hd2;have l1:=r.length;have l2:=r2.length;have ea:its.toArray++its2.toArray=(its++its2).toArray:=by simp
 refine concat_meets ⟨_,e,rfl⟩ ⟨_,e2,rfl⟩ noFill_list_add seq_list_add PySem.F.slot_list_add PySem.F.entry_list_add (PySem.F.args_list_add_2 _ _)
  (list_addW l b its.toArray its2.toArray n n2 dd dd2 sl sl2 (by rw[List.size_toArray,List.size_toArray];lia)) ⟨e,e2,?_⟩
 rw[ea];exact⟨.ref _,_,I.Lg (t':=s.toks) (r.append r2) (by rw[List.length_append];lia),rfl,q _ I.fresh⟩
theorem DQ:MU X "list.count" (fun x vs H Q=>∃ l xs y,x = .ref l/\vs=[y]/\H l=some (.lst xs)/\ik y=true/\xs.all ik=true/\Q (.int (xs.countP fun z=>Br z y)) H):=by
 intro pq s σ H x vs v us Q I rx rv h;obtain⟨l,xs,y,rfl,rfl,hH,fy,fx,q⟩:=h;cases rx;obtain⟨u,rfl,ru⟩:=rv.one;obtain⟨z,its,n,r,hl,e⟩:=I.Bt hH;have cnt:∀{xs:List V} {us:List Value},Vals xs us->xs.all ik=true->us.countP (uV y)=xs.countP fun z=>Br z y:=by
  intro xs us r
  induction r with
  | nil=>intro _;rfl
  | cons r1 _ ih =>
    intro f;rw[List.all_cons,Bool.and_eq_true]at f;rw[List.countP_cons,List.countP_cons,ih f.2,uW r1 f.1]
 refine call_meets PySem.F.slot_list_count ⟨_,e,rfl⟩ PySem.F.entry_list_count (PySem.F.args_list_count_2 _ _) (SeqAt.list_countAt l its.toArray n none #[] u (uV y)) ⟨e,fun w hw=>iQ ru fy r fx w (by simpa using hw),?_⟩
 refine⟨.int _,H,I.tok _,⟨s.toks,?_⟩,q⟩;rw[show its.toArray.toList=its from rfl,cnt r fx]
theorem DR:MU X "list.index" (fun x vs H Q=>∃ l xs y j,x = .ref l/\vs=[y]/\H l=some (.lst xs)/\ik y=true/\xs.all ik=true/\j<xs.length/\(∀ m z,xs[m]?=some z->m<=j->Br z y=decide (m=j))/\Q (.int (j:Nat)) H):=by
 intro pq s σ H x vs v us Q I rx rv h;obtain⟨l,xs,y,j,rfl,rfl,hH,fy,fx,hj,hit,q⟩:=h;cases rx;obtain⟨u,rfl,ru⟩:=rv.one;obtain⟨z,its,n,r,hl,e⟩:=I.Bt hH;have hn:=oX;have at_:∀ m (hm:m<its.toArray.size),m<=j->uV y its.toArray[m]=decide (m=j):=fun m hm Pz=>by
  have hm' : m<xs.length:=by rw[hl];simpa using hm
  have ez:xs[m]?=some xs[m]:=by simp[hm']
  obtain⟨u',eu,R7⟩:=r.get ez;have e2:its.toArray[m]=u':=by
   have:=(ny.mp eu).2
   simpa using this
  have fz:ik xs[m]=true:=List.all_eq_true.mp fx _ (List.getElem_mem hm');rw[e2,uW R7 fz];exact hit m _ ez Pz
 have hsz:j<its.toArray.size:=by rw[List.size_toArray];lia
 refine call_meets PySem.F.slot_list_index ⟨_,e,rfl⟩ PySem.F.entry_list_index (PySem.F.args_list_index_2 _ _) (SeqAt.list_indexAt l its.toArray n none #[] u (uV y) j hsz (by lia) ?_ ?_) ⟨e,fun w hw=>iQ ru fy r fx w (by simpa using hw),?_⟩
 ·rw[at_ j hsz (Nat.le_refl _)];simp
 ·intro m hm Pz;rw[at_ m hm (by lia)]
  exact ff (by lia)
 ·exact⟨.int _,H,I.tok _,⟨s.toks,rfl⟩,q⟩
end
section
variable {X:Cx}{tg:Expr}
theorem u5{iter:Expr}{body:List Stmt}{wi:TI}{g:TG}{tb:TS}{pos:Pos}(hc:X.calm=true)(hi:PI X tg iter wi)(hg:PG X.yt tg g)(hb:qR X.yt body tb)(hs:∀ x,foldedSetIterable iter X.env x=pure x:=by intro _;rfl):
 PS X (.For tg iter body [] pos) (dY wi g tb):=by
 intro pq s σ H D I h;refine wpAny_For (eY (hi pq s σ H _ I h) fun v s1 h1=>eY h1 fun itv s2 h2=>?_) hs
 obtain⟨it,fp,tn,J,H2,e,I2,T,st2,f2,W,⟨m0,w0⟩,turn⟩:=h2;subst e;have yy:∀{H' : Hp},(∀ b∈fp,H' b=none)->∀ b∈fp,mT X.yt pq H' b:=fun hn b hb=>⟨hn b hb,(f2 b hb).2⟩
 refine codeAny_forLoop_any (fun n s'=>∃ i σ' H',Inv X.yt pq σ' H' s'/\tn i s'.heap/\(∀ b∈fp,H' b=none)/\W i n σ' H') ?_ m0 ⟨0,σ,H2,I2.qT _,st2,fun b hb=>(f2 b hb).1,w0⟩
 rintro n s3 ⟨i,σ3,H3,I3,st3,HD,w3⟩;rcases turn i n σ3 H3 w3 with⟨stop,qn⟩|⟨go,N,hN,step⟩
 ·refine wpAny_mono (T.done X.yt rfl rfl rfl hc i pq s3 σ3 H3 (fun _ _=>False) I3 (yy HD) st3 stop) (fun r s4 ⟨hr,I4⟩=>?_) fun _ _ z=>z.elim
  subst hr;exact wpAny_execs_nil ⟨σ3,H3,I4.iM,qn⟩
 ·refine wpAny_mono (T.item X.yt rfl rfl rfl hc i pq s3 σ3 H3 (fun _ _=>False) I3 (yy HD) st3 go) (fun r s4 ⟨u,hr,h4⟩=>?_) fun _ _ z=>z.elim
  subst hr;refine wpAny_mono h4 (fun _ s5 ⟨x,H5,I5,r5,y5,Dt,K2⟩=>?_) fun _ _ z=>z.elim
  have K3:=I5.pinned (yy K2) (T.obj _ _ Dt);refine wpAny_mono (hg _ s5 σ3 H5 x u _ K3 r5 (step x H5 y5)) (fun _ s6 ⟨σ6,H6,I6,q6⟩=>?_) fun _ _ z=>z.elim
  refine wpAny_mono (hb _ s6 σ6 H6 _ I6 q6) (fun f s7 q7=>?_) fun _ _ z=>z.elim
  have again:∀{σ7:St} {H7:Hp},Inv X.yt (pq++oW fp s5.heap) σ7 H7 s7->N σ7 H7->∃ m,m<n/\∃ i σ' H',Inv X.yt pq σ' H' s7/\tn i s7.heap/\(∀ b∈fp,H' b=none)/\W i m σ' H':=fun {σ7 H7} I7 n7=>by
   obtain⟨m',hm,w7⟩:=hN σ7 H7 n7;refine⟨m',hm,i+1,σ7,H7,I7.iN,T.keep _ _ _ Dt fun b hb o e=>(I7.pin (b,o) (oU _ (oU _ (gw hb e)))).1,fun b hb=>?_,w7⟩
   obtain⟨o,e,d⟩:=T.obj _ _ Dt b hb;exact(I7.pin (b,o) (oU _ (oU _ (gw hb e)))).2.1
  cases f with
  | next=>obtain⟨σ7,H7,I7,n7⟩:=q7;exact again I7 n7
  | cont=>obtain⟨σ7,H7,I7,n7⟩:=q7;exact again I7 n7
  | brk=>obtain⟨σ7,H7,I7,q7⟩:=q7;exact⟨σ7,H7,I7.iN.iM,q7⟩
  | ret v=>obtain⟨x7,σ7,H7,I7,r7,q7⟩:=q7;exact⟨x7,σ7,H7,I7.iN.iM,r7,q7⟩
theorem gY{P:Program}{w:World}{X:Cx}:Passes (yu P w) X (fun _ _ _=>False):=by
 intro pq σ H s e s' I q;obtain⟨_,_,_,_,_,_,_,_,_,_,_,_,_,_,_,_,z⟩:=q;rcases z with⟨_,_,z⟩|⟨_,_,_,_,_,_,_,z⟩
 ·exact z.elim
 ·exact z.elim
end
theorem yL{X:Cx}{x:Str}{C:Addr}{pos:Pos}(hg:Gl X x)(hm:X.mg x=some (.ref C))(hd:(x==("__debug__":Str))=false:=by decide):PE X (.Name x pos) (tC (.ref C)):=Af hg hm rfl hd
theorem u6{K:bO}{h:Heap}{mg:kX}{x:Str}{C:Addr}{bmB:List Value}{newId:String}(X:K.In h)(G:h.Ns mainGlobals mg)(e:PySem.W.nsIn K mainGlobals x=some (some (.ref C)))(q:PySem.W.excIn K C bmB newId=true):
 OwnCls x C bmB newId mg h:=by
 refine⟨PySem.W.mg_of X G e,?_⟩;unfold PySem.W.excIn at q
 split at q
 ·rename_i od cd sl look
  split at q
  ·rename_i Cx bm j0 j1 j2 j3 nw j5 hmro hsl
   simp only[Bool.and_eq_true,beq_iff_eq,Bool.not_eq_true']at q;obtain⟨⟨⟨⟨⟨rfl,rfl⟩,LG⟩,ht⟩,hok⟩,hni⟩:=q;obtain⟨nm,bs,mro,ns,qn,hd,sn,sub,ab,col,del⟩:=cd
   (dsimp only at hmro LG hok hni;subst hmro LG)
   have hs2:sl = #[j0,j1,j2,j3,some (.builtin nw),j5]:=by
    obtain⟨l⟩:=sl;simp only at hsl;rw[hsl]
   subst hs2;exact⟨bm,ns,nm,qn,bs,hd,sn,sub,ab,col,od,j0,j1,j2,j3,j5,_,X _ _ look,.of_isNs (PySem.W.isNs_of_in X hok),PySem.W.nsMap_none_of_in X hok hni,PySem.W.tail_of_in X ht⟩
  ·cases q
 ·cases q
theorem DS{K:bO}{C:PySem.Addr}(h:PySem.W.hasDictIn K C=true):(PySem.W.clsIn K C).isSome=true:=by
 obtain⟨cd,e,_⟩:=PySem.W.any_some h;rw[e];rfl
theorem Oj{α:Type}:∀ us:List α,us.length=1->∃ a,us=[a]
 | [_],_=>⟨_,rfl⟩
theorem Ol{α:Type}:∀ us:List α,us.length=2->∃ a b,us=[a,b]
 | [_,_],_=>⟨_,_,rfl⟩
theorem Om{α:Type}:∀ us:List α,us.length=3->∃ a b c,us=[a,b,c]
 | [_,_,_],_=>⟨_,_,_,rfl⟩
theorem Oo{α:Type}:∀ us:List α,us.length=4->∃ a b c d,us=[a,b,c,d]
 | [_,_,_,_],_=>⟨_,_,_,_,rfl⟩
section
variable {X:Cx}{pq:aW}{σ:St}{H:Hp}{s:Shared}{h' : Heap}
theorem Inv.yields{t' : Nat}{wr:List Addr}{T:Addr}{o:HO}(I:Inv X pq σ H s)(k:∀ b u,b∉wr->s.heap.get? b=some u->h'.get? b=some u)(hf:∀ b∈wr,mT X pq H b)(hT:s.heap.objs.size<=T)
 (new:bN X.prog X.w (upd H T o) h' T o):Inv X pq σ (upd H T o) { s with heap:=h',toks:=t'}:=by
 have PB:H T=none:=I.hok.fresh hT;have nT:∀ b u,H b=some u->b≠T:=fun b u e=>bf e PB
 have nw:∀ b u,H b=some u->b∉wr:=fun b u e hb=>by rw[(hf b hb).1]at e;cases e
 refine I.step (g':=s.gens) (d':=s.drawn) (ch:=wr) (fun b hb=>?_) (fun b o _ _ hc e _=>k b o hc e) (fun b o _ _ hc e _=>⟨o.slots,k b o hc e⟩) (fun b u hc e n=>?_)
  (fun b o hc e=>⟨o,k b o hc e⟩) (fun b xs e=>?_) (fun b ob xs e=>?_) (fun b ps e=>⟨#[],?_⟩) (fun m hm=>?_) (fun b u e=>?_) I.bare
 ·obtain⟨_,f1,_,f3,f4,f5⟩:=hf b hb;exact⟨f3,f1,f4,f5⟩
 ·rw[av (Nat.ne_of_lt (Nat.lt_of_lt_of_le (Heap.lt_size e) hT))];exact n
 ·rw[av (nT b _ e)];exact e
 ·rw[av (nT b _ e)];exact e
 ·rw[av (nT b _ e),e];simp
 ·obtain⟨o,es,ep,ho,r⟩:=hm;exact⟨o,es,ep,k _ o (fun hb=>(hf _ hb).2.1 rfl) ho,r⟩
 ·by_cases hb:b=T
  ·subst hb;rw[af]at e;cases e;exact new
  ·rw[av hb]at e;refine(I.hok b u e).stay (fun c v hc q=>k c v ?_ q) (fun c q=>by rw[av (nT c _ q)];exact q) fun c xs q=>by rw[av (nT c _ q)];exact q
   rcases hc with z|z
   ·rw[z];exact nw b u e
   ·exact nw c _ z
theorem Inv.Gz{t' : Nat}{wr:List Addr}(I:Inv X pq σ H s)(k:∀ b u,b∉wr->s.heap.get? b=some u->h'.get? b=some u)(hf:∀ b∈wr,mT X pq H b):Inv X pq σ H { s with heap:=h',toks:=t'}:=by
 have nw:∀ b u,H b=some u->b∉wr:=fun b u e hb=>by rw[(hf b hb).1]at e;cases e
 refine I.step (g':=s.gens) (d':=s.drawn) (ch:=wr) (fun b hb=>?_) (fun b o _ _ hc e _=>k b o hc e) (fun b o _ _ hc e _=>⟨o.slots,k b o hc e⟩) (fun _ _ _ _ n=>n)
  (fun b o hc e=>⟨o,k b o hc e⟩) (fun _ _ e=>e) (fun _ _ _ e=>e) (fun b ps e=>⟨#[],by rw[e];simp⟩) (fun m hm=>?_) (fun b u e=>?_) I.bare
 ·obtain⟨_,f1,_,f3,f4,f5⟩:=hf b hb;exact⟨f3,f1,f4,f5⟩
 ·obtain⟨o,es,ep,ho,r⟩:=hm;exact⟨o,es,ep,k _ o (fun hb=>(hf _ hb).2.1 rfl) ho,r⟩
 ·refine(I.hok b u e).stay (fun c v hc q=>k c v ?_ q) (fun _ q=>q) fun _ _ q=>q
  rcases hc with z|z
  ·rw[z];exact nw b u e
  ·exact nw c _ z
end
def Ks(K:bO)(a:Addr):It :=
 ⟨fun i H=>∃ xs x,aO K H a xs/\xs[i]?=some x,fun i H v H'=>∃ T x,v = .ref T/\H T=none/\H' = upd H T (.tup [.int (i:Int),x])/\∀ xs,aO K H a xs->xs[i]?=some x,fun i H=>∃ xs,aO K H a xs/\xs.length<=i⟩
theorem BB{P:Program}{w:World}{K:bO}{elts:List Expr}{k:Nat}{pos:Pos}(a e it:Addr)(hne:e≠it):
 Turn P w K (.Tuple elts k pos) (Ks K a) [e,it] e (fun i h=>(∃ old,IsEnum h e it (i:Int) old)/\h.IsListIter it a i) where
 mem:=by simp
 obj:=fun i h st b hb=>by
  obtain⟨⟨old,he⟩,o,ho,c,d⟩:=st;have hb' : b=e\/b=it:=by simpa using hb
  rcases hb' with rfl|rfl
  ·exact⟨_,he,fun v z=>by cases z⟩
  ·exact⟨o,ho,fun v z=>by rw[d]at z;cases z⟩
 keep:=fun i h h' st k=>by
  obtain⟨⟨old,he⟩,hit⟩:=st;exact⟨⟨old,k e (by simp) _ he⟩,hit.at fun o x=>k it (by simp) o x⟩
 item:=by
  intro X hP hw hK hc i pq s σ H E I hf st hg;subst hP hw hK;obtain⟨xs,x,hq,hx⟩:=hg;obtain⟨its,rv,p,hz⟩:=I.list hq;obtain⟨u,hu,ru⟩:=rv.get hx;obtain⟨⟨old,he⟩,hit⟩:=st;refine wpAny_pyNext_enum_item he hit p.isList (x:=u) (by simpa using hu) hne fun h1 ho Oq hT hsz hk=>?_
  refine⟨_,rfl,wpAny_letOwnedTupleGo_enum ho fun h2 Jj hs2=>?_⟩
  have PC:s.heap.objs.size≠e:=Nat.ne_of_gt (Heap.lt_size he);have hT2:h2.get? s.heap.objs.size=some { cls:=.type "tuple",data:=.seq #[.int i s.toks,u]}:=(hs2.2 _ PC).trans hT;refine⟨.ref s.heap.objs.size,upd H s.heap.objs.size (.tup [.int (i:Int),x]),I.yields (wr:=[e,it]) (t':=s.toks+1) (fun b o hb q=>?_) hf (Nat.le_refl _) ?_,rfl,⟨_,x,rfl,I.fresh,rfl,fun ys hy=>by rw[I.nH hy hq];exact hx⟩,⟨⟨u,by simpa using Jj⟩,?_⟩,fun b hb=>?_⟩
  ·have HN:b≠e:=fun z=>hb (by simp[z])
   have LH:b≠it:=fun z=>hb (by simp[z])
   exact(hs2.2 b HN).trans (hk b o HN LH q)
  ·exact⟨dl rfl,[.int i s.toks,u],.cons ⟨_,rfl⟩ (.cons ru .nil),⟨_,hT2,rfl,_,rfl⟩⟩
  ·exact Oq.at fun o q=>(hs2.2 it (Ne.symm hne)).trans q
  ·rw[av]
   ·exact(hf b hb).1
   ·have hb' : b=e\/b=it:=by simpa using hb
    rcases hb' with rfl|rfl
    ·exact Ne.symm PC
    ·obtain⟨o,q,_⟩:=hit;exact Nat.ne_of_lt (Heap.lt_size q)
 done:=by
  intro X hP hw hK hc i pq s σ H E I hf st hg;subst hP hw hK;obtain⟨xs,hq,hx⟩:=hg;obtain⟨its,rv,p,hz⟩:=I.list hq;obtain⟨⟨old,he⟩,hit⟩:=st;obtain⟨f0,f1,f2,f3,f4,f5⟩:=hf it (by simp)
  have hl:=rv.length;exact wpAny_pyNext_enum_end (I.ok.hd hc) he hit p.isList (by simp;lia) fun h' eb=>⟨rfl,I.turned (t':=s.toks) (fun b o hb e=>eb b o hb e) f0 f1 f3 f4 f5⟩
 self:=fun _ _ _ _ _ st h=>by
  obtain⟨⟨old,he⟩,_⟩:=st;exact wpAny_pyIter_enum he h
def Ot(K:bO)(a b:Addr):It :=
 ⟨fun i H=>∃ xs ys x y,aO K H a xs/\aO K H b ys/\xs[i]?=some x/\ys[i]?=some y,
  fun i H v H'=>∃ T x y,v = .ref T/\H T=none/\H' = upd H T (.tup [x,y])/\(∀ xs,aO K H a xs->xs[i]?=some x)/\∀ ys,aO K H b ys->ys[i]?=some y,
  fun i H=>∃ xs ys,aO K H a xs/\aO K H b ys/\(xs.length<=i\/ys.length<=i)⟩
theorem DT{P:Program}{w:World}{K:bO}{elts:List Expr}{k:Nat}{pos:Pos}(a b z TI TO i1 i2:Addr)(D:ZipApart z TI TO i1 i2 a b):
 Turn P w K (.Tuple elts k pos) (Ot K a b) [z,TI,TO,i1,i2] z (fun i h=>IsZip h z TI TO .none/\IsPair h TI (.ref i1) (.ref i2)/\(∃ u v,IsPair h TO u v)/\h.IsListIter i1 a i/\h.IsListIter i2 b i) where
 mem:=by simp
 obj:=fun i h st c hc=>by
  obtain⟨hz,hI,⟨u,v,hO⟩,⟨o1,FQ,_,d1⟩,o2,ho2,_,d2⟩:=st;have hc' : c=z\/c=TI\/c=TO\/c=i1\/c=i2:=by simpa using hc
  rcases hc' with rfl|rfl|rfl|rfl|rfl
  ·exact⟨_,hz,fun v z=>by cases z⟩
  ·exact⟨_,hI,fun v z=>by cases z⟩
  ·exact⟨_,hO,fun v z=>by cases z⟩
  ·exact⟨o1,FQ,fun v z=>by rw[d1]at z;cases z⟩
  ·exact⟨o2,ho2,fun v z=>by rw[d2]at z;cases z⟩
 keep:=fun i h h' st k=>by
  obtain⟨hz,hI,⟨u,v,hO⟩,h1,h2⟩:=st;exact⟨k z (by simp) _ hz,k TI (by simp) _ hI,⟨u,v,k TO (by simp) _ hO⟩,h1.at fun o e=>k i1 (by simp) o e,h2.at fun o e=>k i2 (by simp) o e⟩
 item:=by
  intro X hP hw hK hc i pq s σ H E I hf st hg;subst hP hw hK;obtain⟨xs,ys,x,y,hq,hq2,hx,hy⟩:=hg;obtain⟨its,rv,p,R8⟩:=I.list hq;obtain⟨its2,MY,p2,Ou⟩:=I.list hq2;obtain⟨u,hu,ru⟩:=rv.get hx;obtain⟨u2,R9,Sa⟩:=MY.get hy;obtain⟨hz,hI,⟨v1,v2,hO⟩,h1,h2⟩:=st;refine wpAny_pyNext_zip_item D hz hI hO h1 h2 p.isList p2.isList (x:=u) (y:=u2) (by simpa using hu) (by simpa using R9) fun h3 Sb Sd Se Sf hT hsz hk=>?_
  refine⟨_,rfl,wpAny_letOwnedTupleGo_zip Sb fun h4 Sg Ku=>?_⟩
  have lt:∀{c o},s.heap.get? c=some o->s.heap.objs.size≠c:=fun e=>Nat.ne_of_gt (Heap.lt_size e)
  have Sh:h4.get? s.heap.objs.size=some { cls:=.type "tuple",data:=.seq #[u,u2]}:=(Ku.2 _ (lt hz)).trans hT;have kk:∀ c o,c∉[z,TO,i1,i2]->s.heap.get? c=some o->h4.get? c=some o:=fun c o hc q=>by
   have c1:c≠z:=fun e=>hc (by simp[e])
   exact(Ku.2 c c1).trans (hk c o c1 (fun e=>hc (by simp[e])) (fun e=>hc (by simp[e])) (fun e=>hc (by simp[e])) q)
  have hsub:∀ c∈[z,TO,i1,i2],c∈[z,TI,TO,i1,i2]:=fun c hc=>by
   have hc' : c=z\/c=TO\/c=i1\/c=i2:=by simpa using hc
   rcases hc' with rfl|rfl|rfl|rfl<;>simp
  refine⟨.ref s.heap.objs.size,upd H s.heap.objs.size (.tup [x,y]),I.yields (wr:=[z,TO,i1,i2]) (t':=s.toks) kk (fun c hc=>hf c (hsub c hc)) (Nat.le_refl _) ?_,rfl,
   ⟨_,x,y,rfl,I.fresh,rfl,fun zs hy=>by rw[I.nH hy hq];exact hx,fun zs hz=>by rw[I.nH hz hq2];exact hy⟩,⟨Sg,(Ku.2 _ D.TIz).trans (hk _ _ D.TIz D.TITO D.TIi1 D.TIi2 hI),⟨u,u2,(Ku.2 _ D.TOz).trans Sd⟩,?_,?_⟩,fun c hc=>?_⟩
  ·exact⟨dl rfl,[u,u2],.cons ru (.cons Sa .nil),⟨_,Sh,rfl,_,rfl⟩⟩
  ·exact Se.at fun o q=>(Ku.2 _ D.i1z).trans q
  ·exact Sf.at fun o q=>(Ku.2 _ D.i2z).trans q
  ·rw[av]
   ·exact(hf c hc).1
   ·have hc' : c=z\/c=TI\/c=TO\/c=i1\/c=i2:=by simpa using hc
    rcases hc' with rfl|rfl|rfl|rfl|rfl
    ·exact Ne.symm (lt hz)
    ·exact Ne.symm (lt hI)
    ·exact Ne.symm (lt hO)
    ·obtain⟨o,q,_⟩:=h1;exact Ne.symm (lt q)
    ·obtain⟨o,q,_⟩:=h2;exact Ne.symm (lt q)
 done:=by
  intro X hP hw hK hc i pq s σ H E I hf st hg;subst hP hw hK;obtain⟨xs,ys,hq,hq2,hx⟩:=hg;obtain⟨its,rv,p,R8⟩:=I.list hq;obtain⟨its2,MY,p2,Ou⟩:=I.list hq2;obtain⟨hz,hI,⟨v1,v2,hO⟩,h1,h2⟩:=st;have hl:=rv.length;have hl2:=MY.length;have hsub:∀ c∈[z,TO,i1,i2],c∈[z,TI,TO,i1,i2]:=fun c hc=>by
   have hc' : c=z\/c=TO\/c=i1\/c=i2:=by simpa using hc
   rcases hc' with rfl|rfl|rfl|rfl<;>simp
  refine wpAny_pyNext_zip_end (I.ok.hd hc) D hz hI hO h1 h2 p.isList p2.isList (hx.imp (fun q=>by simp;lia) fun q=>by simp;lia) fun h' kk=>⟨rfl,I.Gz (wr:=[z,TO,i1,i2]) (t':=s.toks) (fun c o hc q=>?_) fun c hc=>hf c (hsub c hc)⟩
  exact kk c o (fun e=>hc (by simp[e])) (fun e=>hc (by simp[e])) (fun e=>hc (by simp[e])) (fun e=>hc (by simp[e])) q
 self:=fun _ _ _ _ _ st h=>wpAny_pyIter_zip st.1 h
theorem BC{n a b:Nat}(la:a<n)(lb:b<n):ZipApart (n+4) (n+2) (n+3) n (n+1) a b:=by
 have k:∀{x y:Nat},x<y\/y<x->x≠y:=fun h=>by lia
 constructor<;>exact k (by lia)
section
variable {X:Cx}{elts:List Expr}{n:Nat}{tp:Pos}
def LI(K:bO)(ta:TA):TI:=fun σ H R=>ta σ H fun vs H1=>∃ a,vs=[.ref a]/\(∃ xs,aO K H1 a xs)/\R (Ks K a) H1
def Ov(K:bO)(ta:TA):TI:=fun σ H R=>ta σ H fun vs H1=>∃ a b,vs=[.ref a,.ref b]/\(∃ xs,aO K H1 a xs)/\(∃ ys,aO K H1 b ys)/\R (Ot K a b) H1
theorem u7(K:bO){a:Expr}{ta:TA}{p pos:Pos}(hg:Gl X "enumerate")(hm:X.mg "enumerate"=none)(ha:PA X [a] ta)(hs:starEach [a] X.env=[(false,eval a X.env)]:=by rfl)(hK:X.K=K:=by rfl):
 PI X (.Tuple elts n tp) (.Call (.Name "enumerate" p) [a] [] pos) (LI K ta):=by
 subst hK;intro pq s σ H R I h;refine Call_ (k6 I hg hm boot_enumerate (PyProof.Rows.callWith_type1 (eY (ha pos pq s σ H _ I h) fun us s1 ⟨vs,H1,I1,r1,q1⟩=>?_) hs rfl))
 obtain⟨a,e,⟨xs,hq⟩,q⟩:=q1;subst e;cases r1 with
 | cons r rr =>
   cases rr;cases r;obtain⟨its,rv,pl,hz⟩:=I1.list hq;refine call_enumerate_list pl.isList fun h' he hit hsz hk=>?_
   have I2:Inv X pq σ H1 { s1 with heap:=h'}:=I1.kept (t':=s1.toks) hk
   refine wpAny_pyIter_enum he ⟨_,[s1.heap.objs.size+1,s1.heap.objs.size],_,_,H1,rfl,I2,BB a _ _ (Nat.succ_ne_self _),⟨⟨_,he⟩,hit⟩,fun b hb=>?_,q⟩
   have hb' : b=s1.heap.objs.size+1\/b=s1.heap.objs.size:=by simpa using hb
   have PD:s1.heap.objs.size<=b:=by
    rcases hb' with rfl|rfl
    ·exact Nat.le_succ _
    ·exact Nat.le_refl _
   exact I1.Dr PD (I1.hok.fresh PD)
theorem Jk(K:bO){a b:Expr}{ta:TA}{p pos:Pos}(hg:Gl X "zip")(hm:X.mg "zip"=none)(ha:PA X [a,b] ta)(hs:starEach [a,b] X.env=[(false,eval a X.env),(false,eval b X.env)]:=by rfl)(hs2:starEach [b] X.env=[(false,eval b X.env)]:=by rfl)(hK:X.K=K:=by rfl):
 PI X (.Tuple elts n tp) (.Call (.Name "zip" p) [a,b] [] pos) (Ov K ta):=by
 subst hK;intro pq s σ H R I h;refine Call_ (k6 I hg hm boot_zip (PyProof.Rows.callWith_type1 (eY (ha pos pq s σ H _ I h) fun us s1 ⟨vs,H1,I1,r1,q1⟩=>?_) (by rw[hs,hs2]) (by rw[hs2];rfl)))
 obtain⟨a,b,e,⟨xs,hq⟩,⟨ys,hq2⟩,q⟩:=q1;subst e;cases r1 with
 | cons r rr =>
   cases rr with
   | cons r' rr =>
     cases rr;cases r;cases r';obtain⟨its,rv,pl,hz⟩:=I1.list hq;obtain⟨its2,MY,MX,hz2⟩:=I1.list hq2;refine call_zip_2 pl.isList MX.isList fun h' PF hI hO h1 h2 hsz hk=>?_
     have I2:Inv X pq σ H1 { s1 with heap:=h'}:=I1.kept (t':=s1.toks) hk
     have la:a<s1.heap.objs.size:=by obtain⟨_,q,_⟩:=pl.isList;exact Heap.lt_size q
     have lb:b<s1.heap.objs.size:=by obtain⟨_,q,_⟩:=MX.isList;exact Heap.lt_size q
     refine wpAny_pyIter_zip PF ⟨_,[s1.heap.objs.size+4,s1.heap.objs.size+2,s1.heap.objs.size+3,s1.heap.objs.size,s1.heap.objs.size+1],_,_,H1,rfl,I2,
      DT a b _ _ _ _ _ (BC la lb),⟨PF,hI,⟨_,_,hO⟩,h1,h2⟩,fun c hc=>?_,q⟩
     have hc' : c=s1.heap.objs.size+4\/c=s1.heap.objs.size+2\/c=s1.heap.objs.size+3\/c=s1.heap.objs.size\/c=s1.heap.objs.size+1:=by simpa using hc
     have hcs:s1.heap.objs.size<=c:=by
      rcases hc' with rfl|rfl|rfl|rfl|rfl
      ·exact Nat.le_add_right _ _
      ·exact Nat.le_add_right _ _
      ·exact Nat.le_add_right _ _
      ·exact Nat.le_refl _
      ·exact Nat.le_add_right _ _
     exact I1.Dr hcs (I1.hok.fresh hcs)
end
section
variable {K:bO}{a b:Addr}{xs ys:List V}{g:TG}{tt:TT}{te:TE}{n:Nat}{fr:St}{D:Addr}{Q:Hp->Prop}{H1:Hp}
theorem wN{tb:TS}{D:Ends}{σ:St}{H:Hp}(Pv:Nat->St->Hp->Prop)(h0:Pv 0 σ H)(hl:∀ i σ H,i<=xs.length->Pv i σ H->aO K H a xs)
 (hs:∀ i x T σ H,xs[i]?=some x->Pv i σ H->H T=none->g (.ref T) σ (upd H T (.tup [.int (i:Int),x])) fun σ2 H2=>tb { D with nx:=Pv (i+1),ct:=Pv (i+1),bk:=D.nx} σ2 H2) (hd:∀ σ H,Pv xs.length σ H->D.nx σ H) :
 ∃ W:Nat->Nat->St->Hp->Prop,(∃ m,W 0 m σ H)/\∀ i m σ H,W i m σ H->
   ((Ks K a).stop i H/\D.nx σ H)\/((Ks K a).go i H/\∃ N:St->Hp->Prop,(∀ σ' H',N σ' H'->∃ m',m'<m/\W (i+1) m' σ' H')/\∀ x H',(Ks K a).F9 i H x H'->g x σ H' fun σ2 H2=>tb { D with nx:=N,ct:=N,bk:=D.nx} σ2 H2):=by
 refine⟨fun i m σ H=>m=xs.length-i/\i<=xs.length/\Pv i σ H,⟨xs.length,by simp,Nat.zero_le _,h0⟩,?_⟩
 rintro i m σ H ⟨rfl,hi,p⟩;have q:=hl i σ H hi p
 by_cases hlt:i<xs.length
 ·refine .inr ⟨⟨xs,xs[i],q,by simp[hlt]⟩,Pv (i+1),fun σ' H' p'=>⟨xs.length-(i+1),by lia,rfl,hlt,p'⟩,fun v H' y=>?_⟩
  obtain⟨T,x,rfl,hT,rfl,y⟩:=y;exact hs i x T σ _ (y xs q) p hT
 ·have e:i=xs.length:=by lia
  subst e;exact .inl ⟨⟨xs,q,Nat.le_refl _⟩,hd σ H p⟩
theorem DU(hxy:xs.length=ys.length)(Pv:Nat->List V->Hp->Prop)(h0:Pv 0 [] H1)(hl:∀ i acc H,i<=xs.length->Pv i acc H->aO K H a xs/\aO K H b ys/\H D=some (.lst acc)/\acc.length<=i)(hz:xs.length<=sizeLine)
 (hs:∀ i x y T acc H,xs[i]?=some x->ys[i]?=some y->Pv i acc H->H T=none->g (.ref T) (List.replicate n none++fr) (upd H T (.tup [x,y])) fun σ2 H2=>σ2.drop n=fr/\tt σ2 H2 fun b H3 =>
  if b=true then te σ2 H3 fun v H4=>H4 D=some (.lst acc)/\Pv (i+1) (acc++[v]) (upd H4 D (.lst (acc++[v]))) else Pv (i+1) acc H3)
 (hd:∀ acc H,Pv xs.length acc H->Q H):jI (Ot K a b) g tt te n fr D Q H1:=by
 refine⟨fun i m acc H=>m=xs.length-i/\i<=xs.length/\Pv i acc H,⟨xs.length,by simp,Nat.zero_le _,h0⟩,?_⟩
 rintro i m acc H ⟨rfl,hi,p⟩;obtain⟨q,q2,hD,ha⟩:=hl i acc H hi p;refine⟨hD,?_⟩
 by_cases hlt:i<xs.length
 ·have Ow:i<ys.length:=by lia
  refine .inr ⟨⟨xs,ys,xs[i],ys[i],q,q2,by simp[hlt],by simp[Ow]⟩,by lia,Pv (i+1),fun acc' H' p'=>⟨xs.length-(i+1),by lia,rfl,hlt,p'⟩,fun v H' y=>?_⟩
  obtain⟨T,x,z,rfl,hT,rfl,y1,y2⟩:=y;exact hs i x z T acc _ (y1 xs q) (y2 ys q2) p hT
 ·have e:i=xs.length:=by lia
  subst e;exact .inl ⟨⟨xs,ys,q,q2,.inl (Nat.le_refl _)⟩,hd acc H p⟩
end
section
variable {X:Cx}
theorem wO:eZ X (.type "range") (fun xs H Q=>∃ j:Int,xs=[.int j]/\∀ p,H p=none->Q (.ref p) (upd H p (.Bb 0 j))):=by
 intro pq s σ H xs us Q I r h;obtain⟨j,rfl,q⟩:=h;obtain⟨u,rfl,t,rfl⟩:=vals1 r;refine call_range_1 ⟨.ref s.heap.objs.size,_,I.laid (t':=s.toks+1+1) (fun b o e=>Heap.get?_push_of_some _ e) (Nat.le_refl _) ?_,rfl,q _ I.fresh⟩
 exact⟨_,_,_,Heap.get?_push_size _ rfl⟩
def sW(n:Nat):List V:=(List.range n).map fun i=>V.int ((i:Nat):Int)
theorem HP(hc:X.calm=true):eZ X (.type "list") (fun xs H Q=>∃ p,∃ n:Nat,xs=[.ref p]/\H p=some (.Bb 0 (n:Int))/\n<=900/\∀ l,H l=none->Q (.ref l) (upd H l (.lst (sW n)))):=by
 intro pq s σ H xs us Q I r h;obtain⟨p,n,rfl,hp,hn,q⟩:=h;obtain⟨u,rfl,rx⟩:=vals1 r;cases rx;obtain⟨t,u,v,e⟩:=(show bN X.prog X.w H s.heap p (.Bb 0 (n:Int)) from I.hok p _ hp)
 have hsz:Builtin.Range.rangeSize 0 (n:Int) 1=(n:Int):=by rw[rangeSize_one];split<;>lia
 refine call_list_range (I.ok.hd hc) e (small_one (by lia) (by lia) (by lia) (by lia)) hsz (Nat.le_trans hn (by decide)) fun h' tk acc c kp e' hacc=>?_
 refine⟨.ref s.heap.objs.size,_,I.laid (t':=tk) kp (Nat.le_refl _) ?_,rfl,q _ I.fresh⟩;have hl:acc.toList.length=n:=by rw[Array.length_toList];exact hacc.1
 have hz:(sW n).length<=sizeLine:=by
  unfold sW;rw[List.length_map,List.length_range];exact Nat.le_of_lt (jH (by lia))
 refine⟨hz,acc.toList,c,?_,by simpa using e'⟩
 have key:∀(ys:List Value) (k:Nat),(∀ j v,ys[j]?=some v->∃ t,v=Value.int (((k+j:Nat)):Int) t)->Vals ((List.range' k ys.length).map fun i=>V.int ((i:Nat):Int)) ys:=by
  intro ys
  induction ys with
  | nil=>intro k _;exact .nil
  | cons y r ih =>
    intro k hy;obtain⟨t,ht⟩:=hy 0 y rfl;refine .cons ⟨t,by simpa using ht⟩ (ih (k+1) fun j v hv=>?_)
    obtain⟨t',ht'⟩:=hy (j+1) v (by simpa using hv)
    exact⟨t',by rw[ht'];congr 2;lia⟩
 have z:=key acc.toList 0 fun j v hv=>by
  obtain⟨t,ht⟩:=hacc.2 j v (by simpa using hv)
  exact⟨t,by rw[ht];congr 1;lia⟩
 rw[hl]at z;unfold sW;rw[List.range_eq_range'];exact z
theorem sumK(K:bO)(hc:X.calm=true)(hK:X.K=K:=by rfl):eZ X (.builtin "sum") (fun xs H Q=>∃(p:Addr) (ns:List Int),xs=[.ref p]/\aO K H p (ns.map V.int)/\Q (.int ns.sum) H):=by
 subst hK;intro pq s σ H xs us Q I r h;obtain⟨p,ns,rfl,hq,q⟩:=h;obtain⟨u,rfl,rx⟩:=vals1 r;cases rx;obtain⟨its,rv,pl,hz⟩:=I.list hq;have hi:∀{ns:List Int} {its:List Value},Vals (ns.map V.int) its->∃ xs:Array (Int×Tok),its.toArray=intItems xs/\xs.toList.map (·.1)=ns:=by
  intro ns
  induction ns with
  | nil=>intro its r;cases r;exact⟨#[],by simp[intItems],rfl⟩
  | cons a l ih =>
    intro its r;cases r with
    | cons r1 r2 =>
      obtain⟨t,rfl⟩:=r1;obtain⟨xs,h1,h2⟩:=ih r2;refine⟨#[(a,t)]++xs,?_,by simp[h2]⟩
      have HN:=congrArg Array.toList h1;simp only[intItems,Array.toList_map,List.toList_toArray]at HN;simp[intItems,HN,Array.map_append]
 obtain⟨ar,e1,e2⟩:=hi rv;have hl:s.heap.IsList p (intItems ar):=e1▸pl.isList;refine sum_intListG (I.ok.hd hc) hl fun h' tk t' hk=>?_
 have e3:preSum (numAt ar) ar.size=ns.sum:=by rw[preSum_eq,List.take_of_length_le (by simp),e2]
 rw[e3];exact⟨.int ns.sum,H,I.kept hk,⟨t',rfl⟩,q⟩
end
theorem wQ:∀{us:List Value} {ns:List Int},IntsAre us ns->Vals (ns.map V.int) us
 | _,_,.nil=>.nil
 | _,_,.cons n t r=>.cons ⟨t,rfl⟩ (wQ r)
section
variable {X:Cx}
theorem sortedK(K:bO)(hK:X.K=K:=by rfl):eZ X (.builtin "sorted") (fun xs H Q=>∃(p:Addr) (ns:List Int),xs=[.ref p]/\aO K H p (ns.map V.int)/\ns.length<64/\
 ∀(l:Addr) (ns' : List Int),H l=none->ns'.Perm ns->ns'.Pairwise (·<=·)->Q (.ref l) (upd H l (.lst (ns'.map V.int)))):=by
 subst hK;intro pq s σ H xs us Q I r h;obtain⟨p,ns,rfl,hq,hn,q⟩:=h;obtain⟨u,rfl,rx⟩:=vals1 r;cases rx;obtain⟨its,rv,pl,hz⟩:=I.list hq;have hl:=rv.length;rw[List.length_map]at hl;refine PyProof.Rows.sorted_ints pl.isList (intsAre_of rv) (by lia) fun out ns' a1 a2 a3=>?_
 obtain⟨e,he⟩:=sortedAll_at s.heap its out;have hfr:H (s.heap.objs.size+1)=none:=I.hok.fresh (Nat.le_succ _);refine⟨.ref (s.heap.objs.size+1),_,I.laid (t':=s.toks) (fun _ _=>sortedAll_old) (Nat.le_succ _) ?_,rfl,q _ ns' hfr a2 a3⟩
 refine⟨?_,out.toList,e,wQ a1,?_⟩
 ·rw[List.length_map,a2.length_eq];exact Nat.le_of_lt (jH (by lia))
 ·have:out.toList.toArray=out:=by simp
  rw[this];exact he
theorem Ox(K:bO)(hc:X.calm=true)(hK:X.K=K:=by rfl):eZ X (.type "set") (fun xs H Q=>∃(p:Addr) (ns:List Int),xs=[.ref p]/\aO K H p (ns.map V.int)/\ns.length<=900/\
 ∀(l:Addr) (S:Int->Bool),H l=none->Q (.ref l) (upd H l (.set S (firstMet (fun i=>ns.getD i 0) ns.length).length))):=by
 subst hK;intro pq s σ H xs us Q I r h;obtain⟨p,ns,rfl,hq,hn,q⟩:=h;obtain⟨u,rfl,rx⟩:=vals1 r;cases rx;obtain⟨its,rv,pl,hz⟩:=I.list hq;have hl:=rv.length;rw[List.length_map]at hl;have hsz:its.toArray.size=ns.length:=by rw[List.size_toArray];lia
 refine PySem.call_set_list (I.ok.hd hc) pl.isList (ns:=ns) (by simpa using intsAre_of rv) (by rw[hsz];show ns.length+1<4096;lia) fun h' tk hS hk=>?_
 rw[hsz]at hS;exact⟨.ref s.heap.objs.size,_,I.laid (t':=tk) (o:=.set (fun k'=>(firstMet (fun i=>ns.getD i 0) ns.length).any fun x=>x==k') (firstMet (fun i=>ns.getD i 0) ns.length).length) (fun b o e=>hk b o (Heap.lt_size e) e) (Nat.le_refl _) hS,rfl,q _ _ I.fresh⟩
theorem Jl:eZ X (.builtin "len") (fun xs H Q=>∃(p:Addr) (S:Int->Bool) (n:Nat),xs=[.ref p]/\H p=some (.set S n)/\Q (.int (n:Int)) H):=by
 intro pq s σ H xs us Q I r h;obtain⟨p,S,n,rfl,hp,q⟩:=h;obtain⟨u,rfl,rx⟩:=vals1 r;cases rx;obtain⟨o,es,ep,t,ho,hex,hd,_,_,hb,hf,rfl⟩:=(show bN X.prog X.w H s.heap p (.set S n) from I.hok p _ hp)
 refine call_len_set ho hex hd hf (by have:es.size<4096:=hb;lia) ⟨.int _,H,I.tok _,⟨_,rfl⟩,q⟩
end
end L2
namespace Ring
open PySem
abbrev dF:=Int×Int×Int
def bit(S:Int)(k:Nat):Bool:=decide (S/2^k%2=1)
def bF(S:Int):List Nat:=(List.range (Builtin.Int.intBits S)).filter (bit S)
def bump(e:List Int)(i:Int):List Int:=e.set i.toNat (e.getD i.toNat 0+1)
def step(ts:List dF)(e:List Int)(k:Nat):List Int:=match ts[k]? with
 | some t=>bump (bump e t.1) t.2.1
 | none=>e
def jw(p:Nat)(ts:List dF)(S:Int):List Int:=(bF S).foldl (step ts) (List.replicate p 0)
def rj(p:Nat)(ts:List dF)(S:Int):List Nat:=(List.range p).filter fun i=>decide ((jw p ts S).getD i 0%2=1)
def FT(ts:List dF)(k i:Nat):Int:=match ts[k]? with
 | some t=>(if t.1=(i:Int) then 1 else 0)+(if t.2.1=(i:Int) then 1 else 0)
 | none=>0
theorem jK(e:List Int)(i:Int):(bump e i).length=e.length:=by unfold bump;rw[List.length_set]
theorem DV(ts:List dF)(e:List Int)(k:Nat):(step ts e k).length=e.length:=by
 unfold step
 split
 ·rw[jK,jK]
 ·rfl
theorem wR(e:List Int)(j:Int)(i:Nat)(h0:0<=j)(h1:j<e.length):(bump e j).getD i 0=e.getD i 0+if j=(i:Int) then 1 else 0:=by
 unfold bump;rw[List.getD_eq_getElem?_getD,List.getD_eq_getElem?_getD,List.getD_eq_getElem?_getD]
 by_cases h:j=(i:Int)
 ·have hi:j.toNat=i:=by lia
  rw[if_pos h,hi,List.getElem?_set_self (by lia)]
  rfl
 ·have hi:j.toNat≠i:=by lia
  rw[if_neg h,List.getElem?_set_ne hi]
  lia
structure Ay(p:Nat)(ts:List dF):Prop where
 ends:∀ t∈ts,0<=t.1/\t.1<(p:Int)/\0<=t.2.1/\t.2.1<(p:Int)
theorem step_get{p:Nat}{ts:List dF}(W:Ay p ts)(e:List Int)(k i:Nat)(he:e.length=p):(step ts e k).getD i 0=e.getD i 0+FT ts k i:=by
 unfold step FT;cases h:ts[k]? with
 | none=>simp
 | some t =>
   obtain⟨a0,a1,b0,b1⟩:=W.ends t (nv h);dsimp only;rw[wR _ _ _ b0 (by rw[jK,he];exact b1),wR _ _ _ a0 (by rw[he];exact a1)]
   lia
def o6(ts:List dF)(ks:List Nat)(i:Nat):Int:=(ks.map fun k=>FT ts k i).sum
theorem wU{p:Nat}{ts:List dF}(W:Ay p ts)(i:Nat):∀(ks:List Nat) (e:List Int),e.length=p->(ks.foldl (step ts) e).getD i 0=e.getD i 0+o6 ts ks i
 | [],e,_=>by simp[o6]
 | k::r,e,he=>by
   rw[List.foldl_cons,wU W i r _ (by rw[DV,he]),step_get W e k i he]
   unfold o6;rw[List.map_cons,List.sum_cons]
   lia
theorem DW{p:Nat}{ts:List dF}(W:Ay p ts)(S:Int)(i:Nat):(jw p ts S).getD i 0=o6 ts (bF S) i:=by
 unfold jw;rw[wU W i _ _ (by simp)]
 have e:(List.replicate p (0:Int)).getD i 0=0:=by
  rw[List.getD_eq_getElem?_getD,List.getElem?_replicate]
  split<;>rfl
 rw[e]
 lia
theorem ja(m k:Nat):bit (m:Int) k=m.testBit k:=by
 unfold bit;rw[Nat.testBit_eq_decide_div_mod_eq];have e:((m:Int)/2^k%2=1)↔(m/2^k%2=1):=by
  have h2:((2:Int)^k)=((2^k:Nat):Int):=by simp
  rw[h2,<-Int.natCast_ediv]
  lia
 simp only[e]
theorem rm(m:Nat):Builtin.Int.intBits (m:Int)=if m=0 then 0 else m.log2+1:=by
 unfold Builtin.Int.intBits
 by_cases h:m=0
 ·simp[h]
 ·simp[h]
theorem bits_le{m n:Nat}(h:m<2^n):Builtin.Int.intBits (m:Int)<=n:=by
 rw[rm]
 split
 ·exact Nat.zero_le _
 ·rename_i h0
  exact(Nat.log2_lt h0).mpr h
theorem DX{m k:Nat}(h:Builtin.Int.intBits (m:Int)<=k):bit (m:Int) k=false:=by
 rw[ja];rw[rm]at h
 by_cases h0:m=0
 ·simp[h0]
 ·rw[if_neg h0]at h;exact Nat.testBit_lt_two_pow (Nat.lt_of_lt_of_le Nat.lt_log2_self (Nat.pow_le_pow_right (by decide) h))
theorem nU(f:Nat->Bool)(a:Nat):∀ d,(∀ k,a<=k->f k=false)->(List.range (a+d)).filter f=(List.range a).filter f
 | 0,_=>rfl
 | d+1,h=>by
   rw[<-Nat.add_assoc,List.range_succ,List.filter_append,nU f a d h];have e:[a+d].filter f=[]:=by rw[List.filter_cons,if_neg (by rw[h _ (by lia)];simp)];rfl
   rw[e,List.append_nil]
theorem fQ{m n:Nat}(h:m<2^n):bF (m:Int)=(List.range n).filter fun k=>m.testBit k:=by
 unfold bF;have hb:=bits_le h;obtain⟨d,hd⟩:=Nat.exists_eq_add_of_le hb;have e:(fun k=>m.testBit k)=bit (m:Int):=funext fun k=>(ja m k).symm
 rw[e]
 conv=>rhs;rw[hd]
 exact(nU _ _ d fun k hk=>DX hk).symm
theorem qC{m n:Nat}(h:m<2^n){k:Nat}(hk:k∈bF (m:Int)):k<n:=by
 rw[fQ h]at hk;exact List.mem_range.mp (List.mem_filter.mp hk).1
theorem sum_filter(ts:List dF)(i:Nat)(f:Nat->Bool):∀ ks:List Nat,o6 ts (ks.filter f) i=(ks.map fun k=>if f k=true then FT ts k i else 0).sum
 | []=>rfl
 | k::r=>by
   have ih:=sum_filter ts i f r;rw[List.map_cons,List.sum_cons,<-ih];cases h:f k with
   | true =>
     rw[List.filter_cons,if_pos h];unfold o6;rw[List.map_cons,List.sum_cons];simp
   | false =>
     rw[List.filter_cons,if_neg (by rw[h];simp)]
     simp
theorem DY{a b x y:Nat}(q:x/2+2*(y/2)=a/2+b/2)(h:x%2+2*(y%2)=a%2+b%2):x+2*y=a+b:=by lia
theorem mod_one{u v:Nat}(hu:u=0\/u=1)(hv:v=0\/v=1):(u^^^v)+2*(u&&&v)=u+v:=by
 rcases hu with rfl|rfl<;>rcases hv with rfl|rfl<;>rfl
theorem GA:∀ a b:Nat,(a^^^b)+2*(a&&&b)=a+b:=by
 intro a
 induction a using Nat.strongRecOn with
 | ind a ih =>
   intro b
   by_cases h:a=0
   ·subst h;simp
   ·have q:=ih (a/2) (by lia) (b/2)
    rw[<-Nat.xor_div_two,<-Nat.and_div_two]at q;refine DY q ?_;have e1:(a^^^b)%2=a%2^^^b%2:=Nat.xor_mod_two_pow (n:=1);have e2:(a&&&b)%2=a%2&&&b%2:=Nat.and_mod_two_pow (n:=1);rw[e1,e2];exact mod_one (Nat.mod_two_eq_zero_or_one a) (Nat.mod_two_eq_zero_or_one b)
theorem xor_int(a b:Nat):Builtin.bitXor (a:Int) (b:Int)=((a^^^b:Nat):Int):=by
 have h:(a:Int)+b-2*((a&&&b:Nat):Int)=((a^^^b:Nat):Int):=by
  have q:=GA a b
  lia
 have e:=PyProof.Rows.bitXor_and (a:Int) (b:Int);rw[e,PyProof.Rows.bitAnd_pp (by lia) (by lia)]
 simpa using h
open PySem L2
def GB(t:dF):List V:=[.int t.1,.int t.2.1,.int t.2.2]
def TupAt(H:Hp)(x:V)(t:dF):Prop:=∃ b,x = .ref b/\H b=some (.tup (GB t))
structure bq(H:Hp)(w:Addr)(p:Nat)(ts:List dF):Prop where
 ex:∃ b xs,H w=some (.tup [.int (p:Int),.ref b])/\H b=some (.tup xs)/\Paired (TupAt H) xs ts
structure HQ(p:Nat)(ts:List dF):Prop where
 PJ:Ay p ts
 len:ts.length<=24
 PK:p<=10
theorem TupAt.tups{H H' : Hp}(s:jJ H H'){x:V}{t:dF}(h:TupAt H x t):TupAt H' x t:=by
 obtain⟨b,e,h⟩:=h;exact⟨b,e,s _ _ h⟩
theorem bq.tups{H H' : Hp}{w:Addr}{p:Nat}{ts:List dF}(s:jJ H H')(h:bq H w p ts):bq H' w p ts:=by
 obtain⟨b,xs,h1,h2,h3⟩:=h.ex;exact⟨b,xs,s _ _ h1,s _ _ h2,Paired.imp' (fun _ _ z=>z.tups s) h3⟩
theorem bq.same{H H' : Hp}{w:Addr}{p:Nat}{ts:List dF}(s:au H H')(h:bq H w p ts):bq H' w p ts:=h.tups s.tups
def aB(l:List Nat):List V:=l.map fun k=>V.int ((k:Nat):Int)
theorem bR(l:List Nat)(k:Nat):aB (l++[k])=aB l++[.int (k:Int)]:=by unfold aB;rw[List.map_append];rfl
theorem aD(l:List Nat):(aB l).length=l.length:=by unfold aB;rw[List.length_map]
theorem bM{l:List Nat}{i:Nat}{x:V}(h:(aB l)[i]?=some x):∃ k,l[i]?=some k/\x = .int (k:Int):=by
 unfold aB at h;rw[List.getElem?_map]at h;obtain⟨k,e,q⟩:=Ac.mp h;exact⟨k,e,q.symm⟩
theorem aX(f:Nat->Bool)(i:Nat):(List.range (i+1)).filter f=(List.range i).filter f++(if f i=true then[i] else[]):=by
 rw[List.range_succ,List.filter_append]
 congr 1
 cases h:f i with
 | true=>rw[List.filter_cons,if_pos h,if_pos rfl];rfl
 | false=>rw[List.filter_cons,if_neg (by rw[h];simp),if_neg (by simp)];rfl
def nV(f:Nat->Bool)(H:Hp)(D:Addr)(i:Nat)(acc:List V)(H2:Hp):Prop:=au H H2/\H2 D=some (.lst acc)/\acc=aB ((List.range i).filter f)
section
variable {f:Nat->Bool}{H H2 H3:Hp}{D:Addr}{i:Nat}{acc:List V}
theorem nV.start(hD:H D=none):nV f H D 0 [] (upd H D (.lst [])):=⟨au.new hD,af,rfl⟩
theorem nV.len(p:nV f H D i acc H2):H2 D=some (.lst acc)/\acc.length<=i:=by
 refine⟨p.2.1,?_⟩;rw[p.2.2,aD];exact Nat.le_trans (List.length_filter_le _ _) (by rw[List.length_range];exact Nat.le_refl _)
theorem nV.yes(p:nV f H D i acc H2)(hD:H D=none)(s:au H2 H3)(hf:f i=true):H3 D=some (.lst acc)/\nV f H D (i+1) (acc++[.int (i:Int)]) (upd H3 D (.lst (acc++[.int (i:Int)]))):=by
 refine⟨s _ _ p.2.1,(p.1.trans s).put hD,af,?_⟩;rw[aX,if_pos hf,bR,<-p.2.2]
theorem nV.no(p:nV f H D i acc H2)(s:au H2 H3)(hf:f i=false):nV f H D (i+1) acc H3:=by
 refine⟨p.1.trans s,s _ _ p.2.1,?_⟩;rw[aX,if_neg (by rw[hf];simp),List.append_nil]
 exact p.2.2
end
def cI(ts:List dF)(k:Nat):dF:=ts.getD k (0,0,0)
def stepT(e:List Int)(t:dF):List Int:=bump (bump e t.1) t.2.1
theorem um{ts:List dF}:∀(ks:List Nat) (e:List Int),(∀ k∈ks,k<ts.length)->(ks.map (cI ts)).foldl stepT e=ks.foldl (step ts) e
 | [],_,_=>rfl
 | k::r,e,h=>by
   rw[List.map_cons,List.foldl_cons,List.foldl_cons,um r _ fun j hj=>h j (lU _ hj)]
   have hk:=h k List.mem_cons_self;have e1:ts[k]?=some (cI ts k):=by
    unfold cI;rw[List.getD_eq_getElem?_getD];simp[hk]
   have e2:step ts e k=stepT e (cI ts k):=by
    unfold step stepT;rw[e1]
   rw[e2]
theorem uo{p:Nat}{ts:List dF}{m:Nat}(h:m<2^ts.length):jw p ts (m:Int)=((bF (m:Int)).map (cI ts)).foldl stepT (List.replicate p 0):=by
 unfold jw;rw[um _ _ fun k hk=>qC h hk]
theorem BD(e:List Int)(t:dF):(stepT e t).length=e.length:=by unfold stepT;rw[jK,jK]
theorem o7:∀(l:List dF) (e:List Int),(l.foldl stepT e).length=e.length
 | [],_=>rfl
 | t::r,e=>by rw[List.foldl_cons,o7 r,BD]
def k9(l:List Int):List V:=l.map V.int
theorem o8{l:List Int}{i:Nat}(h:i<l.length):(k9 l)[i]?=some (.int (l.getD i 0)):=by
 unfold k9;rw[List.getElem?_map,List.getD_eq_getElem?_getD];simp[h]
theorem rq(l:List Int)(i:Nat):(k9 l).set i (.int (l.getD i 0+1))=k9 (bump l (i:Int)):=by
 unfold k9 bump;rw[Int.toNat_natCast,List.map_set]
theorem DZ(p:Nat):(List.replicate p [V.int 0]).flatten=k9 (List.replicate p 0):=by
 induction p with
 | zero=>rfl
 | succ p ih=>rw[List.replicate_succ,List.flatten_cons,ih,List.replicate_succ];rfl
theorem qD{n j:Nat}(h:j<n):Gj n (j:Int)=some j:=by
 unfold Gj;rw[if_pos (by lia),if_pos (by lia),Int.toNat_natCast]
def u9(k:Nat):PyData:=.int (k:Int)
theorem rz{K:bO}{H:Hp}:∀ l:List Nat,DatVs K H (aB l) (l.map u9)
 | []=>.nil
 | _::r=>.cons (.int _) (rz r)
theorem wV:∀ l:List Nat,PyData.canLayAll0 (l.map u9)=true
 | []=>rfl
 | _::r=>by
   have ih:=wV r;simp only[List.map_cons,PyData.canLayAll0,ih,Bool.and_true];rfl
theorem uq:∀ l:List Nat,PyData.depthAll (l.map u9)=0
 | []=>rfl
 | _::r=>by
   have ih:=uq r;show max (PyData.depth (PyData.int _)) (PyData.depthAll (r.map _))=0;rw[ih];rfl
theorem p5(l:List Nat):SeqAt.shaped (.list (l.map u9))=true:=by
 unfold SeqAt.shaped;have e:(PyData.list (l.map u9)).canLay0=PyData.canLayAll0 (l.map u9):=by simp[PyData.canLay0]
 rw[e,wV,Bool.true_and];refine cU ?_;have e2:PyData.depth (PyData.list (l.map u9))=PyData.depthAll (l.map u9)+1:=by simp[PyData.depth]
 rw[e2,uq]
 decide
theorem Az(l:List Nat):PyData.eqv (.list (l.map u9)) (.list [])=decide (l=[]):=by
 cases l with
 | nil=>rfl
 | cons a r=>rfl
theorem Jm(S:Int)(k:Nat):decide (V.int (Builtin.bitAnd (S/2^k) 1)=V.int 1)=bit S k:=by
 unfold bit;rw[PyProof.Rows.bitAnd_m1];rw[Bool.eq_iff_iff];simp
theorem yM(S:Int)(k:Nat):decide (V.int (S/2^k%2)=V.int 1)=bit S k:=by
 unfold bit;rw[Bool.eq_iff_iff];simp
theorem GC(x:Int):decide (V.int x=V.int 1)=decide (x=1):=by
 rw[Bool.eq_iff_iff];simp
structure nW(p:Int)(t:dF):Prop where
 a0:0<=t.1
 a1:t.1<p
 b0:0<=t.2.1
 b1:t.2.1<p
 ne:t.1≠t.2.1
 l0:1<=t.2.2
 l1:t.2.2<=1000000000000000000000000000000
structure aA(p:Nat)(ts:List dF):Prop where
 p1:1<=p
 p2:p<=10
 len:ts.length<=24
 BE:∀ t∈ts,nW (p:Int) t
theorem aA.C5{p:Nat}{ts:List dF}(g:aA p ts):HQ p ts:=⟨⟨fun t ht=>let z:=g.BE t ht;⟨z.a0,z.a1,z.b0,z.b1⟩⟩,g.len,g.p2⟩
def qg(p:Int)(H:Hp)(D:Addr)(n:Nat)(H2:Hp):Prop:=au H H2/\∃ acc ts,H2 D=some (.lst acc)/\Paired (TupAt H2) acc ts/\acc.length=n/\∀ t∈ts,nW p t
section
variable {p:Int}{H H2 H3:Hp}{D b:Addr}{n:Nat}{t:dF}
theorem qg.start(hD:H D=none):qg p H D 0 (upd H D (.lst [])):=⟨au.new hD,[],[],af,.nil,rfl,fun t ht=>nomatch ht⟩
theorem qg.push(h:qg p H D n H2)(hD:H D=none)(s:au H2 H3)(g:nW p t)(hb:H3 b=some (.tup (GB t))):
 ∃ acc,H3 D=some (.lst acc)/\acc.length=n/\qg p H D (n+1) (upd H3 D (.lst (acc++[.ref b]))):=by
 obtain⟨s2,acc,ts,hd,pr,hn,gt⟩:=h;have HR:H3 D=some (.lst acc):=s _ _ hd;refine⟨acc,HR,hn,(s2.trans s).put hD,acc++[.ref b],ts++[t],af,?_,by rw[List.length_append,List.length_singleton,hn],fun u hu=>?_⟩
 ·exact Paired.snoc (Paired.imp' (fun _ _ z=>z.tups (s.tups.trans (jJ.put HR))) pr) ⟨b,rfl,jJ.put HR _ _ hb⟩
 ·rcases List.mem_append.mp hu with hu|hu
  ·exact gt u hu
  ·cases List.mem_singleton.mp hu;exact g
theorem qg.fin{q:Nat}(h:qg (q:Int) H D n H2):∃ acc ts,H2 D=some (.lst acc)/\ts.length=n/\(∀ t∈ts,nW (q:Int) t)/\∀ l,H2 l=none->∀ w,upd H2 l (.tup acc) w=none->
 au H (upd (upd H2 l (.tup acc)) w (.tup [.int (q:Int),.ref l]))/\bq (upd (upd H2 l (.tup acc)) w (.tup [.int (q:Int),.ref l])) w q ts:=by
 obtain⟨s2,acc,ts,hd,pr,hn,gt⟩:=h;refine⟨acc,ts,hd,by rw[<-pr.length,hn],gt,fun l hl w hw=>?_⟩
 have n1:au H2 (upd H2 l (.tup acc)):=au.new hl;have n2:=n1.trans (au.new (o:=.tup [.int (q:Int),.ref l]) hw);refine⟨s2.trans n2,l,acc,af,?_,Paired.imp' (fun _ _ z=>z.tups n2.tups) pr⟩
 rw[av (bf af hw),af]
end
theorem D0{p o r:Int}(h:0<=o)(h1:o<p)(r0:0<=r)(r1:r<p-1):0<=(o+1+r)%p/\(o+1+r)%p<p/\o≠(o+1+r)%p:=by
 have hp:0<p:=by lia
 refine⟨Int.emod_nonneg _ (by lia),Int.emod_lt_of_pos _ hp,?_⟩
 by_cases hlt:o+1+r<p
 ·rw[Int.emod_eq_of_lt (by lia) hlt]
  lia
 ·have e:(o+1+r)%p=o+1+r-p:=by
   rw[<-Int.sub_emod_right,Int.emod_eq_of_lt (by lia) (by lia)]
  rw[e]
  lia
theorem dP{n:Nat}(h:n<=24):n<=sizeLine:=Nat.le_of_lt (jH (by lia))
theorem cK{n:Nat}(h:n<=900):n<sizeLine:=jH (by lia)
theorem GD{ns:List Int}{k:Nat}(h:k<ns.length):(ns.map V.int)[k]?=some (.int (ns.getD k 0)):=by
 rw[List.getElem?_map,List.getD_eq_getElem?_getD];simp[h]
theorem mK(x m:Int)(h:0<m):0<=x%m/\x%m<m:=⟨Int.emod_nonneg _ (by lia),Int.emod_lt_of_pos _ h⟩
end Ring
namespace RM
def bJ(f:Nat->Bool):Nat->Bool
 | 0=>false
 | n+1=>bJ f n^^f n
theorem bS{f g:Nat->Bool}:∀{n:Nat},(∀ k,k<n->f k=g k)->bJ f n=bJ g n
 | 0,_=>rfl
 | n+1,h=>by
   unfold bJ;rw[bS fun k hk=>h k (by lia),h n (by lia)]
theorem iS(f g:Nat->Bool):∀ n,bJ (fun k=>f k^^g k) n=(bJ f n^^bJ g n)
 | 0=>rfl
 | n+1=>by
   unfold bJ;rw[iS f g n];cases bJ f n<;>cases bJ g n<;>cases f n<;>cases g n<;>rfl
theorem mX:∀ n,bJ (fun _=>false) n=false
 | 0=>rfl
 | n+1=>by unfold bJ;rw[mX n];rfl
theorem nX(c:Bool)(f:Nat->Bool):∀ n,bJ (fun k=>c&&f k) n=(c&&bJ f n)
 | 0=>by cases c<;>rfl
 | n+1=>by
   unfold bJ;rw[nX c f n];cases c<;>simp
theorem ur(f:Nat->Nat->Bool)(n:Nat):∀ m,bJ (fun x=>bJ (fun k=>f x k) n) m=bJ (fun k=>bJ (fun x=>f x k) m) n
 | 0=>by
   show false=_;rw[<-mX n];rfl
 | m+1=>by
   show(bJ (fun x=>bJ (fun k=>f x k) n) m^^bJ (fun k=>f m k) n)=_
   rw[ur f n m,<-iS];rfl
theorem iG{f:Nat->Bool}{n:Nat}(h:∀ k,k<n->f k=false):bJ f n=false:=by
 rw[bS (g:=fun _=>false) h,mX]
theorem rA{f:Nat->Bool}{a:Nat}:∀{n:Nat},a<n->(∀ k,k<n->k≠a->f k=false)->bJ f n=f a
 | 0,h,_=>absurd h (Nat.not_lt_zero _)
 | n+1,h,z=>by
   unfold bJ
   by_cases e:a=n
   ·subst e;rw[iG fun k hk=>z k (by lia) (by lia)]
    simp
   ·rw[rA (a:=a) (by lia) fun k hk hn=>z k (by lia) hn,z n (by lia) (fun q=>e q.symm)]
    simp
theorem iT(C:Nat->Bool){a m:Nat}(h:a<m):bJ (fun x=>C x&&decide (a=x)) m=C a:=by
 rw[rA h fun k _ hk=>by simp[Ne.symm hk]]
 simp
structure Net where
 p:Nat
 n:Nat
 a:Nat->Nat
 b:Nat->Nat
 al:∀ k,k<n->a k<p
 bl:∀ k,k<n->b k<p
 ne:∀ k,k<n->a k≠b k
variable (N:Net)
def Net.inc(k x:Nat):Bool:=decide (N.a k=x)^^decide (N.b k=x)
def Net.bd(m x:Nat):Bool:=bJ (fun k=>m.testBit k&&N.inc k x) N.n
def Net.ek(m:Nat):Prop:=∀ x,x<N.p->N.bd m x=false
variable {N}
theorem g9(m q x:Nat):N.bd (m^^^q) x=(N.bd m x^^N.bd q x):=by
 unfold Net.bd;rw[<-iS];refine bS fun k _=>?_
 rw[Nat.testBit_xor];cases m.testBit k<;>cases q.testBit k<;>cases N.inc k x<;>rfl
theorem vc(x:Nat):N.bd 0 x=false:=by
 unfold Net.bd;exact iG fun k _=>by simp
theorem mY{k:Nat}(h:k<N.n)(x:Nat):N.bd (2^k) x=N.inc k x:=by
 unfold Net.bd;rw[rA h fun j _ hj=>by simp[Nat.testBit_two_pow,Ne.symm hj]]
 simp[Nat.testBit_two_pow]
theorem ek.xor{m q:Nat}(h:N.ek m)(h' : N.ek q):N.ek (m^^^q):=fun x hx=>by rw[g9,h x hx,h' x hx];rfl
theorem ek.zero:N.ek 0:=fun x _=>vc x
theorem D3{m:Nat}(C:Nat->Bool)(h:∀ k,k<N.n->m.testBit k=true->C (N.a k)=C (N.b k)):bJ (fun x=>C x&&N.bd m x) N.p=false:=by
 have e:bJ (fun x=>C x&&N.bd m x) N.p=bJ (fun x=>bJ (fun k=>C x&&(m.testBit k&&N.inc k x)) N.n) N.p :=
  bS fun x _=>(nX (C x) _ N.n).symm
 rw[e,ur];refine iG fun k hk=>?_
 have e2:bJ (fun x=>C x&&(m.testBit k&&N.inc k x)) N.p=(m.testBit k&&(C (N.a k)^^C (N.b k))):=by
  rw[<-iT C (N.al k hk),<-iT C (N.bl k hk),<-iS,<-nX];refine bS fun x _=>?_
  unfold Net.inc;cases C x<;>cases m.testBit k<;>cases decide (N.a k=x)<;>cases decide (N.b k=x)<;>rfl
 rw[e2];cases hb:m.testBit k with
 | false=>rfl
 | true=>rw[h k hk hb];simp
def join(L:Nat->Nat)(u v:Nat):Nat->Nat:=fun x=>if L x=max (L u) (L v) then min (L u) (L v) else L x
theorem join_eq{L:Nat->Nat}{u v x y:Nat}(h:L x=L y):join L u v x=join L u v y:=by unfold join;rw[h]
theorem uv(L:Nat->Nat)(u v:Nat):join L u v u=join L u v v:=by
 unfold join
 split<;>split<;>lia
theorem uw{L:Nat->Nat}{u v:Nat}(h:L u=L v):join L u v=L:=by
 funext x
 unfold join;rw[h]
 split<;>lia
theorem rB{L:Nat->Nat}{u v x y:Nat}(h:join L u v x=join L u v y):L x=L y\/(L x=L u/\L y=L v)\/(L x=L v/\L y=L u):=by
 unfold join at h;have mm:(max (L u) (L v)=L u/\min (L u) (L v)=L v)\/(max (L u) (L v)=L v/\min (L u) (L v)=L u):=by
  rcases Nat.le_total (L u) (L v) with q|q
  ·exact .inr ⟨Nat.max_eq_right q,Nat.min_eq_left q⟩
  ·exact .inl ⟨Nat.max_eq_left q,Nat.min_eq_right q⟩
 rcases mm with⟨e1,e2⟩|⟨e1,e2⟩
 ·rw[e1,e2]at h
  split at h
  ·rename_i hx
   split at h
   ·rename_i hy
    exact .inl (hx.trans hy.symm)
   ·exact .inr (.inl ⟨hx,h.symm⟩)
  ·split at h
   ·rename_i hy
    exact .inr (.inr ⟨h,hy⟩)
   ·exact .inl h
 ·rw[e1,e2]at h
  split at h
  ·rename_i hx
   split at h
   ·rename_i hy
    exact .inl (hx.trans hy.symm)
   ·exact .inr (.inr ⟨hx,h.symm⟩)
  ·split at h
   ·rename_i hy
    exact .inr (.inl ⟨h,hy⟩)
   ·exact .inl h
theorem join_le{L:Nat->Nat}{u v x:Nat}(h:L x<=x):join L u v x<=x:=by
 unfold join
 split<;>lia
theorem BF{L:Nat->Nat}{u v:Nat}(h:∀ x,L (L x)=L x)(x:Nat):join L u v (join L u v x)=join L u v x:=by
 have hu:=h u;have hv:=h v;have hx:=h x;have hlo:L (min (L u) (L v))=min (L u) (L v):=by
  rcases Nat.le_total (L u) (L v) with q|q
  ·rw[Nat.min_eq_left q];exact hu
  ·rw[Nat.min_eq_right q];exact hv
 unfold join
 split
 ·rw[hlo]
  split<;>lia
 ·rw[hx]
  split<;>lia
def Net.aN(N:Net)(S:Nat->Bool):Nat->Nat->Nat
 | 0=>fun x=>x
 | k+1=>if S k=true then join (Net.aN N S k) (N.a k) (N.b k) else Net.aN N S k
variable {S:Nat->Bool}
theorem nY:∀(k x:Nat),N.aN S k x<=x
 | 0,_=>Nat.le_refl _
 | k+1,x=>by
   unfold Net.aN
   split
   ·exact join_le (nY k x)
   ·exact nY k x
theorem bT:∀(k x:Nat),N.aN S k (N.aN S k x)=N.aN S k x
 | 0,_=>rfl
 | k+1,x=>by
   by_cases hs:S k=true
   ·have e:N.aN S (k+1)=join (N.aN S k) (N.a k) (N.b k):=by
     conv=>lhs;unfold Net.aN
     rw[if_pos hs]
    rw[e];exact BF (bT k) x
   ·have e:N.aN S (k+1)=N.aN S k:=by
     conv=>lhs;unfold Net.aN
     rw[if_neg hs]
    rw[e];exact bT k x
theorem ux{x y k:Nat}(h:N.aN S k x=N.aN S k y):∀ d,N.aN S (k+d) x=N.aN S (k+d) y
 | 0=>h
 | d+1=>by
   have ih:=ux h d;show N.aN S (k+d+1) x=N.aN S (k+d+1) y;unfold Net.aN
   split
   ·exact join_eq ih
   ·exact ih
theorem gZ{j k:Nat}(h:j<k)(hs:S j=true):N.aN S k (N.a j)=N.aN S k (N.b j):=by
 obtain⟨d,rfl⟩:=Nat.exists_eq_add_of_le (Nat.succ_le_of_lt h);refine ux ?_ d;show N.aN S (j+1) (N.a j)=N.aN S (j+1) (N.b j);unfold Net.aN;rw[if_pos hs];exact uv _ _ _
inductive Net.kU(N:Net)(S:Nat->Bool)(k u:Nat):Nat->Prop
 | refl:Net.kU N S k u u
 | fwd {j:Nat} (h:Net.kU N S k u (N.a j)) (hj:j<k) (hs:S j=true):Net.kU N S k u (N.b j)
 | bwd {j:Nat} (h:Net.kU N S k u (N.b j)) (hj:j<k) (hs:S j=true):Net.kU N S k u (N.a j)
theorem Net.kU.trans{k u v w:Nat}(h:N.kU S k u v)(h' : N.kU S k v w):N.kU S k u w:=by
 induction h' with
 | refl=>exact h
 | fwd _ hj hs ih=>exact .fwd ih hj hs
 | bwd _ hj hs ih=>exact .bwd ih hj hs
theorem Net.kU.mono{k l u v:Nat}(h:N.kU S k u v)(oV:k<=l):N.kU S l u v:=by
 induction h with
 | refl=>exact .refl
 | fwd _ hj hs ih=>exact .fwd ih (by lia) hs
 | bwd _ hj hs ih=>exact .bwd ih (by lia) hs
theorem bC:∀(k u v:Nat),N.aN S k u=N.aN S k v->N.kU S k u v
 | 0,u,v,h=>by
   have e:u=v:=h;subst e;exact .refl
 | k+1,u,v,h=>by
   unfold Net.aN at h
   split at h
   ·rename_i hs
    rcases rB h with q|⟨q1,q2⟩|⟨q1,q2⟩
    ·exact(bC k u v q).mono (by lia)
    ·have c1:=(bC k u _ q1).mono (Nat.le_succ k);have c2:=(bC k _ v q2.symm).mono (Nat.le_succ k);exact Net.kU.trans (.fwd c1 (by lia) hs) c2
    ·have c1:=(bC k u _ q1).mono (Nat.le_succ k);have c2:=(bC k _ v q2.symm).mono (Nat.le_succ k);exact Net.kU.trans (.bwd c1 (by lia) hs) c2
   ·exact(bC k u v h).mono (by lia)
def Net.dZ(N:Net)(k:Nat):Nat->Nat:=N.aN (fun _=>true) k
def Net.kW(N:Net)(k:Nat):Bool:=!decide (N.dZ k (N.a k)=N.dZ k (N.b k))
theorem wW(k:Nat):N.dZ (k+1)=if N.kW k=true then join (N.dZ k) (N.a k) (N.b k) else N.dZ k:=by
 show N.aN (fun _=>true) (k+1)=_
 unfold Net.aN;rw[if_pos rfl];unfold Net.kW
 by_cases h:N.dZ k (N.a k)=N.dZ k (N.b k)
 ·rw[if_neg (by simp[h])]
  exact uw h
 ·rw[if_pos (by simp[h])]
  rfl
theorem j9{m:Nat}(hf:∀ k,m.testBit k=true->k<N.n/\N.kW k=true)(he:N.ek m):m=0:=by
 by_cases h0:m=0
 ·exact h0
 exfalso
 have hK:m.testBit m.log2=true:=Nat.testBit_log2 h0;obtain⟨MZ,M0⟩:=hf _ hK;generalize Si:m.log2=K at hK MZ M0;have hlt:m<2^(K+1):=by rw[<-Si];exact Nat.lt_log2_self
 have hcl:=D3 (N:=N) (m:=m^^^2^K) (fun x=>decide (N.dZ K x=N.dZ K (N.a K))) fun k hk hb=>by
  have Sj:k<K:=by
   rw[Nat.testBit_xor,Nat.testBit_two_pow]at hb
   by_cases e:K=k
   ·subst e;simp[hK]at hb
   ·have hb' : m.testBit k=true:=by simpa[e]using hb
    have:k<K+1:=by
     by_cases q:k<K+1
     ·exact q
     ·have z:=Nat.testBit_lt_two_pow (Nat.lt_of_lt_of_le hlt (Nat.pow_le_pow_right (by decide) (show K+1<=k by lia)))
      rw[hb']at z;cases z
    lia
  have e:N.dZ K (N.a k)=N.dZ K (N.b k):=gZ (S:=fun _=>true) Sj rfl
  show decide (N.dZ K (N.a k)=_)=decide (N.dZ K (N.b k)=_);rw[e]
 have e:bJ (fun x=>decide (N.dZ K x=N.dZ K (N.a K))&&N.bd (m^^^2^K) x) N.p=bJ (fun x=>decide (N.dZ K x=N.dZ K (N.a K))&&N.inc K x) N.p :=
  bS fun x hx=>by rw[g9,he x hx,mY MZ];simp
 rw[e]at hcl;have e2:bJ (fun x=>decide (N.dZ K x=N.dZ K (N.a K))&&N.inc K x) N.p=(decide (N.dZ K (N.a K)=N.dZ K (N.a K))^^decide (N.dZ K (N.b K)=N.dZ K (N.a K))):=by
  rw[<-iT (fun x=>decide (N.dZ K x=N.dZ K (N.a K))) (N.al K MZ),<-iT (fun x=>decide (N.dZ K x=N.dZ K (N.a K))) (N.bl K MZ),<-iS]
  refine bS fun x _=>?_
  unfold Net.inc;cases decide (N.dZ K x=N.dZ K (N.a K))<;>cases decide (N.a K=x)<;>cases decide (N.b K=x)<;>rfl
 rw[e2]at hcl;unfold Net.kW at M0;have hne : ¬ N.dZ K (N.b K)=N.dZ K (N.a K):=fun q=>by rw[q]at M0;simp at M0
 simp[hne]at hcl
def Net.trail(N:Net):Nat->Nat->Nat
 | 0=>fun _=>0
 | k+1=>if N.kW k=true then fun v=>if N.dZ k v=max (N.dZ k (N.a k)) (N.dZ k (N.b k)) then Net.trail N k v^^^(Net.trail N k (N.a k)^^^Net.trail N k (N.b k)^^^2^k) else Net.trail N k v
   else Net.trail N k
theorem dw:∀(k v j:Nat),(N.trail k v).testBit j=true->j<k/\N.kW j=true
 | 0,v,j,h=>by simp[Net.trail]at h
 | k+1,v,j,h=>by
   have ih:=dw k;unfold Net.trail at h
   split at h
   ·rename_i hf
    dsimp only at h
    split at h
    ·rw[Nat.testBit_xor,Nat.testBit_xor,Nat.testBit_xor,Nat.testBit_two_pow]at h
     by_cases e:k=j
     ·subst e;exact⟨by lia,hf⟩
     ·have z : ¬((N.trail k v).testBit j=false/\(N.trail k (N.a k)).testBit j=false/\(N.trail k (N.b k)).testBit j=false):=by
       rintro⟨z1,z2,z3⟩;simp[z1,z2,z3,e]at h
      cases h1:(N.trail k v).testBit j with
      | true=>obtain⟨q,r⟩:=ih v j h1;exact⟨by lia,r⟩
      | false=>cases h2:(N.trail k (N.a k)).testBit j with
        | true=>obtain⟨q,r⟩:=ih _ j h2;exact⟨by lia,r⟩
        | false=>cases h3:(N.trail k (N.b k)).testBit j with
          | true=>obtain⟨q,r⟩:=ih _ j h3;exact⟨by lia,r⟩
          | false=>exact absurd ⟨h1,h2,h3⟩ z
    ·obtain⟨q,r⟩:=ih v j h;exact⟨by lia,r⟩
   ·obtain⟨q,r⟩:=ih v j h;exact⟨by lia,r⟩
theorem D5(a b c d e f g h:Bool)(Sk:(d^^f)=(g^^h)):((a^^g)^^(((c^^d)^^(e^^f))^^(c^^e)))=(a^^h):=by
 have e1:(((c^^d)^^(e^^f))^^(c^^e))=(d^^f):=by cases c<;>cases d<;>cases e<;>cases f<;>rfl
 rw[e1,Sk];cases a<;>cases g<;>cases h<;>rfl
theorem lg:∀(k:Nat),k<=N.n->∀ v x,N.bd (N.trail k v) x=(decide (v=x)^^decide (N.dZ k v=x))
 | 0,_,v,x=>by
   show N.bd 0 x=(decide (v=x)^^decide (v=x));rw[vc];simp
 | k+1,hk,v,x=>by
   have ih:=lg k (by lia)
   rw[wW];unfold Net.trail
   by_cases hf:N.kW k=true
   ·rw[if_pos hf,if_pos hf]
    by_cases hm:N.dZ k v=max (N.dZ k (N.a k)) (N.dZ k (N.b k))
    ·have e:join (N.dZ k) (N.a k) (N.b k) v=min (N.dZ k (N.a k)) (N.dZ k (N.b k)):=by unfold join;rw[if_pos hm]
     show N.bd (if N.dZ k v=_ then _ else _) x=_
     rw[if_pos hm,e,g9,g9,g9,mY (by lia),ih,ih,ih]
     unfold Net.inc;refine D5 _ false _ _ _ _ _ _ ?_;rw[hm];rcases Nat.le_total (N.dZ k (N.a k)) (N.dZ k (N.b k)) with q|q
     ·rw[Nat.max_eq_right q,Nat.min_eq_left q,Bool.xor_comm]
     ·rw[Nat.max_eq_left q,Nat.min_eq_right q]
    ·have e:join (N.dZ k) (N.a k) (N.b k) v=N.dZ k v:=by unfold join;rw[if_neg hm]
     show N.bd (if N.dZ k v=_ then _ else _) x=_
     rw[if_neg hm,e,ih]
   ·rw[if_neg hf,if_neg hf];exact ih v x
def Net.ring(N:Net)(c:Nat):Nat:=N.trail N.n (N.a c)^^^N.trail N.n (N.b c)^^^2^c
theorem D6{c:Nat}(h:c<N.n):N.dZ N.n (N.a c)=N.dZ N.n (N.b c):=gZ (S:=fun _=>true) h rfl
theorem jL{c:Nat}(h:c<N.n):N.ek (N.ring c):=fun x _=>by
 unfold Net.ring;rw[g9,g9,mY h,lg _ (Nat.le_refl _),lg _ (Nat.le_refl _),D6 h];unfold Net.inc;cases decide (N.a c=x)<;>cases decide (N.b c=x)<;>cases decide (N.dZ N.n (N.b c)=x)<;>rfl
theorem lj{c j:Nat}(h:(N.ring c).testBit j=true):j=c\/(j<N.n/\N.kW j=true):=by
 unfold Net.ring at h;rw[Nat.testBit_xor,Nat.testBit_xor,Nat.testBit_two_pow]at h
 by_cases e:c=j
 ·exact .inl e.symm
 ·right
  cases h1:(N.trail N.n (N.a c)).testBit j with
  | true=>exact dw _ _ _ h1
  | false=>cases h2:(N.trail N.n (N.b c)).testBit j with
    | true=>exact dw _ _ _ h2
    | false=>simp[h1,h2,e]at h
theorem rC{c:Nat}(hf:N.kW c=false):(N.ring c).testBit c=true:=by
 unfold Net.ring;rw[Nat.testBit_xor,Nat.testBit_xor,Nat.testBit_two_pow];cases h1:(N.trail N.n (N.a c)).testBit c with
 | true=>obtain⟨_,q⟩:=dw _ _ _ h1;rw[hf]at q;cases q
 | false=>cases h2:(N.trail N.n (N.b c)).testBit c with
   | true=>obtain⟨_,q⟩:=dw _ _ _ h2;rw[hf]at q;cases q
   | false=>simp
theorem BG{j:Nat}(h:j<N.n)(hf:N.kW j=true):(N.trail N.n (N.a j)).testBit j=true\/(N.trail N.n (N.b j)).testBit j=true:=by
 have z:N.ring j=0:=j9 (fun k hk=>by
  rcases lj hk with rfl|q
  ·exact⟨h,hf⟩
  ·exact q) (jL h)
 have b:(N.ring j).testBit j=false:=by rw[z];simp
 unfold Net.ring at b;rw[Nat.testBit_xor,Nat.testBit_xor,Nat.testBit_two_pow]at b;cases h1:(N.trail N.n (N.a j)).testBit j with
 | true=>exact .inl rfl
 | false=>cases h2:(N.trail N.n (N.b j)).testBit j with
   | true=>exact .inr rfl
   | false=>simp[h1,h2]at b
def cnt(f:Nat->Bool):Nat->Nat
 | 0=>0
 | n+1=>cnt f n+(if f n=true then 1 else 0)
theorem eG{f g:Nat->Bool}:∀{n:Nat},(∀ k,k<n->f k=g k)->cnt f n=cnt g n
 | 0,_=>rfl
 | n+1,h=>by
   unfold cnt;rw[eG fun k hk=>h k (by lia),h n (by lia)]
theorem wX{f g:Nat->Bool}{h:Nat}(hg:g h=true):∀{p:Nat},h<p->(∀ x,x<p->f x=(g x && !decide (x=h)))->cnt g p=cnt f p+1
 | 0,hh,_=>absurd hh (Nat.not_lt_zero _)
 | p+1,hh,e=>by
   unfold cnt
   by_cases q:h=p
   ·subst q;have z:cnt g h=cnt f h:=eG fun k hk=>by rw[e k (by lia)];simp[show k≠h by lia]
    rw[z,if_pos hg,e h (by lia)]
    simp
   ·rw[wX hg (by lia) fun x hx=>e x (by lia),e p (by lia)]
    simp[Ne.symm q]
    lia
theorem gz(f:Nat->Bool):∀ n,((List.range n).filter f).length=cnt f n
 | 0=>rfl
 | n+1=>by
   rw[List.range_succ,List.filter_append,List.length_append,gz f n];show _=cnt f n+(if f n=true then 1 else 0)
   cases h:f n with
   | true=>rw[List.filter_cons,if_pos h];rfl
   | false=>rw[List.filter_cons,if_neg (by rw[h];simp)];rfl
theorem jc(f:Nat->Bool):∀ n,cnt f n+cnt (fun k=>!f k) n=n
 | 0=>rfl
 | n+1=>by
   have ih:=jc f n;unfold cnt;cases h:f n<;>simp<;>lia
theorem vd{f:Nat->Bool}:∀{n:Nat},(∀ k,k<n->f k=true)->cnt f n=n
 | 0,_=>rfl
 | n+1,h=>by
   unfold cnt;rw[vd fun k hk=>h k (by lia),if_pos (h n (by lia))]
variable {N:Net}{S:Nat->Bool}
def Net.root(N:Net)(S:Nat->Bool)(k x:Nat):Bool:=decide (N.aN S k x=x)
theorem fE(k:Nat):N.aN S (k+1)=if S k=true then join (N.aN S k) (N.a k) (N.b k) else N.aN S k:=by
 conv=>lhs;unfold Net.aN
theorem jd{k x:Nat}(h:x<N.p):N.aN S k x<N.p:=Nat.lt_of_le_of_lt (nY k x) h
theorem BH{L:Nat->Nat}{u v:Nat}(hr:∀ x,L (L x)=L x)(hne:L u≠L v)(x:Nat):decide (join L u v x=x)=(decide (L x=x) && !decide (x=max (L u) (L v))):=by
 have hhi:L (max (L u) (L v))=max (L u) (L v):=by
  rcases Nat.le_total (L u) (L v) with q|q
  ·rw[Nat.max_eq_right q];exact hr v
  ·rw[Nat.max_eq_left q];exact hr u
 have hlo:L (min (L u) (L v))=min (L u) (L v):=by
  rcases Nat.le_total (L u) (L v) with q|q
  ·rw[Nat.min_eq_left q];exact hr u
  ·rw[Nat.min_eq_right q];exact hr v
 unfold join
 by_cases h:L x=max (L u) (L v)
 ·rw[if_pos h];have h1 : ¬ min (L u) (L v)=x:=fun z=>by
   rw[<-z,hlo]at h
   lia
  by_cases h2:x=max (L u) (L v)
  ·simp[h1,h2]
   lia
  ·have h3 : ¬ L x=x:=fun z=>h2 (z.symm.trans h)
   simp[h1,h3]
 ·rw[if_neg h];have h2 : ¬ x=max (L u) (L v):=fun z=>h (by rw[z];exact hhi)
  simp[h2]
theorem rD{k:Nat}(hk:k<N.n):cnt (N.root S k) N.p=cnt (N.root S (k+1)) N.p+(if(S k && !decide (N.aN S k (N.a k)=N.aN S k (N.b k)))=true then 1 else 0):=by
 cases hs:S k with
 | false =>
   have e:N.root S (k+1)=N.root S k:=by unfold Net.root;rw[fE,if_neg (by rw[hs];simp)]
   rw[e];simp
 | true =>
   by_cases h:N.aN S k (N.a k)=N.aN S k (N.b k)
   ·have e:N.root S (k+1)=N.root S k:=by unfold Net.root;rw[fE,if_pos hs,uw h]
    rw[e];simp[h]
   ·have hhi:N.aN S k (max (N.aN S k (N.a k)) (N.aN S k (N.b k)))=max (N.aN S k (N.a k)) (N.aN S k (N.b k)):=by
     rcases Nat.le_total (N.aN S k (N.a k)) (N.aN S k (N.b k)) with q|q
     ·rw[Nat.max_eq_right q];exact bT _ _
     ·rw[Nat.max_eq_left q];exact bT _ _
    have h1:=jd (S:=S) (k:=k) (N.al k hk);have h2:=jd (S:=S) (k:=k) (N.bl k hk);rw[wX (f:=N.root S (k+1)) (g:=N.root S k) (h:=max (N.aN S k (N.a k)) (N.aN S k (N.b k))) (cU hhi) (by lia) fun x _=>by
     unfold Net.root;rw[fE,if_pos hs];exact BH (bT k) h x]
    simp[h]
theorem nZ:∀ k,k<=N.n->cnt (N.root (fun _=>true) k) N.p+cnt N.kW k=N.p
 | 0,_=>by
   show cnt (N.root (fun _=>true) 0) N.p+0=N.p
   rw[vd (f:=N.root (fun _=>true) 0) fun x _=>cU rfl]
   rfl
 | k+1,hk=>by
   have ih:=nZ k (by lia)
   have st:=rD (N:=N) (S:=fun _=>true) (k:=k) (by lia)
   have e:((fun _=>true:Nat->Bool) k && !decide (N.aN (fun _=>true) k (N.a k)=N.aN (fun _=>true) k (N.b k)))=N.kW k:=by rw[Bool.true_and];rfl
   rw[e]at st;show cnt (N.root (fun _=>true) (k+1)) N.p+(cnt N.kW k+if N.kW k=true then 1 else 0)=N.p
   lia
theorem wY:(N.n:Int)-N.p+cnt (N.root (fun _=>true) N.n) N.p=(cnt (fun k=>!N.kW k) N.n:Nat):=by
 have h:=nZ (N:=N) N.n (Nat.le_refl _);have h2:=jc N.kW N.n
 lia
def Net.az(N:Net):List Nat:=(List.range N.n).filter fun k=>!N.kW k
theorem cS{c:Nat}:c∈N.az↔c<N.n/\N.kW c=false:=by
 unfold Net.az;rw[List.mem_filter,List.mem_range];simp
theorem yN:N.az.length=cnt (fun k=>!N.kW k) N.n:=gz _ _
theorem gA{m n:Nat}(h:∀ k,m.testBit k=true->k<n):m<2^n:=Nat.lt_pow_two_of_testBit m fun k hk=>by
 cases q:m.testBit k with
 | false=>rfl
 | true=>exact absurd (h k q) (by lia)
theorem cV{m n k:Nat}(h:m<2^n)(hb:m.testBit k=true):k<n:=by
 by_cases q:k<n
 ·exact q
 ·have z:=Nat.testBit_lt_two_pow (Nat.lt_of_lt_of_le h (Nat.pow_le_pow_right (by decide) (show n<=k by lia)))
  rw[hb]at z;cases z
theorem iU{m q:Nat}(hm:m<2^N.n)(hq:q<2^N.n)(em:N.ek m)(eq:N.ek q)(h:∀ c,c<N.n->N.kW c=false->m.testBit c=q.testBit c):m=q:=by
 have z:m^^^q=0:=j9 (N:=N) (fun k hk=>by
  have hk':=cV (Nat.xor_lt_two_pow hm hq) hk;refine⟨hk',?_⟩;cases hf:N.kW k with
  | true=>rfl
  | false =>
    rw[Nat.testBit_xor,h k hk' hf]at hk;simp at hk) (ek.xor em eq)
 have e:m=m^^^q^^^q:=by rw[Nat.xor_assoc,Nat.xor_self,Nat.xor_zero]
 rw[e,z,Nat.zero_xor]
theorem qF{c:Nat}(h:c<N.n):N.ring c<2^N.n:=gA fun k hk=>by
 rcases lj hk with rfl|⟨q,_⟩
 ·exact h
 ·exact q
theorem gB{c d:Nat}(hc:N.kW c=false)(hd:N.kW d=false):(N.ring c).testBit d=decide (c=d):=by
 by_cases e:c=d
 ·subst e;rw[rC hc];simp
 ·cases q:(N.ring c).testBit d with
  | false=>simp[e]
  | true=>rcases lj q with rfl | ⟨_,r⟩
          ·exact absurd rfl e
          ·rw[hd]at r;cases r
def Net.dM(N:Net)(number:Nat):List Nat->Nat->Nat
 | [],_=>0
 | c::r,i=>(if number.testBit i=true then N.ring c else 0)^^^Net.dM N number r (i+1)
theorem lX{number:Nat}:∀{l:List Nat} {i:Nat},(∀ c∈l,c<N.n)->N.ek (N.dM number l i)/\N.dM number l i<2^N.n
 | [],_,_=>⟨ek.zero,Nat.two_pow_pos _⟩
 | c::r,i,h=>by
   obtain⟨h1,h2⟩:=lX (number:=number) (l:=r) (i:=i+1) fun d hd=>h d (lU _ hd)
   have hc:=h c List.mem_cons_self;unfold Net.dM
   split
   ·exact⟨ek.xor (jL hc) h1,Nat.xor_lt_two_pow (qF hc) h2⟩
   ·rw[Nat.zero_xor];exact⟨h1,h2⟩
theorem wZ{number d:Nat}(hd:N.kW d=false):∀{l:List Nat} {i:Nat},(∀ c∈l,N.kW c=false)->d∉l->(N.dM number l i).testBit d=false
 | [],_,_,_=>by simp[Net.dM]
 | c::r,i,h,hn=>by
   have ih:=wZ (number:=number) (d:=d) hd (l:=r) (i:=i+1) (fun e he=>h e (lU _ he)) fun q=>hn (lU _ q)
   unfold Net.dM;rw[Nat.testBit_xor,ih]
   split
   ·rw[gB (h c List.mem_cons_self) hd];have:c≠d:=fun q=>hn (by rw[q];exact List.mem_cons_self)
    simp[this]
   ·simp
theorem w4{number:Nat}:∀{l:List Nat} {i j:Nat} {d:Nat},l.Nodup->(∀ c∈l,N.kW c=false)->l[j]?=some d->(N.dM number l i).testBit d=number.testBit (i+j)
 | [],_,_,_,_,_,h=>by simp at h
 | c::r,i,0,d,hn,hf,h=>by
   have e:c=d:=by simpa using h
   subst e;have hc:=hf c List.mem_cons_self;unfold Net.dM;rw[Nat.testBit_xor,wZ hc (fun e he=>hf e (lU _ he)) (List.nodup_cons.mp hn).1]
   cases q:number.testBit (i+0) with
   | true=>rw[if_pos (by simpa using q),rC hc];rfl
   | false=>rw[if_neg (by simpa using q)];simp
 | c::r,i,j+1,d,hn,hf,h=>by
   have h' : r[j]?=some d:=by simpa using h
   have hd:d∈r:=nv h';have ih:=w4 (number:=number) (l:=r) (i:=i+1) (j:=j) (d:=d) (List.nodup_cons.mp hn).2 (fun e he=>hf e (lU _ he)) h'
   unfold Net.dM;rw[Nat.testBit_xor,ih];have hne:c≠d:=fun q=>(List.nodup_cons.mp hn).1 (q▸hd)
   have z:(if number.testBit i=true then N.ring c else 0).testBit d=false:=by
    split
    ·rw[gB (hf c List.mem_cons_self) (hf d (lU _ hd))];simp[hne]
    ·simp
   rw[z,show i+1+j=i+(j+1) by lia]
   simp
end RM
namespace Ring
open PySem L2
def maskOf(f:Nat->Bool):Nat->Nat
 | 0=>0
 | n+1=>(if f n=true then 2^n else 0)+maskOf f n
theorem mask_lt(f:Nat->Bool):∀ n,maskOf f n<2^n
 | 0=>by show 0<1;decide
 | n+1=>by
   have ih:=mask_lt f n;have e:2^(n+1)=2^n+2^n:=by rw[Nat.pow_succ];lia
   unfold maskOf
   split<;>lia
theorem mask_bit(f:Nat->Bool)(j:Nat):∀ n,(maskOf f n).testBit j=(decide (j<n)&&f j)
 | 0=>by simp[maskOf]
 | n+1=>by
   have ih:=mask_bit f j n;have hl:=mask_lt f n;unfold maskOf
   by_cases h:f n=true
   ·rw[if_pos h];rcases Nat.lt_trichotomy j n with q|q|q
    ·rw[Nat.testBit_two_pow_add_gt q,ih];simp[q,show j<n+1 by lia]
    ·subst q;rw[Nat.testBit_two_pow_add_eq,ih];simp[h]
    ·have z:2^n+maskOf f n<2^j:=Nat.lt_of_lt_of_le (show 2^n+maskOf f n<2^(n+1) by rw[Nat.pow_succ];lia) (Nat.pow_le_pow_right (by decide) q)
     rw[Nat.testBit_lt_two_pow z];simp[show ¬ j<n+1 by lia]
   ·rw[if_neg h,Nat.zero_add,ih]
    by_cases q:j=n
    ·subst q;have h' : f j=false:=by simpa using h
     simp[h']
    ·by_cases r:j<n
     ·simp[r,show j<n+1 by lia]
     ·simp[r,show ¬ j<n+1 by lia]
theorem D7(n:Nat):maskOf (fun _=>true) n=2^n-1:=by
 induction n with
 | zero=>rfl
 | succ n ih =>
   unfold maskOf;rw[ih,if_pos rfl,Nat.pow_succ];have:=Nat.two_pow_pos n
   lia
theorem AA(n j:Nat):(2^n-1).testBit j=decide (j<n):=by
 rw[<-D7,mask_bit];simp
theorem Jo{a b x y:Nat}(q:x/2+y/2=a/2+b/2)(h:x%2+y%2=a%2+b%2):x+y=a+b:=by lia
theorem Jp{u v:Nat}(hu:u=0\/u=1)(hv:v=0\/v=1):(u ||| v)+(u&&&v)=u+v:=by
 rcases hu with rfl|rfl<;>rcases hv with rfl|rfl<;>rfl
theorem Jq:∀ a b:Nat,(a ||| b)+(a&&&b)=a+b:=by
 intro a
 induction a using Nat.strongRecOn with
 | ind a ih =>
   intro b
   by_cases h:a=0
   ·subst h;simp
   ·have q:=ih (a/2) (by lia) (b/2)
    rw[<-Nat.or_div_two,<-Nat.and_div_two]at q;refine Jo q ?_;have e1:(a ||| b)%2=a%2 ||| b%2:=Nat.or_mod_two_pow (n:=1)
    have e2:(a&&&b)%2=a%2&&&b%2:=Nat.and_mod_two_pow (n:=1);rw[e1,e2];exact Jp (Nat.mod_two_eq_zero_or_one a) (Nat.mod_two_eq_zero_or_one b)
theorem or_int(a b:Nat):Builtin.bitOr (a:Int) (b:Int)=((a ||| b:Nat):Int):=by
 have q:=Jq a b;rw[PyProof.Rows.bitOr_and,PyProof.Rows.bitAnd_pp (by lia) (by lia)]
 have h:(a:Int)+b-((a&&&b:Nat):Int)=((a ||| b:Nat):Int):=by lia
 simpa using h
theorem ir(k:Nat):(1:Int)*2^(k:Int).toNat=((2^k:Nat):Int):=by
 rw[Int.toNat_natCast,Int.one_mul];simp
theorem jM{ts:List dF}{k:Nat}(h:k<ts.length):cI ts k∈ts:=by
 unfold cI;rw[List.getD_eq_getElem?_getD];simp[h]
theorem o9{ts:List dF}{k:Nat}(h:k<ts.length):ts[k]?=some (cI ts k):=by
 unfold cI;rw[List.getD_eq_getElem?_getD];simp[h]
def aA.N{p:Nat}{ts:List dF}(g:aA p ts):RM.Net where
 p:=p
 n:=ts.length
 a:=fun k=>(cI ts k).1.toNat
 b:=fun k=>(cI ts k).2.1.toNat
 al:=fun k hk=>by
  have z:=g.BE _ (jM hk);have z0:=z.a0;have z1:=z.a1
  lia
 bl:=fun k hk=>by
  have z:=g.BE _ (jM hk);have z0:=z.b0;have z1:=z.b1
  lia
 ne:=fun k hk e=>by
  have z:=g.BE _ (jM hk);have z0:=z.a0;have z1:=z.b0;exact z.ne (by lia)
theorem AB{p:Nat}{ts:List dF}{g:aA p ts}{k:Nat}(h:k<ts.length):(cI ts k).1=((g.N.a k:Nat):Int):=by
 have z:=(g.BE _ (jM h)).a0;show _=(((cI ts k).1.toNat:Nat):Int)
 lia
theorem AD{p:Nat}{ts:List dF}{g:aA p ts}{k:Nat}(h:k<ts.length):(cI ts k).2.1=((g.N.b k:Nat):Int):=by
 have z:=(g.BE _ (jM h)).b0;show _=(((cI ts k).2.1.toNat:Nat):Int)
 lia
theorem GF{p:Nat}{ts:List dF}{g:aA p ts}{k:Nat}(h:k<ts.length)(x:Nat):FT ts k x%2=if g.N.inc k x=true then 1 else 0:=by
 unfold FT RM.Net.inc;rw[o9 h];dsimp only;rw[AB (g:=g) h,AD (g:=g) h];generalize g.N.a k=u;generalize g.N.b k=v
 by_cases h1:u=x
 ·by_cases h2:v=x
  ·simp[h1,h2]
  ·have LH : ¬((v:Int)=(x:Int)):=by lia
   simp[h1,h2,LH]
 ·have HN : ¬((u:Int)=(x:Int)):=by lia
  by_cases h2:v=x
  ·simp[h1,h2,HN]
  ·have LH : ¬((v:Int)=(x:Int)):=by lia
   simp[h1,h2,HN,LH]
theorem D8{p:Nat}{ts:List dF}{g:aA p ts}(m x:Nat):∀ n,n<=ts.length->((List.range n).map fun k=>if m.testBit k=true then FT ts k x else 0).sum%2=if RM.bJ (fun k=>m.testBit k&&g.N.inc k x) n=true then 1 else 0
 | 0,_=>rfl
 | n+1,h=>by
   have ih:=D8 (g:=g) m x n (by lia)
   have hd:=GF (g:=g) (k:=n) (by lia) x
   rw[List.range_succ,List.map_append,List.sum_append];show(_+((if m.testBit n=true then FT ts n x else 0)+0))%2=if(RM.bJ _ n^^(m.testBit n&&g.N.inc n x))=true then 1 else 0
   generalize ((List.range n).map fun k=>if m.testBit k=true then FT ts k x else 0).sum=u at ih ⊢
   generalize RM.bJ (fun k=>m.testBit k&&g.N.inc k x) n=v at ih ⊢
   generalize g.N.inc n x=i at hd ⊢;generalize FT ts n x=d at hd ⊢;cases m.testBit n<;>cases v<;>cases i<;>simp at ih hd ⊢ <;> lia
theorem AE{p:Nat}{ts:List dF}(g:aA p ts){m:Nat}(hm:m<2^ts.length){x:Nat}:decide ((jw p ts (m:Int)).getD x 0%2=1)=g.N.bd m x:=by
 rw[DW g.C5.PJ,fQ hm,sum_filter];have h:=D8 (g:=g) m x ts.length (Nat.le_refl _);rw[h];show _=RM.bJ _ ts.length;generalize RM.bJ (fun k=>m.testBit k&&g.N.inc k x) ts.length=v
 cases v<;>simp
theorem w5{p:Nat}{ts:List dF}(g:aA p ts){m:Nat}(hm:m<2^ts.length):rj p ts (m:Int)=[]↔g.N.ek m:=by
 unfold rj;rw[List.filter_eq_nil_iff]
 constructor
 ·intro h x hx;have q:=h x (List.mem_range.mpr hx);rw[AE g hm]at q
  simpa using q
 ·intro h x hx;rw[AE g hm,h x (List.mem_range.mp hx)];simp
def cj(f:Nat->Nat)(n:Nat):List V:=(List.range n).map fun x=>V.int ((f x:Nat):Int)
theorem bK(f:Nat->Nat)(n:Nat):(cj f n).length=n:=by unfold cj;rw[List.length_map,List.length_range]
theorem bL{f:Nat->Nat}{n x:Nat}(h:x<n):(cj f n)[x]?=some (.int ((f x:Nat):Int)):=by
 unfold cj;rw[List.getElem?_map,List.getElem?_range h];rfl
theorem je{f:Nat->Nat}{n x:Nat}{v:V}(h:(cj f n)[x]?=some v):x<n/\v = .int ((f x:Nat):Int):=by
 have hx:x<n:=by
  have:=(ny.mp h).1
  rwa [bK]at this
 rw[bL hx]at h;exact⟨hx,(Option.some.inj h).symm⟩
theorem uy(f:Nat->Nat)(n:Nat):cj f (n+1)=cj f n++[.int ((f n:Nat):Int)]:=by
 unfold cj;rw[List.range_succ,List.map_append];rfl
theorem rE{f g:Nat->Nat}{n:Nat}(h:∀ x,x<n->f x=g x):cj f n=cj g n:=by
 unfold cj;refine List.map_congr_left fun x hx=>?_
 rw[h x (List.mem_range.mp hx)]
theorem w6(p:Nat):(List.replicate p [V.int 0]).flatten=cj (fun _=>0) p:=by
 induction p with
 | zero=>rfl
 | succ p ih =>
   rw[uy,<-ih,List.replicate_succ',List.flatten_append];rfl
def rF(f:Nat->Nat)(H:Hp)(D:Addr)(i:Nat)(acc:List V)(H2:Hp):Prop:=au H H2/\H2 D=some (.lst acc)/\acc=cj f i
section
variable {f:Nat->Nat}{H H2 H3:Hp}{D:Addr}{i:Nat}{acc:List V}{v:V}
theorem rF.start(hD:H D=none):rF f H D 0 [] (upd H D (.lst [])):=⟨au.new hD,af,rfl⟩
theorem rF.len(p:rF f H D i acc H2):H2 D=some (.lst acc)/\acc.length<=i:=⟨p.2.1,by rw[p.2.2,bK];exact Nat.le_refl _⟩
theorem rF.next(p:rF f H D i acc H2)(hD:H D=none)(s:au H2 H3)(hv:v = .int ((f i:Nat):Int)):H3 D=some (.lst acc)/\rF f H D (i+1) (acc++[v]) (upd H3 D (.lst (acc++[v]))):=by
 refine⟨s _ _ p.2.1,(p.1.trans s).put hD,af,?_⟩;rw[uy,<-p.2.2,hv]
end
theorem uz{N:RM.Net}{m:Nat}:∀ n,((List.range n).filter fun k=>m.testBit k).foldl (fun L k=>RM.join L (N.a k) (N.b k)) (fun x=>x)=N.aN (fun k=>m.testBit k) n
 | 0=>rfl
 | n+1=>by
   rw[aX,List.foldl_append,uz n,RM.fE]
   split<;>rfl
end Ring
namespace RM
theorem rG{N:Net}{S S' : Nat->Bool}:∀{n:Nat},(∀ k,k<n->S k=S' k)->N.aN S n=N.aN S' n
 | 0,_=>rfl
 | n+1,h=>by rw[fE,fE,rG fun k hk=>h k (by lia),h n (by lia)]
end RM
namespace Ring
open PySem L2
def pieceOf(L:Nat->Nat)(p s:Nat):List Nat:=(List.range p).filter fun x=>decide (L x=s)
def eH(L:Nat->Nat)(p:Nat):List Nat:=(List.range p).filter fun x=>decide (L x=x)
def HS(D:Addr)(H0 H:Hp)(y:V)(l:List Nat):Prop:=∃ b,y = .ref b/\b≠D/\H0 b=none/\H b=some (.lst (aB l))
def rH(L:Nat->Nat)(p:Nat)(H:Hp)(D:Addr)(i:Nat)(H2:Hp):Prop:=au H H2/\∃ ys,H2 D=some (.lst ys)/\Paired (HS D H H2) ys ((eH L i).map (pieceOf L p))/\ys.length<=i
section
variable {L:Nat->Nat}{p i:Nat}{H H2 H3:Hp}{D b:Addr}
theorem rH.start(hD:H D=none):rH L p H D 0 (upd H D (.lst [])):=⟨au.new hD,[],af,.nil,Nat.le_refl _⟩
theorem rJ:eH L (i+1)=eH L i++(if L i=i then[i] else[]):=by
 unfold eH;rw[aX]
 by_cases h:L i=i<;>simp[h]
theorem rH.skip(h:rH L p H D i H2)(hn : ¬ L i=i):rH L p H D (i+1) H2:=by
 obtain⟨s,ys,hd,pr,hl⟩:=h;refine⟨s,ys,hd,?_,by lia⟩
 rw[rJ,if_neg hn,List.append_nil];exact pr
theorem rH.push(h:rH L p H D i H2)(hD:H D=none)(hr:L i=i)(s:au H2 H3)(hb:H2 b=none)(Sl:H3 b=some (.lst (aB (pieceOf L p i)))):
 ∃ ys,H3 D=some (.lst ys)/\ys.length<=i/\rH L p H D (i+1) (upd H3 D (.lst (ys++[.ref b]))):=by
 obtain⟨s2,ys,hd,pr,hl⟩:=h;have HR:=s _ _ hd;have PM:b≠D:=fun e=>by rw[e,hd]at hb;cases hb
 refine⟨ys,HR,hl,(s2.trans s).put hD,ys++[.ref b],af,?_,by rw[List.length_append,List.length_singleton];lia⟩
 rw[rJ,if_pos hr,List.map_append];refine Paired.snoc (Paired.imp' (fun _ _ ⟨e,he,hn,h0,q⟩=>⟨e,he,hn,h0,by rw[av hn];exact s _ _ q⟩) pr) ?_
 exact⟨b,rfl,PM,s2.free hb,by rw[av PM];exact Sl⟩
end
def p7(p:Nat)(ts:List dF)(g:aA p ts)(ks:List Nat):Nat->Nat:=ks.foldl (fun L k=>RM.join L (g.N.a k) (g.N.b k)) fun x=>x
theorem yO{p:Nat}{ts:List dF}{g:aA p ts}{ks:List Nat}{k:Nat}:p7 p ts g (ks++[k])=RM.join (p7 p ts g ks) (g.N.a k) (g.N.b k):=by
 unfold p7;rw[List.foldl_append];rfl
def bD(p:Nat)(ts:List dF)(g:aA p ts)(m:Nat):Nat->Nat:=g.N.aN (fun k=>m.testBit k) ts.length
theorem yP{p:Nat}{ts:List dF}{g:aA p ts}{m:Nat}(hm:m<2^ts.length):p7 p ts g (bF (m:Int))=bD p ts g m:=by
 unfold p7 bD;rw[fQ hm];exact uz _
theorem GG{p:Nat}{ts:List dF}{g:aA p ts}:bD p ts g (2^ts.length-1)=g.N.dZ ts.length:=by
 unfold bD RM.Net.dZ;exact RM.rG fun k hk=>by rw[AA];simp[hk]
theorem GH{p:Nat}{ts:List dF}{g:aA p ts}:(ts.length:Int)-(p:Int)+(eH (bD p ts g (2^ts.length-1)) p).length=(g.N.az.length:Int):=by
 have h:=RM.wY (N:=g.N);rw[RM.yN];unfold eH;rw[RM.gz,GG];exact h
theorem GI(a b:Nat):(if(b:Int)<(a:Int) then(b:Int) else(a:Int))=((min a b:Nat):Int):=by
 split<;>lia
theorem AF(a b:Nat):(if(b:Int) > (a:Int) then(b:Int) else(a:Int))=((max a b:Nat):Int):=by
 split<;>lia
theorem jf(a b:Nat):decide (V.int (a:Int)=V.int (b:Int))=decide (a=b):=by
 rw[Bool.eq_iff_iff];simp
 lia
end Ring
namespace RM
variable {N:Net}{S:Nat->Bool}
variable {pt r j:Nat}{l:List Nat}
theorem D9{l:List Nat}:∀{p:Nat},l.Nodup->(∀ x∈l,x<p)->l.length<=p:=by
 intro p hn hl;have hp:l.Perm ((List.range p).filter fun x=>decide (x∈l)):=by
  refine(List.perm_ext_iff_of_nodup hn (List.Pairwise.filter _ List.nodup_range)).mpr fun a=>?_
  rw[List.mem_filter,List.mem_range];simp;exact fun h=>hl a h
 rw[hp.length_eq];have:=List.length_filter_le (fun x=>decide (x∈l)) (List.range p)
 rwa [List.length_range]at this
end RM
namespace Ring
open PySem L2
theorem eA(l:List Nat):aB l=(l.map fun x=>((x:Nat):Int)).map V.int:=by unfold aB;rw[List.map_map];rfl
theorem n5(u:Nat)(l:List Nat):FO (.int (u:Int)) (aB l)=decide (u∈l):=by
 unfold FO aB;rw[List.any_map,Bool.eq_iff_iff,List.any_eq_true];simp only[Function.comp,decide_eq_true_eq]
 constructor
 ·rintro⟨x,hx,h⟩;have e:((x:Nat):Int)=(u:Int):=eq_of_beq h;have:x=u:=by lia
  exact this▸hx
 ·intro h;exact⟨u,h,by simp[Br]⟩
theorem pe(l:List Nat):(aB l).all ik=true:=by
 unfold aB;rw[List.all_map,List.all_eq_true];intro x _;rfl
theorem and_int(a b:Nat):Builtin.bitAnd (a:Int) (b:Int)=((a&&&b:Nat):Int):=by
 rw[PyProof.Rows.bitAnd_pp (by lia) (by lia)]
 simp
end Ring
namespace RM
variable {N:Net}
theorem Ea{L:Nat->Nat}{u v x y:Nat}:join L u v x=join L u v y↔(L x=L y\/(L x=L u/\L y=L v)\/(L x=L v/\L y=L u)):=by
 constructor
 ·exact rB
 ·have e:=uv L u v;rintro(h|⟨h1,h2⟩|⟨h1,h2⟩)
  ·exact join_eq h
  ·rw[join_eq h1,join_eq h2,e]
  ·rw[join_eq h1,join_eq h2,e]
def Jr(L:Nat->Nat)(u v:Nat):Nat->Nat:=fun x=>if L x=L v then L u else L x
theorem GJ{L:Nat->Nat}{u v x y:Nat}:Jr L u v x=Jr L u v y↔(L x=L y\/(L x=L u/\L y=L v)\/(L x=L v/\L y=L u)):=by
 unfold Jr
 split<;>split<;>lia
end RM
namespace Ring
open PySem L2
def Kv(T:Nat->Nat):Nat->Nat
 | 0=>0
 | n+1=>Kv T n ||| T n
theorem AG(T:Nat->Nat)(j:Nat):∀ n,(Kv T n).testBit j=true↔∃ x,x<n/\(T x).testBit j=true
 | 0=>by simp[Kv]
 | n+1=>by
   unfold Kv;rw[Nat.testBit_or,Bool.or_eq_true,AG T j n]
   constructor
   ·rintro(⟨x,hx,h⟩|h)
    ·exact⟨x,by lia,h⟩
    ·exact⟨n,by lia,h⟩
   ·rintro⟨x,hx,h⟩
    by_cases e:x=n
    ·subst e;exact .inr h
    ·exact .inl ⟨x,by lia,h⟩
section
variable {p:Nat}{ts:List dF}{g:aA p ts}
def jg(p:Nat)(ts:List dF)(g:aA p ts):Nat:=maskOf g.N.kW ts.length
theorem yQ:Kv (g.N.trail ts.length) p=jg p ts g:=by
 refine Nat.eq_of_testBit_eq fun j=>?_
 unfold jg;rw[mask_bit,Bool.eq_iff_iff,AG];simp only[Bool.and_eq_true,decide_eq_true_eq]
 constructor
 ·rintro⟨x,_,h⟩;exact RM.dw _ _ _ h
 ·rintro⟨h1,h2⟩;rcases RM.BG (N:=g.N) h1 h2 with h|h
  ·exact⟨_,g.N.al j h1,h⟩
  ·exact⟨_,g.N.bl j h1,h⟩
theorem yR(j:Nat):((2^ts.length-1)^^^jg p ts g).testBit j=(decide (j<ts.length) && !g.N.kW j):=by
 unfold jg;rw[Nat.testBit_xor,AA,mask_bit];cases decide (j<ts.length)<;>cases g.N.kW j<;>rfl
theorem uA:(2^ts.length-1)^^^jg p ts g<2^ts.length:=Nat.xor_lt_two_pow (by have:=Nat.two_pow_pos ts.length;lia) (mask_lt _ _)
theorem w9:bF (((2^ts.length-1)^^^jg p ts g:Nat):Int)=g.N.az:=by
 rw[fQ uA];unfold RM.Net.az;refine List.filter_congr fun k hk=>?_
 have:=List.mem_range.mp hk;rw[yR];simp[this]
end
theorem GK(n:Nat):((2:Int)^n-1)=((2^n-1:Nat):Int):=by
 have h:((2:Int)^n)=((2^n:Nat):Int):=by simp
 have:=Nat.two_pow_pos n
 lia
theorem Js{S:Int}{l:List Nat}(h:∀ c∈l,S≠((c:Nat):Int)):FO (.int S) (aB l)=false:=by
 unfold FO aB;rw[List.any_map,List.any_eq_false];intro x hx z;exact h x hx (eq_of_beq z).symm
theorem mL{c:Nat}:∀{n:Nat},c<n->(List.range n).filter (fun k=>decide (k=c))=[c]
 | 0,h=>absurd h (Nat.not_lt_zero _)
 | n+1,h=>by
   rw[aX]
   by_cases e:c=n
   ·subst e;have z:(List.range c).filter (fun k=>decide (k=c))=[]:=by
     rw[List.filter_eq_nil_iff];intro x hx;have:=List.mem_range.mp hx;simp
     lia
    rw[z];simp
   ·rw[mL (by lia)]
    simp[Ne.symm e]
theorem AH{l:List Nat}{i:Nat}{k:Nat}(h:l[i]?=some k):(aB l)[i]?=some (.int (k:Int)):=by
 unfold aB;rw[List.getElem?_map,h];rfl
def sX(f:Nat->Int)(l:List Nat)(H:Hp)(D:Addr)(i:Nat)(acc:List V)(H2:Hp):Prop:=au H H2/\H2 D=some (.lst acc)/\acc=((l.take i).map f).map V.int
section
variable {f:Nat->Int}{l:List Nat}{H H2 H3:Hp}{D:Addr}{i k:Nat}{acc:List V}{v:V}
theorem sX.start(hD:H D=none):sX f l H D 0 [] (upd H D (.lst [])):=⟨au.new hD,af,rfl⟩
theorem sX.len(p:sX f l H D i acc H2):H2 D=some (.lst acc)/\acc.length<=i:=by
 refine⟨p.2.1,?_⟩;rw[p.2.2,List.length_map,List.length_map,List.length_take]
 lia
theorem sX.next(p:sX f l H D i acc H2)(hD:H D=none)(s:au H2 H3)(hk:l[i]?=some k)(hv:v = .int (f k)):H3 D=some (.lst acc)/\sX f l H D (i+1) (acc++[v]) (upd H3 D (.lst (acc++[v]))):=by
 refine⟨s _ _ p.2.1,(p.1.trans s).put hD,af,?_⟩;rw[List.take_add_one,hk,List.map_append,List.map_append,<-p.2.2,hv];rfl
theorem sX.fin(p:sX f l H D l.length acc H2):H2 D=some (.lst ((l.map f).map V.int)):=by rw[p.2.1,p.2.2,List.take_length]
end
end Ring
namespace RM
theorem rK(f:Nat->Bool):∀ n,bJ f n=decide (cnt f n%2=1)
 | 0=>rfl
 | n+1=>by
   unfold bJ cnt;rw[rK f n]
   by_cases h:f n=true
   ·rw[h,if_pos rfl]
    by_cases q:cnt f n%2=1
    ·have q' : ¬(cnt f n+1)%2=1:=by lia
     simp[q,q']
    ·have q' : (cnt f n+1)%2=1:=by lia
     simp[q,q']
   ·have h' : f n=false:=by simpa using h
    rw[h',if_neg (by decide)]
    simp
end RM
namespace Ring
open PySem L2
def lenOf(ts:List dF)(m:Nat):Int:=((bF (m:Int)).map fun k=>(cI ts k).2.2).sum
section
variable {p:Nat}{ts:List dF}(g:aA p ts)
include g
end
end Ring
namespace RM
def sm(f:Nat->Nat):Nat->Nat
 | 0=>0
 | n+1=>sm f n+f n
theorem fR{f g:Nat->Nat}:∀{n:Nat},(∀ k,k<n->f k=g k)->sm f n=sm g n
 | 0,_=>rfl
 | n+1,h=>by
   show sm f n+f n=sm g n+g n;rw[fR fun k hk=>h k (by lia),h n (by lia)]
theorem pA(f g:Nat->Nat):∀ n,sm (fun k=>f k+g k) n=sm f n+sm g n
 | 0=>rfl
 | n+1=>by
   show sm (fun k=>f k+g k) n+(f n+g n)=sm f n+f n+(sm g n+g n)
   rw[pA f g n]
   lia
theorem ve:∀ n,sm (fun _=>0) n=0
 | 0=>rfl
 | n+1=>by
   show sm (fun _=>0) n+0=0
   rw[ve n]
theorem AI(f:Nat->Nat->Nat)(n:Nat):∀ p,sm (fun x=>sm (fun k=>f x k) n) p=sm (fun k=>sm (fun x=>f x k) p) n
 | 0=>(ve n).symm
 | p+1=>by
   show sm (fun x=>sm (fun k=>f x k) n) p+sm (fun k=>f p k) n=sm (fun k=>sm (fun x=>f x k) p+f p k) n
   rw[AI f n p,pA]
theorem iV(f:Nat->Bool):∀ n,cnt f n=sm (fun k=>if f k=true then 1 else 0) n
 | 0=>rfl
 | n+1=>by
   show cnt f n+(if f n=true then 1 else 0)=sm (fun k=>if f k=true then 1 else 0) n+(if f n=true then 1 else 0)
   rw[iV f n]
theorem AJ{f g:Nat->Nat}:∀{n:Nat},(∀ k,k<n->f k<=g k)->sm f n<=sm g n
 | 0,_=>Nat.le_refl _
 | n+1,h=>by
   have h1:=AJ (f:=f) (g:=g) (n:=n) fun k hk=>h k (by lia)
   have h2:=h n (by lia)
   show sm f n+f n<=sm g n+g n
   lia
theorem Eb{f g:Nat->Nat}{n:Nat}(h:∀ k,k<n->f k<=g k)(e:sm f n=sm g n):∀ k,k<n->f k=g k:=by
 induction n with
 | zero=>exact fun k hk=>absurd hk (Nat.not_lt_zero _)
 | succ n ih =>
   intro k hk;have h1:=AJ (f:=f) (g:=g) (n:=n) fun k hk=>h k (by lia)
   have h2:=h n (by lia)
   have e:sm f n+f n=sm g n+g n:=e
   by_cases hkn:k=n
   ·subst hkn
    lia
   ·exact ih (fun j hj=>h j (by lia)) (by lia) k (by lia)
theorem yS{f g:Nat->Bool}{n:Nat}(h:∀ k,k<n->f k=true->g k=true):cnt f n<=cnt g n:=by
 rw[iV,iV];refine AJ fun k hk=>?_
 by_cases hf:f k=true
 ·rw[if_pos hf,if_pos (h k hk hf)];exact Nat.le_refl _
 ·rw[if_neg hf];exact Nat.zero_le _
theorem Ec{f g:Nat->Bool}{n:Nat}(h:∀ k,k<n->f k=true->g k=true)(e:cnt f n=cnt g n):∀ k,k<n->g k=true->f k=true:=fun k hk hg=>by
 rw[iV,iV]at e;have q:=Eb (n:=n) (fun k hk=>by
  by_cases hf:f k=true
  ·rw[if_pos hf,if_pos (h k hk hf)];exact Nat.le_refl _
  ·rw[if_neg hf];exact Nat.zero_le _) e k hk
 rw[if_pos hg]at q
 by_cases hf:f k=true
 ·exact hf
 ·rw[if_neg hf]at q
  lia
theorem lq{f:Nat->Bool}:∀{n:Nat},0<cnt f n->∃ k,k<n/\f k=true
 | 0,h=>absurd h (Nat.lt_irrefl _)
 | n+1,h=>by
   by_cases hf:f n=true
   ·exact⟨n,by lia,hf⟩
   ·have h:0<cnt f n+(if f n=true then 1 else 0):=h
    rw[if_neg hf]at h;obtain⟨k,hk,q⟩:=lq (f:=f) (n:=n) (by lia)
    exact⟨k,by lia,q⟩
theorem n6{f:Nat->Bool}{k:Nat}(hf:f k=true):∀{n:Nat},k<n->0<cnt f n
 | 0,h=>absurd h (Nat.not_lt_zero _)
 | n+1,h=>by
   show 0<cnt f n+(if f n=true then 1 else 0)
   by_cases hk:k=n
   ·subst hk;rw[if_pos hf]
    lia
   ·have:=n6 hf (n:=n) (by lia)
    lia
theorem lY{f:Nat->Bool}:∀{n:Nat},2<=cnt f n->∃ c d,c<d/\d<n/\f c=true/\f d=true
 | 0,h=>absurd h (by show ¬ 2<=0;lia)
 | n+1,h=>by
   have h:2<=cnt f n+(if f n=true then 1 else 0):=h
   by_cases hf:f n=true
   ·rw[if_pos hf]at h;obtain⟨k,hk,q⟩:=lq (f:=f) (n:=n) (by lia)
    exact⟨k,n,hk,by lia,q,hf⟩
   ·rw[if_neg hf]at h;obtain⟨c,d,h1,h2,h3,h4⟩:=lY (f:=f) (n:=n) (by lia)
    exact⟨c,d,h1,by lia,h3,h4⟩
theorem qG{f:Nat->Bool}{u v:Nat}(hu:f u=true)(hv:f v=true)(ne:u≠v):∀{n:Nat},u<n->v<n->2<=cnt f n
 | 0,h,_=>absurd h (Nat.not_lt_zero _)
 | n+1,h1,h2=>by
   show 2<=cnt f n+(if f n=true then 1 else 0)
   by_cases e1:u=n
   ·subst e1;have:=n6 hv (n:=u) (by lia)
    rw[if_pos hu]
    lia
   ·by_cases e2:v=n
    ·subst e2;have:=n6 hu (n:=v) (by lia)
     rw[if_pos hv]
     lia
    ·have:=qG hu hv ne (n:=n) (by lia) (by lia)
     lia
theorem rL(a:Nat):∀ n,cnt (fun x=>decide (a=x)) n=if a<n then 1 else 0
 | 0=>rfl
 | n+1=>by
   show cnt (fun x=>decide (a=x)) n+(if decide (a=n)=true then 1 else 0)=_
   rw[rL a n]
   by_cases e:a=n
   ·subst e;simp
   ·have d:(if decide (a=n)=true then 1 else 0)=0:=if_neg (by simpa using e)
    rw[d]
    by_cases h:a<n
    ·rw[if_pos h,if_pos (by lia)]
    ·rw[if_neg h,if_neg (by lia)]
theorem rM{f g:Nat->Bool}:∀{n:Nat},(∀ x,x<n->¬(f x=true/\g x=true))->cnt (fun x=>f x^^g x) n=cnt f n+cnt g n
 | 0,_=>rfl
 | n+1,h=>by
   show cnt (fun x=>f x^^g x) n+(if(f n^^g n)=true then 1 else 0)=cnt f n+(if f n=true then 1 else 0)+(cnt g n+(if g n=true then 1 else 0))
   rw[rM fun x hx=>h x (by lia)]
   have q:=h n (by lia)
   cases hf:f n<;>cases hg:g n
   ·simp
   ·simp
    lia
   ·simp
    lia
   ·exact absurd ⟨hf,hg⟩ q
variable {N:Net}
def Net.dg(N:Net)(m x:Nat):Nat:=cnt (fun k=>m.testBit k&&N.inc k x) N.n
theorem AK(m x:Nat):N.bd m x=decide (N.dg m x%2=1):=rK _ _
theorem qH{m x:Nat}(e:N.ek m)(hx:x<N.p):N.dg m x%2=0:=by
 have h:=e x hx;rw[AK]at h;have:=of_decide_eq_false h
 lia
theorem qI{k x:Nat}(hk:k<N.n):N.inc k x=true↔(N.a k=x\/N.b k=x):=by
 have ne:=N.ne k hk;unfold Net.inc
 by_cases h1:N.a k=x
 ·have h2 : ¬ N.b k=x:=fun z=>ne (h1.trans z.symm)
  simp[h1,h2]
 ·by_cases h2:N.b k=x
  ·simp[h1,h2]
  ·simp[h1,h2]
theorem GL{k:Nat}(hk:k<N.n):cnt (N.inc k) N.p=2:=by
 have ne:=N.ne k hk;have e:cnt (N.inc k) N.p=cnt (fun x=>decide (N.a k=x)^^decide (N.b k=x)) N.p:=rfl
 rw[e,rM fun x _ ⟨h1,h2⟩=>ne ((i6 h1).trans (i6 h2).symm),rL,rL,if_pos (N.al k hk),if_pos (N.bl k hk)]
theorem vf(m:Nat):sm (fun x=>N.dg m x) N.p=2*cnt (fun k=>m.testBit k) N.n:=by
 have e:sm (fun x=>N.dg m x) N.p=sm (fun x=>sm (fun k=>if(m.testBit k&&N.inc k x)=true then 1 else 0) N.n) N.p:=fR fun x _=>iV _ _
 rw[e,AI,iV];have d:∀ n,2*sm (fun k=>if m.testBit k=true then 1 else 0) n=sm (fun k=>(if m.testBit k=true then 1 else 0)+(if m.testBit k=true then 1 else 0)) n:=fun n=>by
  rw[pA]
  lia
 rw[d];refine fR fun k hk=>?_
 by_cases h:m.testBit k=true
 ·rw[if_pos h];have q:=GL hk;rw[iV]at q;show _=2;exact(fR fun x _=>by rw[h,Bool.true_and]).trans q
 ·rw[if_neg h];have h' : m.testBit k=false:=by simpa using h
  have:sm (fun x=>if(m.testBit k&&N.inc k x)=true then 1 else 0) N.p=sm (fun _=>0) N.p:=fR fun x _=>by rw[h'];rfl
  rw[this,ve]
theorem LJ{q m:Nat}(h:∀ k,q.testBit k=true->m.testBit k=true)(x:Nat):N.dg q x<=N.dg m x:=yS fun k _ hq=>by
 rw[Bool.and_eq_true]at hq ⊢;exact⟨h k hq.1,hq.2⟩
theorem rN{m k x:Nat}(hk:k<N.n)(hb:m.testBit k=true)(hx:N.a k=x\/N.b k=x):0<N.dg m x:=n6 (k:=k) (by rw[hb,Bool.true_and];exact(qI hk).mpr hx) hk
theorem qJ{m x:Nat}(h:0<N.dg m x):∃ k,k<N.n/\m.testBit k=true/\(N.a k=x\/N.b k=x):=by
 obtain⟨k,hk,q⟩:=lq h;rw[Bool.and_eq_true]at q;exact⟨k,hk,q.1,(qI hk).mp q.2⟩
theorem alone{m x y:Nat}(h:N.dg m x=0)(c:N.kU (fun k=>m.testBit k) N.n x y):y=x:=by
 induction c with
 | refl=>rfl
 | fwd _ hj hs ih=>exact absurd (rN hj hs (.inl ih)) (by lia)
 | bwd _ hj hs ih=>exact absurd (rN hj hs (.inr ih)) (by lia)
theorem BI{S:Nat->Bool}{k u v:Nat}(hk:k<=N.n)(c:N.kU S k u v):∃ t,(∀ j,t.testBit j=true->j<k/\S j=true)/\∀ x,N.bd t x=(decide (u=x)^^decide (v=x)):=by
 induction c with
 | refl=>exact⟨0,fun j hj=>by simp at hj,fun x=>by rw[vc];simp⟩
 | fwd _ hj hs ih =>
   rename_i j _
   obtain⟨t,h1,h2⟩:=ih;refine⟨t^^^2^j,fun i hi=>?_,fun x=>?_⟩
   ·rw[Nat.testBit_xor,Nat.testBit_two_pow]at hi
    by_cases e:j=i
    ·subst e;exact⟨hj,hs⟩
    ·rw[ff e,Bool.xor_false]at hi;exact h1 i hi
   ·rw[g9,h2,mY (by lia)]
    unfold Net.inc;cases decide (u=x)<;>cases decide (N.a j=x)<;>cases decide (N.b j=x)<;>rfl
 | bwd _ hj hs ih =>
   rename_i j _
   obtain⟨t,h1,h2⟩:=ih;refine⟨t^^^2^j,fun i hi=>?_,fun x=>?_⟩
   ·rw[Nat.testBit_xor,Nat.testBit_two_pow]at hi
    by_cases e:j=i
    ·subst e;exact⟨hj,hs⟩
    ·rw[ff e,Bool.xor_false]at hi;exact h1 i hi
   ·rw[g9,h2,mY (by lia)]
    unfold Net.inc;cases decide (u=x)<;>cases decide (N.a j=x)<;>cases decide (N.b j=x)<;>rfl
def Net.Ring(N:Net)(m:Nat):Prop:=m≠0/\N.ek m/\∀ q,(∀ k,q.testBit k=true->m.testBit k=true)->N.ek q->q=0\/q=m
section
variable {m s:Nat}
theorem AL(hm:m<2^N.n)(ev:N.ek m)(C:Nat->Bool)(hC:∀ x,x<N.p->C x=decide (N.aN (fun k=>m.testBit k) N.n x=s))(h2:2<=cnt C N.p)
 (Oz:∀ k,k<N.n->m.testBit k=true->C (N.a k)=true) (hl:cnt C N.p=cnt (fun k=>m.testBit k) N.n):N.Ring m:=by
 have HU:∀ k,k<N.n->m.testBit k=true->C (N.a k)=true/\C (N.b k)=true:=fun k hk hb=>by
  have h:=Oz k hk hb;refine⟨h,?_⟩;rw[hC _ (N.al k hk)]at h;rw[hC _ (N.bl k hk)];rw[gZ (S:=fun k=>m.testBit k) hk hb]at h
  exact h
 have pos:∀ x,x<N.p->C x=true->0<N.dg m x:=fun x hx hc=>by
  cases hz:N.dg m x with
  | succ d=>lia
  | zero =>
    exfalso
    obtain⟨y,hy,HV,hne⟩:∃ y,y<N.p/\C y=true/\y≠x:=by
     obtain⟨c,d,h1,h3,h4,h5⟩:=lY h2
     by_cases e:c=x
     ·exact⟨d,h3,h5,by lia⟩
     ·exact⟨c,by lia,h4,e⟩
    rw[hC x hx]at hc;rw[hC y hy]at HV;exact hne (alone hz (bC _ _ _ ((i6 hc).trans (i6 HV).symm)))
 have two:∀ x,x<N.p->(if C x=true then 2 else 0)=N.dg m x:=by
  refine Eb (fun x hx=>?_) ?_
  ·by_cases hc:C x=true
   ·rw[if_pos hc];have h1:=pos x hx hc;have h3:=qH ev hx
    lia
   ·rw[if_neg hc];exact Nat.zero_le _
  ·rw[vf,<-hl,iV];have d:∀ n,2*sm (fun k=>if C k=true then 1 else 0) n=sm (fun k=>(if C k=true then 1 else 0)+(if C k=true then 1 else 0)) n:=fun n=>by
    rw[pA]
    lia
   rw[d];exact fR fun x _=>by split<;>rfl
 obtain⟨c0,hc0,hcc⟩:=lq (f:=C) (n:=N.p) (by lia)
 refine⟨fun z=>?_,ev,fun q hq eq=>?_⟩
 ·have h:=pos c0 hc0 hcc;obtain⟨k,_,hb,_⟩:=qJ h;rw[z]at hb;simp at hb
 ·by_cases BJ:q=0
  ·exact .inl BJ
  ·right
   have full:∀ x,x<N.p->0<N.dg q x->∀ k,k<N.n->m.testBit k=true->(N.a k=x\/N.b k=x)->q.testBit k=true:=fun x hx h k hk hb FU=>by
    have h1:=LJ (N:=N) hq x;have h3:=qH eq hx;have h4:=two x hx;have h5:N.dg q x=N.dg m x:=by
     by_cases hc:C x=true
     ·rw[if_pos hc]at h4
      lia
     ·rw[if_neg hc]at h4
      lia
    have h6:=Ec (f:=fun k=>q.testBit k&&N.inc k x) (g:=fun k=>m.testBit k&&N.inc k x) (n:=N.n) (fun k _ z=>by
     rw[Bool.and_eq_true]at z ⊢;exact⟨hq k z.1,z.2⟩) h5 k hk (by rw[hb,Bool.true_and];exact(qI hk).mpr FU)
    rw[Bool.and_eq_true]at h6;exact h6.1
   obtain⟨k0,hb0⟩:∃ k,q.testBit k=true:=Nat.exists_testBit_of_ne_zero BJ;have hk0:k0<N.n:=cV hm (hq k0 hb0);have spread:∀{y},N.kU (fun k=>m.testBit k) N.n (N.a k0) y->0<N.dg q y:=fun {y} c=>by
    induction c with
    | refl=>exact rN hk0 hb0 (.inl rfl)
    | fwd _ hj hs ih=>exact rN hj (full _ (N.al _ hj) ih _ hj hs (.inl rfl)) (.inr rfl)
    | bwd _ hj hs ih=>exact rN hj (full _ (N.bl _ hj) ih _ hj hs (.inr rfl)) (.inl rfl)
   refine Nat.eq_of_testBit_eq fun k=>?_
   cases hb:m.testBit k with
   | false =>
     cases hz:q.testBit k with
     | false=>rfl
     | true =>
       have:=hq k hz;rw[hb]at this;cases this
   | true =>
     have hk:=cV hm hb;have e1:=(HU k hk hb).1;have e2:=(HU k0 hk0 (hq k0 hb0)).1;rw[hC _ (N.al k hk)]at e1;rw[hC _ (N.al k0 hk0)]at e2;exact full _ (N.al k hk) (spread (bC _ _ _ ((i6 e2).trans (i6 e1).symm))) k hk hb (.inl rfl)
theorem mZ(hm:m<2^N.n)(r:N.Ring m):∃ k0,k0<N.n/\m.testBit k0=true/\∀ k,k<N.n->m.testBit k=true->N.aN (fun k=>m.testBit k) N.n (N.a k)=N.aN (fun k=>m.testBit k) N.n (N.a k0):=by
 obtain⟨h0,ev,mn⟩:=r;obtain⟨k0,hb0⟩:=Nat.exists_testBit_of_ne_zero h0;have hk0:=cV hm hb0;refine⟨k0,hk0,hb0,?_⟩;generalize hs:N.aN (fun k=>m.testBit k) N.n (N.a k0)=s
 have bit:∀ k,(Ring.maskOf (fun k=>m.testBit k&&decide (N.aN (fun k=>m.testBit k) N.n (N.a k)=s)) N.n).testBit k=(decide (k<N.n)&&(m.testBit k&&decide (N.aN (fun k=>m.testBit k) N.n (N.a k)=s))):=fun k=>Ring.mask_bit _ k _
 have sub:∀ k,(Ring.maskOf (fun k=>m.testBit k&&decide (N.aN (fun k=>m.testBit k) N.n (N.a k)=s)) N.n).testBit k=true->m.testBit k=true:=fun k hk=>by
  rw[bit,Bool.and_eq_true,Bool.and_eq_true]at hk;exact hk.2.1
 have OA:N.ek (Ring.maskOf (fun k=>m.testBit k&&decide (N.aN (fun k=>m.testBit k) N.n (N.a k)=s)) N.n):=fun x hx=>by
  have e:N.bd (Ring.maskOf (fun k=>m.testBit k&&decide (N.aN (fun k=>m.testBit k) N.n (N.a k)=s)) N.n) x=(decide (N.aN (fun k=>m.testBit k) N.n x=s)&&N.bd m x):=by
   unfold Net.bd;rw[<-nX];refine bS fun k hk=>?_
   rw[bit,cU hk,Bool.true_and];cases hb:m.testBit k with
   | false=>simp
   | true =>
     cases hi:N.inc k x with
     | false=>simp
     | true =>
       have el:N.aN (fun k=>m.testBit k) N.n (N.a k)=N.aN (fun k=>m.testBit k) N.n x:=by
        rcases(qI hk).mp hi with z|z
        ·rw[z]
        ·rw[<-z];exact gZ (S:=fun k=>m.testBit k) hk hb
       rw[el];simp
  rw[e,ev x hx,Bool.and_false]
 rcases mn _ sub OA with q|q
 ·have:=bit k0;rw[q,hb0,hs,cU hk0]at this;simp at this
 ·intro k hk hb;have h:=bit k;rw[q,hb,cU hk]at h;exact i6 (by simpa using h.symm)
theorem uB(S:Nat->Bool):∀ k,k<=N.n->cnt (N.root S k) N.p+cnt (fun j=>S j && !decide (N.aN S j (N.a j)=N.aN S j (N.b j))) k=N.p
 | 0,_=>by
   show cnt (N.root S 0) N.p+0=N.p;rw[vd (f:=N.root S 0) fun x _=>cU rfl]
   rfl
 | k+1,hk=>by
   have ih:=uB S k (by lia)
   have st:=rD (N:=N) (S:=S) (k:=k) (by lia)
   show cnt (N.root S (k+1)) N.p+(cnt (fun j=>S j && !decide (N.aN S j (N.a j)=N.aN S j (N.b j))) k+if(S k && !decide (N.aN S k (N.a k)=N.aN S k (N.b k)))=true then 1 else 0)=N.p
   lia
theorem xg(hm:m<2^N.n)(r:N.Ring m)(C:Nat->Bool)(hC:∀ x,x<N.p->C x=decide (N.aN (fun k=>m.testBit k) N.n x=s))
 (Oz:∀ k,k<N.n->m.testBit k=true->C (N.a k)=true):2<=cnt C N.p/\cnt C N.p=cnt (fun k=>m.testBit k) N.n/\∀ x,x<N.p->C x=false->N.aN (fun k=>m.testBit k) N.n x=x/\∀ y,N.aN (fun k=>m.testBit k) N.n y=x->y=x:=by
 obtain⟨h0,ev,mn⟩:=r;obtain⟨k0,hb0⟩:=Nat.exists_testBit_of_ne_zero h0;have hk0:=cV hm hb0;have HU:∀ k,k<N.n->m.testBit k=true->C (N.a k)=true/\C (N.b k)=true:=fun k hk hb=>by
  have h:=Oz k hk hb;refine⟨h,?_⟩;rw[hC _ (N.al k hk)]at h;rw[hC _ (N.bl k hk),<-gZ (S:=fun k=>m.testBit k) hk hb]
  exact h
 have h2:2<=cnt C N.p:=qG (HU k0 hk0 hb0).1 (HU k0 hk0 hb0).2 (N.ne k0 hk0) (N.al k0 hk0) (N.bl k0 hk0);have none:∀ x,x<N.p->C x=false->N.dg m x=0:=fun x hx hc=>by
  cases hz:N.dg m x with
  | zero=>rfl
  | succ d =>
    exfalso
    obtain⟨k,hk,hb,FU⟩:=qJ (N:=N) (m:=m) (x:=x) (by lia)
    rcases FU with e|e
    ·have:=(HU k hk hb).1;rw[e,hc]at this;cases this
    ·have:=(HU k hk hb).2;rw[e,hc]at this;cases this
 have BK:∀ x,x<N.p->C x=false->N.aN (fun k=>m.testBit k) N.n x=x/\∀ y,N.aN (fun k=>m.testBit k) N.n y=x->y=x:=fun x hx hc=>by
  have hz:=none x hx hc;have r1:N.aN (fun k=>m.testBit k) N.n x=x:=alone hz (bC _ _ _ (bT _ _).symm)
  exact⟨r1,fun y hy=>alone hz (bC _ _ _ (r1.trans hy.symm))⟩
 refine⟨h2,?_,BK⟩;have pos:∀ x,x<N.p->C x=true->0<N.dg m x:=fun x hx hc=>by
  cases hz:N.dg m x with
  | succ d=>lia
  | zero =>
    exfalso
    obtain⟨y,hy,HV,hne⟩:∃ y,y<N.p/\C y=true/\y≠x:=by
     obtain⟨c,d,h1,h3,h4,h5⟩:=lY h2
     by_cases e:c=x
     ·exact⟨d,h3,h5,by lia⟩
     ·exact⟨c,by lia,h4,e⟩
    rw[hC x hx]at hc;rw[hC y hy]at HV;exact hne (alone hz (bC _ _ _ ((i6 hc).trans (i6 HV).symm)))
 have ge:cnt C N.p<=cnt (fun k=>m.testBit k) N.n:=by
  have h:sm (fun x=>if C x=true then 2 else 0) N.p<=sm (fun x=>N.dg m x) N.p:=AJ fun x hx=>by
   by_cases hc:C x=true
   ·rw[if_pos hc];have h1:=pos x hx hc;have h3:=qH ev hx
    lia
   ·rw[if_neg hc];exact Nat.zero_le _
  rw[vf]at h;have d:sm (fun x=>if C x=true then 2 else 0) N.p=2*cnt C N.p:=by
   rw[iV];have d:∀ n,2*sm (fun k=>if C k=true then 1 else 0) n=sm (fun k=>(if C k=true then 1 else 0)+(if C k=true then 1 else 0)) n:=fun n=>by
    rw[pA]
    lia
   rw[d];exact fR fun x _=>by split<;>rfl
  lia
 refine Nat.le_antisymm ge (Nat.le_of_not_lt fun more=>?_)
 have OB:=uB (N:=N) (fun k=>m.testBit k) N.n (Nat.le_refl _)
 have hr:cnt (N.root (fun k=>m.testBit k) N.n) N.p+cnt C N.p=N.p+1:=by
  have hc0:=(HU k0 hk0 hb0).1;rw[hC _ (N.al k0 hk0)]at hc0;have hs:=i6 hc0;have qX:s<N.p:=by rw[<-hs];exact jd (N.al k0 hk0)
  have hss:N.aN (fun k=>m.testBit k) N.n s=s:=by rw[<-hs];exact bT _ _
  have e:cnt (N.root (fun k=>m.testBit k) N.n) N.p=cnt (fun x=>!C x^^decide (s=x)) N.p:=eG fun x hx=>by
   unfold Net.root;cases hc:C x with
   | false =>
     have ne : ¬ s=x:=fun z=>by
      have:=hC x hx;rw[hc,<-z,hss]at this;simp at this
     rw[cU (BK x hx hc).1,ff ne];rfl
   | true =>
     have h:=hC x hx;rw[hc]at h;have h:=i6 h.symm;rw[h];simp
  rw[e,rM fun x hx ⟨z1,z2⟩=>by
   have z2:=i6 z2;have:=hC x hx;rw[<-z2,hss]at this;rw[<-z2,this]at z1;simp at z1,rL,if_pos qX]
  have:=jc C N.p
  lia
 have split:cnt (fun k=>m.testBit k) N.n=cnt (fun j=>m.testBit j && !decide (N.aN (fun k=>m.testBit k) j (N.a j)=N.aN (fun k=>m.testBit k) j (N.b j))) N.n+cnt (fun j=>m.testBit j&&decide (N.aN (fun k=>m.testBit k) j (N.a j)=N.aN (fun k=>m.testBit k) j (N.b j))) N.n:=by
  rw[<-rM fun x _ ⟨z1,z2⟩=>by
   rw[Bool.and_eq_true]at z1 z2;have:=z1.2;rw[z2.2]at this;cases this]
  refine eG fun k _=>?_
  cases m.testBit k<;>cases decide (N.aN (fun k=>m.testBit k) k (N.a k)=N.aN (fun k=>m.testBit k) k (N.b k))<;>rfl
 obtain⟨c,d,hcd,hd,hc1,hd1⟩:=lY (f:=fun j=>m.testBit j&&decide (N.aN (fun k=>m.testBit k) j (N.a j)=N.aN (fun k=>m.testBit k) j (N.b j))) (n:=N.n) (by lia)
 have whole:∀ j,j<N.n->(m.testBit j&&decide (N.aN (fun k=>m.testBit k) j (N.a j)=N.aN (fun k=>m.testBit k) j (N.b j)))=true->∀ i,m.testBit i=true->i<=j:=fun j hj h i hi=>by
  rw[Bool.and_eq_true]at h;obtain⟨t,t1,t2⟩:=BI (Nat.le_of_lt hj) (bC _ _ _ (i6 h.2));have own:(t^^^2^j).testBit j=true:=by
   rw[Nat.testBit_xor,Nat.testBit_two_pow,cU rfl];cases hz:t.testBit j with
   | false=>rfl
   | true=>exact absurd (t1 j hz).1 (Nat.lt_irrefl _)
  have sub:∀ k,(t^^^2^j).testBit k=true->m.testBit k=true:=fun k hk=>by
   rw[Nat.testBit_xor,Nat.testBit_two_pow]at hk
   by_cases e:j=k
   ·subst e;exact h.1
   ·rw[ff e,Bool.xor_false]at hk;exact(t1 k hk).2
  have OA:N.ek (t^^^2^j):=fun x hx=>by
   rw[g9,t2,mY hj];unfold Net.inc;cases decide (N.a j=x)<;>cases decide (N.b j=x)<;>rfl
  rcases mn _ sub OA with q|q
  ·rw[q]at own;simp at own
  ·rw[<-q,Nat.testBit_xor,Nat.testBit_two_pow]at hi
   by_cases e:j=i
   ·lia
   ·rw[ff e,Bool.xor_false]at hi;exact Nat.le_of_lt (t1 i hi).1
 have h1:m.testBit d=true:=by
  rw[Bool.and_eq_true]at hd1;exact hd1.1
 have:=whole c (by lia) hc1 d h1
 lia
end
end RM
namespace Ring
open PySem L2
def dG(L:Nat->Nat)(p:Nat):List Nat:=(eH L p).filter fun s=>decide (1<(pieceOf L p s).length)
def Jt(L:Nat->Nat)(p k:Nat):List Nat->Bool
 | [s]=>decide ((pieceOf L p s).length=k)
 | _=>false
def jN(p:Nat)(ts:List dF)(g:aA p ts)(m:Nat):Bool:=decide (rj p ts (m:Int)=[])&&Jt (bD p ts g m) p (bF (m:Int)).length (dG (bD p ts g m) p)
theorem iH(L:Nat->Nat)(p s:Nat):(pieceOf L p s).length=RM.cnt (fun x=>decide (L x=s)) p:=RM.gz _ _
theorem rO{m n:Nat}(hm:m<2^n):(bF (m:Int)).length=RM.cnt (fun k=>m.testBit k) n:=by
 rw[fQ hm];exact RM.gz _ _
theorem BL{f:Nat->Bool}{n c:Nat}(hc:c<n)(h:∀ k,k<n->f k=decide (k=c)):(List.range n).filter f=[c]:=by
 rw[<-mL hc];exact List.filter_congr fun k hk=>h k (List.mem_range.mp hk)
theorem jO{p:Nat}{ts:List dF}(g:aA p ts){m:Nat}(hm:m<2^ts.length):jN p ts g m=true↔g.N.Ring m:=by
 have eL:bD p ts g m=g.N.aN (fun k=>m.testBit k) g.N.n:=rfl
 have ep:g.N.p=p:=rfl
 constructor
 ·intro h;unfold jN at h;rw[Bool.and_eq_true]at h;obtain⟨h1,h2⟩:=h;have ev:=(w5 g hm).mp (i6 h1);unfold Jt at h2
  split at h2
  ·rename_i s hs
   have h2:=i6 h2;have hmem:s∈dG (bD p ts g m) p:=by rw[hs];exact List.mem_singleton.mpr rfl
   unfold dG at hmem;have hlen:=i6 (List.mem_filter.mp hmem).2;refine RM.AL (s:=s) hm ev (fun x=>decide (bD p ts g m x=s)) (fun x _=>by rw[eL]) ?_ (fun k hk hb=>?_) ?_
   ·rw[ep,<-iH];exact hlen
   ·
    have PN:=g.N.al k hk;have Sm:=g.N.bl k hk;have e:bD p ts g m (g.N.b k)=bD p ts g m (g.N.a k):=(RM.gZ (S:=fun k=>m.testBit k) hk hb).symm
    have hr:bD p ts g m (bD p ts g m (g.N.a k))=bD p ts g m (g.N.a k):=RM.bT _ _;have hlt:bD p ts g m (g.N.a k)<p:=RM.jd PN;have ht:bD p ts g m (g.N.a k)∈dG (bD p ts g m) p:=by
     unfold dG eH;refine List.mem_filter.mpr ⟨List.mem_filter.mpr ⟨List.mem_range.mpr hlt,cU hr⟩,cU ?_⟩;rw[iH];exact RM.qG (u:=g.N.a k) (v:=g.N.b k) (cU rfl) (cU e) (g.N.ne k hk) PN Sm
    rw[hs]at ht;exact cU (List.mem_singleton.mp ht)
   ·rw[ep,<-iH,h2];exact rO hm
  ·cases h2
 ·intro r;obtain⟨k0,hk0,hb0,hall⟩:=RM.mZ hm r;generalize hs:g.N.aN (fun k=>m.testBit k) g.N.n (g.N.a k0)=s at hall
  obtain⟨h2,hl,BK⟩:=RM.xg (s:=s) hm r (fun x=>decide (bD p ts g m x=s)) (fun x _=>by rw[eL]) (fun k hk hb=>cU (hall k hk hb))
  have qX:s<p:=by rw[<-hs];exact RM.jd (g.N.al k0 hk0)
  have hss:bD p ts g m s=s:=by rw[eL,<-hs];exact RM.bT _ _
  have ht:dG (bD p ts g m) p=[s]:=by
   unfold dG eH;rw[List.filter_filter];refine BL qX fun x hx=>?_
   by_cases e:x=s
   ·subst e;rw[cU hss,iH,cU rfl,Bool.and_true];exact cU h2
   ·rw[ff e]
    by_cases FU:bD p ts g m x=x
    ·have hc:decide (bD p ts g m x=s)=false:=ff (by rw[FU];exact e)
     obtain⟨_,q⟩:=BK x hx hc;have : ¬ 1<(pieceOf (bD p ts g m) p x).length:=fun z=>by
      rw[iH]at z;obtain⟨c,d,h1,_,h3,h4⟩:=RM.lY z;have h3:=q c (i6 h3);have h4:=q d (i6 h4)
      lia
     rw[ff this,Bool.false_and]
    ·rw[ff FU,Bool.and_false]
  unfold jN;rw[cU ((w5 g hm).mpr r.2.1),ht,Bool.true_and];refine cU ?_;rw[iH,rO hm];exact hl
theorem yT{p:Nat}{ts:List dF}{g:aA p ts}{m:Nat}(ev:rj p ts (m:Int)=[]):jN p ts g m=Jt (bD p ts g m) p (bF (m:Int)).length (dG (bD p ts g m) p):=by
 unfold jN;rw[cU ev,Bool.true_and]
def Ju(H:Hp)(y:V)(l:List Nat):Prop:=∃ b,y = .ref b/\H b=some (.lst (aB l))
def rP(f:List Nat->Bool)(ls:List (List Nat))(H:Hp)(D:Addr)(i:Nat)(acc:List V)(H2:Hp):Prop:=au H H2/\H2 D=some (.lst acc)/\Paired (Ju H) acc ((ls.take i).filter f)
section
variable {f:List Nat->Bool}{ls:List (List Nat)}{H H2 H3:Hp}{D:Addr}{i:Nat}{acc:List V}{y:V}{l:List Nat}
theorem rP.start(hD:H D=none):rP f ls H D 0 [] (upd H D (.lst [])):=⟨au.new hD,af,.nil⟩
theorem rP.len(h:rP f ls H D i acc H2):H2 D=some (.lst acc)/\acc.length<=i:=⟨h.2.1,by
 rw[h.2.2.length];exact Nat.le_trans (List.length_filter_le _ _) (by rw[List.length_take];lia)⟩
theorem rP.yes(h:rP f ls H D i acc H2)(hD:H D=none)(hl:ls[i]?=some l)(hf:f l=true)(hy:Ju H y l):H2 D=some (.lst acc)/\rP f ls H D (i+1) (acc++[y]) (upd H2 D (.lst (acc++[y]))):=by
 refine⟨h.2.1,h.1.put hD,af,?_⟩;rw[List.take_add_one,hl,List.filter_append];show Paired _ _ (_++List.filter f [l]);rw[List.filter_cons,if_pos hf];exact Paired.snoc h.2.2 hy
theorem rP.no(h:rP f ls H D i acc H2)(hl:ls[i]?=some l)(hf:f l=false):rP f ls H D (i+1) acc H2:=by
 refine⟨h.1,h.2.1,?_⟩;rw[List.take_add_one,hl,List.filter_append];show Paired _ _ (_++List.filter f [l]);rw[List.filter_cons,if_neg (by rw[hf];exact Bool.false_ne_true)]
 simpa using h.2.2
end
end Ring
namespace RM
variable {N:Net}
def Net.par(N:Net)(q m:Nat):Bool:=bJ (fun k=>q.testBit k&&m.testBit k) N.n
theorem AM(q r m:Nat):N.par (q^^^r) m=(N.par q m^^N.par r m):=by
 unfold Net.par;rw[<-iS];refine bS fun k _=>?_
 rw[Nat.testBit_xor];cases q.testBit k<;>cases r.testBit k<;>cases m.testBit k<;>rfl
theorem Ed(m:Nat):N.par 0 m=false:=iG fun k _=>by simp
end RM
namespace Ring
def orM(ks:List Nat):Nat:=ks.foldl (fun m k=>m ||| 2^k) 0
theorem Ef(ks:List Nat)(j:Nat):∀ m,(ks.foldl (fun m k=>m ||| 2^k) m).testBit j=(m.testBit j || decide (j∈ks)):=by
 induction ks with
 | nil=>intro m;simp
 | cons k r ih =>
   intro m;rw[List.foldl_cons,ih,Nat.testBit_or,Nat.testBit_two_pow]
   by_cases h:k=j
   ·subst h;simp
   ·have h' : ¬ j=k:=fun z=>h z.symm
    simp[h,h']
theorem AN(ks:List Nat)(j:Nat):(orM ks).testBit j=decide (j∈ks):=by
 unfold orM;rw[Ef];simp
theorem Jv{ks:List Nat}{n:Nat}(h:∀ k∈ks,k<n):orM ks<2^n:=RM.gA fun k hk=>by
 rw[AN]at hk;exact h k (i6 hk)
open PySem L2
theorem AO{p:Nat}{ts:List dF}{g:aA p ts}{q m:Nat}(hm:m<2^ts.length):decide ((bF ((q&&&m:Nat):Int)).length%2=1)=g.N.par q m:=by
 rw[rO (n:=ts.length) (Nat.and_lt_two_pow q hm)];unfold RM.Net.par;rw[RM.rK];have e:RM.cnt (fun k=>(q&&&m).testBit k) ts.length=RM.cnt (fun k=>q.testBit k&&m.testBit k) g.N.n:=RM.eG fun k _=>by rw[Nat.testBit_and]
 rw[e]
def xorL(rs:List Nat):Nat:=rs.foldl (fun m r=>m^^^r) 0
theorem BN(rs:List Nat):∀ m,rs.foldl (fun m r=>m^^^r) m=m^^^xorL rs:=by
 induction rs with
 | nil=>intro m;show m=m^^^0;simp
 | cons r rs ih =>
   intro m;show rs.foldl (fun m r=>m^^^r) (m^^^r)=m^^^rs.foldl (fun m r=>m^^^r) (0^^^r)
   rw[ih,ih,Nat.zero_xor,Nat.xor_assoc]
theorem xorL_snoc(rs:List Nat)(r:Nat):xorL (rs++[r])=xorL rs^^^r:=by
 unfold xorL;rw[List.foldl_append];rfl
theorem xorL_cons(rs:List Nat)(r:Nat):xorL (r::rs)=r^^^xorL rs:=by
 show rs.foldl (fun m r=>m^^^r) (0^^^r)=_
 rw[BN,Nat.zero_xor]
theorem BO{a b:List Nat}(h:a.Perm b):xorL a=xorL b:=by
 induction h with
 | nil=>rfl
 | cons x _ ih=>rw[xorL_cons,xorL_cons,ih]
 | swap x y l =>
   rw[xorL_cons,xorL_cons,xorL_cons,xorL_cons,<-Nat.xor_assoc,<-Nat.xor_assoc,Nat.xor_comm x y]
 | trans _ _ ih1 ih2=>rw[ih1,ih2]
end Ring
namespace RM
variable {N:Net}{m t0:Nat}
def Net.D2(N:Net)(m:Nat):Prop:=∀ x,x<N.p->N.dg m x=0\/N.dg m x=2
theorem D2.OD(h:N.D2 m):N.ek m:=fun x hx=>by
 rw[AK];refine ff ?_;rcases h x hx with e|e<;>lia
theorem Eg(C:Nat->Bool):∀ n,sm (fun x=>if C x=true then 2 else 0) n=2*cnt C n:=fun n=>by
 rw[iV];have:sm (fun k=>if C k=true then 2 else 0) n=sm (fun k=>(if C k=true then 1 else 0)+(if C k=true then 1 else 0)) n:=fR fun k _=>by
  by_cases h:C k=true
  ·rw[if_pos h,if_pos h]
  ·rw[if_neg h,if_neg h]
 rw[this,pA]
 lia
theorem GN(hm:m<2^N.n)(r:N.Ring m):N.D2 m:=by
 obtain⟨k0,hk0,hb0,hall⟩:=mZ hm r;generalize hs:N.aN (fun k=>m.testBit k) N.n (N.a k0)=s at hall
 have hC:∀ x,x<N.p->(fun x=>decide (N.aN (fun k=>m.testBit k) N.n x=s)) x=decide (N.aN (fun k=>m.testBit k) N.n x=s):=fun x _=>rfl
 obtain⟨h2,hl,BK⟩:=xg (s:=s) hm r _ hC (fun k hk hb=>cU (hall k hk hb))
 generalize VA:(fun x=>decide (N.aN (fun k=>m.testBit k) N.n x=s))=C at hC h2 hl BK
 have none:∀ x,x<N.p->C x=false->N.dg m x=0:=fun x hx hc=>by
  cases hz:N.dg m x with
  | zero=>rfl
  | succ d =>
    exfalso
    obtain⟨k,hk,hb,FU⟩:=qJ (N:=N) (m:=m) (x:=x) (by lia)
    rw[hC x hx]at hc;refine of_decide_eq_false hc ?_;rcases FU with e|e
    ·rw[<-e];exact hall k hk hb
    ·rw[<-e,<-gZ (S:=fun k=>m.testBit k) hk hb]
     exact hall k hk hb
 have pos:∀ x,x<N.p->C x=true->0<N.dg m x:=fun x hx hc=>by
  cases hz:N.dg m x with
  | succ d=>lia
  | zero =>
    exfalso
    obtain⟨y,hy,HV,hne⟩:∃ y,y<N.p/\C y=true/\y≠x:=by
     obtain⟨c,d,h1,h3,h4,h5⟩:=lY h2
     by_cases e:c=x
     ·exact⟨d,h3,h5,by lia⟩
     ·exact⟨c,by lia,h4,e⟩
    rw[hC x hx]at hc;rw[hC y hy]at HV;exact hne (alone hz (bC _ _ _ ((i6 hc).trans (i6 HV).symm)))
 have hle:∀ x,x<N.p->(if C x=true then 2 else 0)<=N.dg m x:=fun x hx=>by
  by_cases hc:C x=true
  ·rw[if_pos hc];have h1:=pos x hx hc;have h3:=qH r.2.1 hx
   lia
  ·rw[if_neg hc];exact Nat.zero_le _
 have he:sm (fun x=>if C x=true then 2 else 0) N.p=sm (fun x=>N.dg m x) N.p:=by
  rw[Eg,vf,hl]
 intro x hx;have:=Eb hle he x hx
 by_cases hc:C x=true
 ·rw[if_pos hc]at this;exact .inr this.symm
 ·rw[if_neg hc]at this;exact .inl this.symm
end RM
namespace Ring
open PySem L2
theorem yU{H:Hp}{xs:List V}{p:Nat}{ts:List dF}{g:aA p ts}{k:Nat}(h3:Paired (TupAt H) xs ts)(hk:k<ts.length):∃ c,xs[k]?=some (.ref c)/\H c=some (.tup [.int ((g.N.a k:Nat):Int),.int ((g.N.b k:Nat):Int),.int (cI ts k).2.2]):=by
 have hkx:k<xs.length:=by rw[h3.length];exact hk
 obtain⟨t,ht,c,hc,hct⟩:=Paired.rf h3 (i:=k) (x:=xs[k]) (by simp[hkx])
 have LK:t=cI ts k:=by
  have z:=o9 hk;rw[ht]at z;exact Option.some.inj z
 refine⟨c,by rw[<-hc];simp[hkx],?_⟩
 rw[hct,<-AB hk,<-AD hk,LK];rfl
end Ring
namespace L2
open PySem PySem.Spec PyProof.Rows PySem.W
def sY(n:Nat){α:Type}(R:α->Prop):KasT α->Prop
 | .ret a=>R a
 | .ask i j k=>i<n/\j<n/\∀ b,sY n R (k b)
theorem sY.bind{n:Nat}{α β:Type}{R:α->Prop}{R' : β->Prop}{f:α->KasT β}:∀{t:KasT α},sY n R t->(∀ a,R a->sY n R' (f a))->sY n R' (t.bind f)
 | .ret a,h,g=>by
   rw[KasT.bind.eq_1];exact g a h
 | .ask i j k,h,g=>by
   rw[KasT.bind.eq_2];exact⟨h.1,h.2.1,fun b=>sY.bind (h.2.2 b) g⟩
def c5(n:Nat)(p:Array Nat):Prop:=p.toList.Perm (List.range n)
theorem c5.at{n:Nat}{p:Array Nat}(h:c5 n p)(hn:0<n)(x:Nat):p.getD x 0<n:=by
 unfold Array.getD
 split
 ·rename_i hx
  have:p[x]∈p.toList:=by simp
  exact List.mem_range.mp (h.mem_iff.mp this)
 ·exact hn
theorem BP{n:Nat}{p:Array Nat}(h:c5 n p)(i j:Nat):c5 n (p.swapIfInBounds i j):=by
 unfold Array.swapIfInBounds
 split
 ·split
  ·exact(Array.perm_iff_toList_perm.mp (Array.swap_perm _ _)).trans h
  ·exact h
 ·exact h
theorem pB{n:Nat}(f g:Nat->Nat):∀(l:List Nat) {p:Array Nat},c5 n p->c5 n (l.foldl (fun a k=>a.swapIfInBounds (f k) (g k)) p)
 | [],_,h=>h
 | k::l,_,h=>pB f g l (BP h (f k) (g k))
theorem ly{n:Nat}{p:Array Nat}(h:c5 n p)(i j:Nat):c5 n (kas_rev p i j):=pB _ _ _ h
theorem Eh{n:Nat}{p:Array Nat}(h:c5 n p)(i j:Nat):c5 n (bubble p i j):=pB _ _ _ h
theorem yV{n:Nat}{p:Array Nat}(h:c5 n p)(hn:0<n):∀ f x,sY n (fun _=>True) (kas_asc p f x)
 | 0,x=>by
   rw[kas_asc.eq_1];trivial
 | f+1,x=>by
   rw[kas_asc.eq_2];refine⟨h.at hn _,h.at hn _,fun b=>?_⟩
   cases b with
   | true=>trivial
   | false=>exact yV h hn f (x+1)
theorem qK{n:Nat}(hn:0<n):∀ f {p:Array Nat} (x q:Nat),c5 n p->sY n (fun r:Array Nat×Nat×Nat=>c5 n r.1) (kas_desc f p x q)
 | 0,p,x,q,h=>by
   rw[kas_desc.eq_1];exact h
 | f+1,p,x,q,h=>by
   rw[kas_desc.eq_2];refine⟨h.at hn _,h.at hn _,fun b=>?_⟩
   cases b with
   | true =>
     show sY n _ (if q > 0 then _ else _)
     by_cases hq:q > 0
     ·rw[if_pos hq];exact qK hn f _ _ (ly h _ _)
     ·rw[if_neg hq];exact qK hn f _ _ h
   | false =>
     refine⟨h.at hn _,h.at hn _,fun b=>?_⟩
     cases b with
     | true=>exact h
     | false=>exact qK hn f _ _ h
theorem AQ{n:Nat}(hn:0<n){p:Array Nat}(h:c5 n p)(x r:Nat):sY n (fun r:Nat×Array Nat=>c5 n r.2) (kas_tail3 x r p) :=
 sY.bind (yV (ly h _ _) hn _ _) fun _ _=>ly h _ _
theorem AR{n:Nat}(hn:0<n){p:Array Nat}(h:c5 n p)(x r:Nat):sY n (fun r:Nat×Array Nat=>c5 n r.2) (kas_descPart x r p):=by
 refine sY.bind (qK hn _ _ _ h) fun y hy=>?_
 by_cases hq:y.2.2 > 0
 ·rw[if_pos hq];exact AQ hn (ly hy _ _) _ _
 ·rw[if_neg hq];exact AQ hn hy _ _
theorem Ei{n:Nat}(hn:0<n){p:Array Nat}(h:c5 n p)(r:Nat):sY n (fun r:Nat×Array Nat=>c5 n r.2) (kas_count r p):=by
 refine sY.bind (yV h hn _ _) fun y _=>?_
 by_cases h1:(y==r)=true
 ·rw[if_pos h1];exact h
 ·rw[if_neg h1]
  by_cases h2:y > 1
  ·rw[if_pos h2];refine⟨h.at hn _,h.at hn _,fun b=>?_⟩
   cases b with
   | true=>exact h
   | false=>exact AR hn (ly h _ _) _ _
  ·rw[if_neg h2];exact AR hn h _ _
theorem rQ{n:Nat}(hn:0<n){p:Array Nat}(h:c5 n p)(k:Nat):∀ f x y,sY n (fun _=>True) (kas_place p k f x y)
 | 0,x,y=>by
   rw[kas_place.eq_1];trivial
 | f+1,x,y=>by
   rw[kas_place.eq_2]
   by_cases hx:x ≥ y
   ·rw[if_pos hx];trivial
   ·rw[if_neg hx];refine⟨h.at hn _,h.at hn _,fun b=>?_⟩
    cases b with
    | true=>exact rQ hn h k f _ _
    | false=>exact rQ hn h k f _ _
theorem Ej{n:Nat}(hn:0<n):∀ f {p:Array Nat} (x:Nat),c5 n p->sY n (c5 n) (kas_bin f p x)
 | 0,p,x,h=>by
   rw[kas_bin.eq_1];exact h
 | f+1,p,x,h=>by
   rw[kas_bin.eq_2];exact sY.bind (rQ hn h _ _ _ _) fun l _=>Ej hn f _ (Eh h _ _)
theorem AS{n:Nat}(hn:0<n):sY n (c5 n) (kas_sort n):=by
 unfold kas_sort;have h0:c5 n (List.range n).toArray:=by unfold c5;simp
 refine sY.bind (Ei hn h0 n) fun r hr=>?_
 by_cases hx:r.1<n
 ·rw[if_pos hx];exact Ej hn _ _ hr
 ·rw[if_neg hx];exact hr
def HW(h:Heap)(v:Value):Prop:=∃(a:Addr) (o:Obj) (x y:Int) (t u:Tok) (k:Nat),v = .ref a/\h.get? a=some o/\o.cls = .type "tuple"/\o.data = .seq #[.int x t,.int y u] k
theorem uC{prog:Program}{w:World}{A:Around}{E:ig}{s:Shared}{vs:List Value}{Q:SortKind->Shared->Prop}(hn:0<vs.length)(hv:∀ v∈vs,HW s.heap v)(q:Q (tuples' true) s):wpAny (model prog w) A (keyKind' vs.toArray) Q E s:=by
 obtain⟨fs,hl,hf,hk⟩:∃ fs:List Value,fs.length=vs.length/\(∀ v∈fs,∃ x t,v=Value.int x t)/\KatTups s.heap vs fs:=by
  clear q hn
  induction vs with
  | nil=>exact⟨[],rfl,fun v hv=>(by cases hv),by rw[KatTups.eq_1];trivial⟩
  | cons v vs ih =>
    obtain⟨fs,h1,h2,h3⟩:=ih fun v LL=>hv v (lU _ LL)
    obtain⟨a,o,x,y,t,u,k,e,ho,hc,hd⟩:=hv v List.mem_cons_self;refine⟨.int x t::fs,by simp[h1],fun v' LL=>?_,?_⟩
    ·rcases List.mem_cons.mp LL with rfl|LL
     ·exact⟨x,t,rfl⟩
     ·exact h2 v' LL
    ·rw[KatTups.eq_2];exact⟨⟨a,o,_,k,e,ho,hc,hd,rfl⟩,h3⟩
 refine kat_kind (T:=.type "int") hk (by lia) (fun v hv=>?_) (by decide) q
 obtain⟨x,t,rfl⟩:=hf v hv;intro A Q E s _ q;exact wpAny_pure q
section
variable {X:Cx}{pq:aW}{σ:St}{H:Hp}{s:Shared}{h' : Heap}
theorem Inv.LM{a:Addr}{o:HO}{t' : Nat}(I:Inv X pq σ H s)(k:∀ b u,b≠X.env.locals->s.heap.get? b=some u->h'.get? b=some u)(ns:∀ m,s.heap.Ns X.env.locals m->h'.Ns X.env.locals m)(hp:s.heap.objs.size<=a)(new:bN X.prog X.w (upd H a o) h' a o):
 Inv X pq σ (upd H a o) { s with heap:=h',toks:=t'}:=by
 have hn:H a=none:=I.hok.fresh hp;have nl:∀ b u,H b=some u->b≠X.env.locals:=fun b u e z=>by
  rw[z,I.free]at e;cases e
 refine I.step (g':=s.gens) (d':=s.drawn) (ch:=[]) (fun b hb=>absurd hb List.not_mem_nil) (fun b o hb _ _ e _=>k b o hb e) (fun b o hb _ _ e _=>⟨o.slots,k b o hb e⟩) (fun b u _ e n=>?_) (fun b o _ e=>?_) (fun b xs e=>?_) (fun b u xs e=>?_) (fun b ps e=>?_) ns (fun b u e=>?_) I.bare
 ·rw[av (Nat.ne_of_lt (Nat.lt_of_lt_of_le (Heap.lt_size e) hp))];exact n
 ·by_cases hb:b=X.env.locals
  ·subst hb;obtain⟨m,hm,_⟩:=I.loc;obtain⟨o',es,ep,e',_⟩:=ns m hm;exact⟨o',e'⟩
  ·exact⟨o,k b o hb e⟩
 ·rw[av (bf e hn)];exact e
 ·rw[av (bf e hn)];exact e
 ·exact⟨#[],by rw[av (bf e hn),e];simp⟩
 ·by_cases hb:b=a
  ·subst hb;rw[af]at e;cases e;exact new
  ·rw[av hb]at e;refine(I.hok b u e).stay (fun c v hc q=>k c v ?_ q) (fun c q=>by rw[av (bf q hn)];exact q) fun c xs q=>by rw[av (bf q hn)];exact q
   rcases hc with rfl|hc
   ·exact nl _ _ e
   ·exact nl _ _ hc
theorem Jw{h:Heap}{L:Addr}{m m' : kX}(a:h.Ns L m)(b:h.Ns L m'):m=m':=by
 obtain⟨o,es,ep,e,d,_,f⟩:=a;obtain⟨o',es',MQ,e',d',_,f'⟩:=b;rw[e]at e';cases e';rw[d]at d';cases d'
 funext x
 rw[<-f x,f' x]
end
theorem Ek{prog:Program}{w:World}{A:Around}{E:ig}{s:Shared}{a:Addr}{its:List Value}{n0:Nat}{P:PySem.Fin->Shared->Prop}(ho:s.heap.get? a=some (seqObj "list" its.toArray n0))(hn:its.length<2)
 (q:P (PySem.Fin.done (PySem.Flow.ret PySem.Value.none)) { s with heap:=sortedHeap s.heap a its its.toArray}):wpAny (model prog w) A (PySem.Builtin.«list.sort» { pos:=[PySem.Value.ref a]}) P E s:=by
 have hs1:its.length<=1000:=by lia
 have ht:its.toArray.size<=sizeLine:=by
  rw[List.size_toArray];exact dl (Nat.ble_eq.mpr hs1)
 rw[list_sort_plain];refine dB (listItems_at ho rfl ?_);refine dB (listUpdate_at ho rfl ?_ ht (Nat.zero_le _));obtain⟨n1,FQ⟩:∃ n1,(s.heap.update a (Obj.mapSeq fun _=>#[])).get? a=some (seqObj "list" #[] n1):=by
  exact⟨_,get?_update_seq ho fun _=>#[]⟩
 refine dB (seqEpoch_at FQ rfl ?_);refine dB (wpAny_newTuple ?_ (by simpa using ht))
 refine dB (wpAny_newList ?_ (Nat.zero_le _));refine wpAny_holding ?_;have hsz:its.toArray.size<2:=by simpa using hn
 simp only[hsz,↓reduceIte];refine dB (wpAny_pure ?_);refine dB (m:=pure ((),SortSt.mk' general' (its.toArray.zip its.toArray) #[] 7 none)) (wpAny_pure ?_);have PR:(((s.heap.update a (Obj.mapSeq fun x=>#[])).push { cls:=Value.type "tuple",data:=Data.seq its.toArray}).push { cls:=Value.type "list",data:=Data.seq #[]}).get? a=some (seqObj "list" #[] n1):=by
  have h1:=Heap.lt_size FQ;rw[Heap.get?_push_ne _ _ _ (Nat.ne_of_lt (by rw[size_push'];exact Nat.lt_succ_of_lt h1)),Heap.get?_push_ne _ _ _ (Nat.ne_of_lt h1)]
  exact FQ
 refine dB (seqEpoch_at PR rfl ?_);refine dB (listUpdate_at PR rfl ?_ (Nat.zero_le _) ?_)
 ·show wpAny _ _ (if(n1 != n1)=true then _ else ret Value.none) _ _ _
  rw[if_neg (by simp)]
  refine wpAny_pure ?_;have e:Array.map (fun x:Keyed=>x.snd) (its.toArray.zip its.toArray)=its.toArray:=by
   simp;exact List.map_snd_zip (Nat.le_refl _)
  have e2:Array.map (fun x:Keyed=>x.snd) (arrOf (SortSt.mk' general' (its.toArray.zip its.toArray) #[] 7 none))=its.toArray:=e
  rw[e2];exact q
 ·have e:Array.map (fun x:Keyed=>x.snd) (its.toArray.zip its.toArray)=its.toArray:=by
   simp;exact List.map_snd_zip (Nat.le_refl _)
  have e2:Array.map (fun x:Keyed=>x.snd) (arrOf (SortSt.mk' general' (its.toArray.zip its.toArray) #[] 7 none))=its.toArray:=e
  show(Array.map (fun x:Keyed=>x.snd) (arrOf (SortSt.mk' general' (its.toArray.zip its.toArray) #[] 7 none))).size<=_
  rw[e2];exact Nat.le_succ_of_le ht
end L2
namespace RM
variable {N:Net}{row:Nat->Int}
theorem lZ:∀{l L:List Nat},l.Nodup->(∀ x∈l,x∈L)->l.length<=L.length
 | [],_,_,_=>Nat.zero_le _
 | x::l,L,nd,h=>by
   have hx:=h x List.mem_cons_self;have PU:=List.nodup_cons.mp nd;have:=lZ (L:=L.erase x) PU.2 fun y hy=>(List.mem_erase_of_ne (fun z:y=x=>PU.1 (by rw[<-z];exact hy))).mpr (h y (lU _ hy))
   rw[List.length_erase_of_mem hx]at this;have:=List.length_pos_of_mem hx;rw[List.length_cons]
   lia
def code(m:Nat):List Nat->Nat
 | []=>0
 | c::cs=>(if m.testBit c=true then 1 else 0)+2*code m cs
theorem vg(m:Nat):∀ cs,code m cs<2^cs.length
 | []=>Nat.one_pos
 | c::cs=>by
   have:=vg m cs;unfold code;rw[List.length_cons,Nat.pow_succ]
   split<;>lia
theorem code_inj{m q:Nat}:∀{cs},code m cs=code q cs->∀ c∈cs,m.testBit c=q.testBit c
 | [],_,c,hc=>by cases hc
 | d::cs,h,c,hc=>by
   unfold code at h;have h1:m.testBit d=q.testBit d:=by
    cases hm:m.testBit d<;>cases hq:q.testBit d
    ·rfl
    ·rw[hm,hq,if_neg Bool.false_ne_true,if_pos rfl]at h;lia
    ·rw[hm,hq,if_neg Bool.false_ne_true,if_pos rfl]at h;lia
    ·rfl
   rcases List.mem_cons.mp hc with rfl|hc
   ·exact h1
   ·rw[h1]at h;exact code_inj (by lia) c hc
theorem BQ{l:List Nat}(nd:l.Nodup)(h:∀ m∈l,m<2^N.n/\N.Ring m):l.length<2^N.az.length:=by
 have inj:∀ m q,m<2^N.n->q<2^N.n->N.ek m->N.ek q->code m N.az=code q N.az->m=q:=fun m q hm hq em eq e=>iU hm hq em eq fun c hc hf=>code_inj e c (cS.mpr ⟨hc,hf⟩)
 have OE:((0:Nat)::l.map fun m=>code m N.az).Nodup:=by
  refine List.nodup_cons.mpr ⟨fun z=>?_,?_⟩
  ·obtain⟨m,hm,e⟩:=List.mem_map.mp z;obtain⟨h1,h2⟩:=h m hm;have e0:code 0 N.az=0:=by
    have:∀ cs,code 0 cs=0:=fun cs=>by
     induction cs with
     | nil=>rfl
     | cons c cs ih =>
       unfold code;rw[Nat.zero_testBit,ih,if_neg Bool.false_ne_true]
    exact this _
   exact h2.1 (inj m 0 h1 (Nat.two_pow_pos _) h2.2.1 ek.zero (by rw[e,e0]))
  ·refine List.Pairwise.map _ (fun a b (hab:a≠b/\a∈l/\b∈l)=>?_) ?_ (R:=fun a b=>a≠b/\a∈l/\b∈l)
   ·obtain⟨h1,h2⟩:=h a hab.2.1;obtain⟨h3,h4⟩:=h b hab.2.2;exact fun e=>hab.1 (inj a b h1 h3 h2.2.1 h4.2.1 e)
   ·exact List.Pairwise.imp_of_mem (fun {a b} ha hb hne=>⟨hne,ha,hb⟩) nd
 have:=lZ (L:=List.range (2^N.az.length)) OE fun x hx=>by
  refine List.mem_range.mpr ?_;rcases List.mem_cons.mp hx with rfl|hx
  ·exact Nat.two_pow_pos _
  ·obtain⟨m,_,rfl⟩:=List.mem_map.mp hx;exact vg _ _
 rw[List.length_cons,List.length_map,List.length_range]at this
 lia
variable {N:Net}
variable {N:Net}
theorem Jx{m x0:Nat}(hm:m<2^N.n)(d2:N.D2 m)(FW:x0<N.p)(hd0:N.dg m x0=2):
 N.Ring m↔∀ x,x<N.p->(N.aN (fun k=>m.testBit k) N.n x=N.aN (fun k=>m.testBit k) N.n x0↔N.dg m x=2):=by
 constructor
 ·intro r x hx;obtain⟨k0,hk0,hb0,hall⟩:=mZ hm r;have on:∀ y,y<N.p->N.dg m y=2->N.aN (fun k=>m.testBit k) N.n y=N.aN (fun k=>m.testBit k) N.n (N.a k0):=fun y hy hd=>by
   obtain⟨k,hk,hb,FU⟩:=qJ (N:=N) (m:=m) (x:=y) (by lia)
   rw[<-hall k hk hb];rcases FU with e|e
   ·rw[e]
   ·rw[<-e];exact(gZ (S:=fun k=>m.testBit k) hk hb).symm
  constructor
  ·intro e;rcases d2 x hx with z|z
   ·exfalso
    have:=alone z (bC _ _ _ e);rw[this]at hd0
    lia
   ·exact z
  ·intro hd;rw[on x hx hd,on x0 FW hd0]
 ·intro h;have hpos:∀ k,k<N.n->m.testBit k=true->N.aN (fun k=>m.testBit k) N.n (N.a k)=N.aN (fun k=>m.testBit k) N.n x0:=fun k hk hb=>by
   refine(h _ (N.al k hk)).mpr ?_;have h1:=rN hk hb (.inl rfl);rcases d2 _ (N.al k hk) with z|z
   ·lia
   ·exact z
  have hs:sm (fun x=>N.dg m x) N.p=2*cnt (fun x=>decide (N.aN (fun k=>m.testBit k) N.n x=N.aN (fun k=>m.testBit k) N.n x0)) N.p:=by
   rw[<-Eg];refine fR fun x hx=>?_
   by_cases e:N.aN (fun k=>m.testBit k) N.n x=N.aN (fun k=>m.testBit k) N.n x0
   ·rw[if_pos (cU e)];exact(h x hx).mp e
   ·rw[if_neg (by rw[ff e];decide)]
    rcases d2 x hx with z|z
    ·exact z
    ·exact absurd ((h x hx).mpr z) e
  have hl:cnt (fun x=>decide (N.aN (fun k=>m.testBit k) N.n x=N.aN (fun k=>m.testBit k) N.n x0)) N.p=cnt (fun k=>m.testBit k) N.n:=by
   rw[vf]at hs
   lia
  refine AL hm (D2.OD d2) (fun x=>decide (N.aN (fun k=>m.testBit k) N.n x=N.aN (fun k=>m.testBit k) N.n x0)) (fun x _=>rfl) ?_ (fun k hk hb=>cU (hpos k hk hb)) hl
  rw[hl];have:N.dg m x0<=cnt (fun k=>m.testBit k) N.n:=yS fun k _ hk=>(Bool.and_eq_true_iff.mp hk).1
  lia
inductive Sp(B:List Nat):Nat->Prop
 | zero:Sp B 0
 | add {x b:Nat} (h:Sp B x) (hb:b∈B):Sp B (x^^^b)
section
variable {B C:List Nat}{x y b:Nat}
theorem Sp.mem(h:b∈B):Sp B b:=by
 have:=Sp.add .zero h;rw[Nat.zero_xor]at this;exact this
theorem Sp.xor(h:Sp B x)(h' : Sp B y):Sp B (x^^^y):=by
 induction h' with
 | zero=>rw[Nat.xor_zero];exact h
 | add _ hb ih=>rw[<-Nat.xor_assoc];exact .add ih hb
theorem Sp.mono(h:Sp B x)(hc:∀ b∈B,Sp C b):Sp C x:=by
 induction h with
 | zero=>exact .zero
 | add _ hb ih=>exact ih.xor (hc _ hb)
theorem jP(x b:Nat):x^^^b^^^b=x:=by rw[Nat.xor_assoc,Nat.xor_self,Nat.xor_zero]
theorem Sp.rR:Sp (b::B) x↔Sp B x\/Sp B (x^^^b):=by
 constructor
 ·intro h
  induction h with
  | zero=>exact .inl .zero
  | add h hc ih =>
    rename_i x c
    rcases List.mem_cons.mp hc with e|e
    ·subst e;rcases ih with ih|ih
     ·exact .inr (by rw[jP];exact ih)
     ·exact .inl ih
    ·rcases ih with ih|ih
     ·exact .inl (.add ih e)
     ·exact .inr (by rw[Nat.xor_assoc,Nat.xor_comm c,<-Nat.xor_assoc];exact .add ih e)
 ·rintro(h|h)
  ·exact h.mono fun c hc=>.mem (lU _ hc)
  ·have h2:Sp (b::B) (x^^^b):=h.mono fun c hc=>.mem (lU _ hc)
   have:=h2.add (b:=b) List.mem_cons_self;rw[jP]at this;exact this
theorem Sp.off{t:Nat}(h:Sp B x)(hz:∀ b∈B,b.testBit t=false):x.testBit t=false:=by
 induction h with
 | zero=>exact Nat.zero_testBit t
 | add _ hb ih=>rw[Nat.testBit_xor,ih,hz _ hb];rfl
theorem Sp.lt{n:Nat}(h:Sp B x)(hz:∀ b∈B,b<2^n):x<2^n:=by
 induction h with
 | zero=>exact Nat.two_pow_pos n
 | add _ hb ih=>exact Nat.xor_lt_two_pow ih (hz _ hb)
end
inductive HX:List (Nat×Nat)->Prop
 | nil:HX []
 | cons {t r:Nat} {rest:List (Nat×Nat)} (h:HX rest) (hr:r.testBit t=true) (hz:∀ q∈rest,q.2.testBit t=false):HX ((t,r)::rest)
def xh(rows:List (Nat×Nat))(x:Nat):Nat:=rows.foldl (fun x q=>if x.testBit q.1=true then x^^^q.2 else x) x
section
variable {rows:List (Nat×Nat)}{x t:Nat}
theorem qL(rows:List (Nat×Nat)):∀ x,Sp (rows.map (·.2)) (x^^^xh rows x):=by
 induction rows with
 | nil=>intro x;show Sp [] (x^^^x);rw[Nat.xor_self];exact .zero
 | cons q rest ih =>
   intro x;show Sp (q.2::rest.map (·.2)) (x^^^xh rest (if x.testBit q.1=true then x^^^q.2 else x))
   have h:=ih (if x.testBit q.1=true then x^^^q.2 else x)
   by_cases e:x.testBit q.1=true
   ·rw[if_pos e]at h ⊢;refine Sp.rR.mpr (.inr ?_);rw[Nat.xor_assoc,Nat.xor_comm _ q.2,<-Nat.xor_assoc];exact h
   ·rw[if_neg e]at h ⊢;exact Sp.rR.mpr (.inl h)
theorem BR(hz:∀ q∈rows,q.2.testBit t=false):∀{x},x.testBit t=false->(xh rows x).testBit t=false:=by
 induction rows with
 | nil=>intro x h;exact h
 | cons q rest ih =>
   intro x h;have h2:(if x.testBit q.1=true then x^^^q.2 else x).testBit t=false:=by
    by_cases e:x.testBit q.1=true
    ·rw[if_pos e,Nat.testBit_xor,h,hz q List.mem_cons_self];rfl
    ·rw[if_neg e];exact h
   exact ih (fun q' hq=>hz q' (lU _ hq)) h2
theorem uD(h:HX rows):∀ x,∀ q∈rows,(xh rows x).testBit q.1=false:=by
 induction h with
 | nil=>intro x q hq;cases hq
 | cons h hr hz ih =>
   rename_i t r rest
   intro x q hq;show(xh rest (if x.testBit t=true then x^^^r else x)).testBit q.1=false
   rcases List.mem_cons.mp hq with e|e
   ·subst e;refine BR hz ?_
    by_cases e:x.testBit t=true
    ·rw[if_pos e,Nat.testBit_xor,e,hr];rfl
    ·rw[if_neg e];exact Hx.mpr e
   ·exact ih _ q e
theorem El(h:HX rows):∀{x},Sp (rows.map (·.2)) x->(∀ q∈rows,x.testBit q.1=false)->x=0:=by
 induction h with
 | nil=>intro x hs _;cases hs with
   | zero=>rfl
   | add _ hb=>cases hb
 | cons h hr hz ih =>
   rename_i t r rest
   intro x hs hx;have off:∀ y,Sp (rest.map (·.2)) y->y.testBit t=false:=fun y hy=>hy.off fun b hb=>by
    obtain⟨q,hq,rfl⟩:=List.mem_map.mp hb;exact hz q hq
   rcases Sp.rR.mp hs with hs|hs
   ·exact ih hs fun q hq=>hx q (lU _ hq)
   ·exfalso
    have h1:=off _ hs;have h2:=hx (t,r) List.mem_cons_self;rw[Nat.testBit_xor]at h1;have h2:x.testBit t=false:=h2;rw[h2,hr]at h1;cases h1
theorem BS(h:HX rows)(x:Nat):xh rows x=0↔Sp (rows.map (·.2)) x:=by
 have hs:=qL rows x
 constructor
 ·intro e;rw[e,Nat.xor_zero]at hs;exact hs
 ·intro hx;refine El h ?_ (uD h x);have:=hx.xor hs;rw[<-Nat.xor_assoc,Nat.xor_self,Nat.zero_xor]at this;exact this
end
open Classical in
open Classical in
theorem GO{x:Nat}(h:x≠0):x.testBit x.log2=true:=Nat.testBit_log2 h
open Ring (xorL xorL_cons maskOf)
variable {N:Net}
theorem gP{z:Nat}:N.ek (N.dM z N.az 0)/\N.dM z N.az 0<2^N.n:=lX fun c hc=>(cS.mp hc).1
theorem uE:N.az.Nodup:=List.Pairwise.filter _ List.nodup_range
theorem BU:N.az.Pairwise (· < ·):=List.Pairwise.filter _ List.pairwise_lt_range
theorem kc{z j d:Nat}(h:N.az[j]?=some d):(N.dM z N.az 0).testBit d=z.testBit j:=by
 rw[w4 uE (fun c hc=>(cS.mp hc).2) h,Nat.zero_add]
theorem rS{c:Nat}(hc:c<N.n)(hf:N.kW c=false):∃ j:Nat,N.az[j]?=some c:=List.getElem?_of_mem (cS.mpr ⟨hc,hf⟩)
theorem yW(z y:Nat):N.dM (z^^^y) N.az 0=N.dM z N.az 0^^^N.dM y N.az 0:=by
 refine iU gP.2 (Nat.xor_lt_two_pow gP.2 gP.2) gP.1 (ek.xor gP.1 gP.1) fun c hc hf=>?_
 obtain⟨j,hj⟩:=rS hc hf;rw[kc hj,Nat.testBit_xor,Nat.testBit_xor,kc hj,kc hj]
theorem Jy{m:Nat}(hm:m<2^N.n)(ev:N.ek m):∃ z,z<2^N.az.length/\N.dM z N.az 0=m:=by
 refine⟨maskOf (fun i=>m.testBit (N.az.getD i 0)) N.az.length,Ring.mask_lt _ _,iU gP.2 hm gP.1 ev fun c hc hf=>?_⟩
 obtain⟨j,hj⟩:=rS hc hf;rw[kc hj,Ring.mask_bit];have hl:=(ny.mp hj).1;rw[cU hl,Bool.true_and,List.getD_eq_getElem?_getD,hj];rfl
theorem Em{c j:Nat}(hc:c<N.n)(hf:N.kW c=false)(h:(N.ring c).testBit j=true):j<=c:=by
 have OF:N.dZ c (N.a c)=N.dZ c (N.b c):=by
  unfold Net.kW at hf
  simpa using hf
 have low:∀ k,(N.trail c (N.a c)^^^N.trail c (N.b c)^^^2^c).testBit k=true->k<=c/\(k=c\/N.kW k=true):=fun k hk=>by
  rw[Nat.testBit_xor,Nat.testBit_xor,Nat.testBit_two_pow]at hk
  by_cases e:c=k
  ·exact⟨by lia,.inl e.symm⟩
  ·rw[ff e,Bool.xor_false]at hk;cases h1:(N.trail c (N.a c)).testBit k with
   | true=>exact⟨Nat.le_of_lt (dw _ _ _ h1).1,.inr (dw _ _ _ h1).2⟩
   | false =>
     rw[h1,Bool.false_xor]at hk;exact⟨Nat.le_of_lt (dw _ _ _ hk).1,.inr (dw _ _ _ hk).2⟩
 have e:N.ring c=N.trail c (N.a c)^^^N.trail c (N.b c)^^^2^c:=by
  refine iU (qF hc) (gA fun k hk=>Nat.lt_of_le_of_lt (low k hk).1 hc) (jL hc) (fun x hx=>?_) fun d hd hfd=>?_
  ·rw[g9,g9,lg c (Nat.le_of_lt hc),lg c (Nat.le_of_lt hc),mY hc,OF];unfold Net.inc;cases decide (N.a c=x)<;>cases decide (N.b c=x)<;>cases decide (N.dZ c (N.b c)=x)<;>rfl
  ·rw[gB hf hfd];cases q:(N.trail c (N.a c)^^^N.trail c (N.b c)^^^2^c).testBit d with
   | true =>
     rcases(low d q).2 with z|z
     ·rw[z];simp
     ·rw[hfd]at z;cases z
   | false =>
     refine ff fun z=>?_
     subst z;rw[Nat.testBit_xor,Nat.testBit_xor,Nat.testBit_two_pow,cU rfl]at q;have t1:(N.trail c (N.a c)).testBit c=false:=by
      cases h1:(N.trail c (N.a c)).testBit c with
      | false=>rfl
      | true=>exact absurd (dw _ _ _ h1).1 (Nat.lt_irrefl _)
     have t2:(N.trail c (N.b c)).testBit c=false:=by
      cases h1:(N.trail c (N.b c)).testBit c with
      | false=>rfl
      | true=>exact absurd (dw _ _ _ h1).1 (Nat.lt_irrefl _)
     rw[t1,t2]at q;cases q
 rw[e]at h;exact(low j h).1
theorem uF{z j:Nat}:∀{l:List Nat} {i:Nat},(N.dM z l i).testBit j=true->∃ k c,l[k]?=some c/\z.testBit (i+k)=true/\(N.ring c).testBit j=true
 | [],_,h=>by simp[Net.dM]at h
 | c::r,i,h=>by
   unfold Net.dM at h;rw[Nat.testBit_xor]at h
   by_cases q:z.testBit i=true/\(N.ring c).testBit j=true
   ·exact⟨0,c,rfl,by simpa using q.1,q.2⟩
   ·have z0:(if z.testBit i=true then N.ring c else 0).testBit j=false:=by
     split
     ·next hz=>cases e:(N.ring c).testBit j with
       | false=>rfl
       | true=>exact absurd ⟨hz,e⟩ q
     ·simp
    rw[z0,Bool.false_xor]at h;obtain⟨k,d,h1,h2,h3⟩:=uF h;exact⟨k+1,d,by simpa using h1,by rw[show i+(k+1)=i+1+k by lia];exact h2,h3⟩
theorem AU{x y:Nat}(i:Nat)(h1:x.testBit i=false)(h2:y.testBit i=true)(h:∀ j,i<j->x.testBit j=y.testBit j):x<y:=by
 have hq:x/2^(i+1)=y/2^(i+1):=Nat.eq_of_testBit_eq fun j=>by
  rw[Nat.testBit_div_two_pow,Nat.testBit_div_two_pow];exact h _ (by lia)
 have hx:x%2^(i+1)<2^i:=Nat.lt_pow_two_of_testBit _ fun k hk=>by
  rw[Nat.testBit_mod_two_pow]
  by_cases e:k=i
  ·subst e;rw[h1,Bool.and_false]
  ·rw[ff (by lia),Bool.false_and]
 have hy:2^i<=y%2^(i+1):=Nat.ge_two_pow_of_testBit (by rw[Nat.testBit_mod_two_pow,h2,cU (Nat.lt_succ_self _)];rfl)
 have e1:=Nat.div_add_mod x (2^(i+1));have e2:=Nat.div_add_mod y (2^(i+1));rw[hq]at e1
 lia
theorem GP{z y:Nat}(h:z<y)(hy:y<2^N.az.length):N.dM z N.az 0<N.dM y N.az 0:=by
 have hd:z^^^y≠0:=fun e=>by
  have:z=y:=by
   have:=congrArg (· ^^^ y) e
   simpa[Nat.xor_assoc]using this
  lia
 have top:=Nat.testBit_log2 hd;have above:∀ k,(z^^^y).log2<k->(z^^^y).testBit k=false:=fun k hk=>Nat.testBit_lt_two_pow (Nat.lt_of_lt_of_le (Nat.lt_log2_self) (Nat.pow_le_pow_right (by decide) hk))
 generalize hi:(z^^^y).log2=i at top above;have same:∀ k,i<k->z.testBit k=y.testBit k:=fun k hk=>by
  have:=above k hk;rw[Nat.testBit_xor]at this;cases hz:z.testBit k<;>cases hy:y.testBit k<;>rw[hz,hy]at this<;>first | rfl | cases this
 have zi:z.testBit i=false/\y.testBit i=true:=by
  rw[Nat.testBit_xor]at top;cases hz:z.testBit i with
  | false =>
    rw[hz,Bool.false_xor]at top;exact⟨rfl,top⟩
  | true =>
    have Sn:y.testBit i=false:=by
     cases q:y.testBit i with
     | false=>rfl
     | true=>rw[hz,q]at top;cases top
    exact absurd (AU i Sn hz fun k hk=>(same k hk).symm) (by lia)
 have xj:i<N.az.length:=cV hy zi.2;have hc:N.az[i]?=some N.az[i]:=List.getElem?_eq_getElem xj;refine AU N.az[i] (by rw[kc hc];exact zi.1) (by rw[kc hc];exact zi.2) fun j hj=>?_
 have e0:(N.dM (z^^^y) N.az 0).testBit j=false:=by
  cases q:(N.dM (z^^^y) N.az 0).testBit j with
  | false=>rfl
  | true =>
    obtain⟨k,c,h1,h2,h3⟩:=uF q;rw[Nat.zero_add]at h2;have hk:k<=i:=by
     by_cases hk:k<=i
     ·exact hk
     ·rw[above k (by lia)]at h2
      cases h2
    obtain⟨oV,hkc⟩:=ny.mp h1;obtain⟨c1,c2⟩:=cS.mp (nv h1);have l1:=Em c1 c2 h3;have l2:c<=N.az[i]:=by
     by_cases e:k=i
     ·subst e;exact Nat.le_of_eq hkc.symm
     ·rw[<-hkc];exact Nat.le_of_lt (List.pairwise_iff_getElem.mp BU k i oV xj (by lia))
    lia
 rw[yW,Nat.testBit_xor]at e0;cases h1:(N.dM z N.az 0).testBit j<;>cases h2:(N.dM y N.az 0).testBit j<;>rw[h1,h2]at e0<;>first | rfl | cases e0
theorem GQ:N.dM 0 N.az 0=0:=by
 have h:=yW (N:=N) 0 0;rw[Nat.xor_self,Nat.xor_self]at h;exact h
theorem BV{c:Nat}(hc:c<N.n)(hf:N.kW c=false):N.Ring (N.ring c):=by
 refine⟨fun z=>?_,jL hc,fun q hq ev=>?_⟩
 ·have h:=rC hf;rw[z]at h;simp at h
 ·have hqn:q<2^N.n:=gA fun k hk=>cV (qF hc) (hq k hk)
  cases qc:q.testBit c with
  | true =>
    refine .inr (iU hqn (qF hc) ev (jL hc) fun d hd hfd=>?_)
    rw[gB hf hfd]
    by_cases e:c=d
    ·subst e;simp[qc]
    ·rw[ff e];cases qd:q.testBit d with
     | false=>rfl
     | true =>
       have:=hq d qd;rw[gB hf hfd,ff e]at this;cases this
  | false =>
    refine .inl (j9 (fun k hk=>?_) ev)
    rcases lj (hq k hk) with e|e
    ·subst e;rw[qc]at hk;cases hk
    ·exact e
end RM
namespace L2
open PySem PySem.Spec PyProof.Rows
section
variable {X:Cx}
theorem vh:∀{bs:List Bool} {its:List Value},Vals (bs.map V.bl) its->its=bs.map Value.bool
 | [],_,.nil=>rfl
 | b::bs,_,.cons r rr=>by
   cases r;rw[vh rr];rfl
theorem yX:∀ bs:List Bool,((List.range bs.length).all fun i=>(bs[i]?).getD true)=bs.all id:=fun bs=>by
 rw[Bool.eq_iff_iff,List.all_eq_true,List.all_eq_true]
 constructor
 ·intro h b hb;obtain⟨i,hi,e⟩:=List.getElem_of_mem hb;have:=h i (List.mem_range.mpr hi);rw[List.getElem?_eq_getElem hi,e]at this;exact this
 ·intro h i hi;have hi:=List.mem_range.mp hi;rw[List.getElem?_eq_getElem hi];exact h _ (List.getElem_mem hi)
theorem LN(K:bO)(hc:X.calm=true)(hK:X.K=K:=by rfl):eZ X (.builtin "all") (fun xs H Q=>∃(p:Addr) (bs:List Bool),xs=[.ref p]/\aO K H p (bs.map V.bl)/\Q (.bl (bs.all id)) H):=by
 subst hK;intro pq s σ H xs us Q I r h;obtain⟨p,bs,rfl,hq,q⟩:=h;obtain⟨u,rfl,rx⟩:=vals1 r;cases rx;obtain⟨its,rv,pl,hz⟩:=I.list hq;obtain rfl:=vh rv;have lt:p<s.heap.objs.size:=by obtain⟨_,e,_⟩:=pl.isList;exact Heap.lt_size e
 refine call_all_walk (wpAny_pyIter_list pl.isList ⟨_,[_,p],[_],_,_,_,fun i=>(bs[i]?).getD true,rfl,Walks.list (A:=X.A.in1) (I.ok.hd hc) _ p (Nat.ne_of_lt lt) _,
  ⟨⟨_,Heap.get?_push_size _ rfl,rfl,rfl⟩,pl.isList.push _⟩,fun i v s' Q' E' hP hQ=>?_,fun h' tk hk=>?_⟩)
 ·have hP:(bs.map Value.bool)[i]?=some v:=by simpa using hP
  rw[List.getElem?_map]at hP;obtain⟨b,e,rfl⟩:=Ac.mp hP;simp only[e,Option.getD_some]at hQ;exact wpAny_truthy_bool hQ
 ·have z:(bs.map Value.bool).toArray.size=bs.length:=by simp
  rw[z,yX];refine⟨.bl _,H,I.kept fun b o e=>hk b o (fun hm=>?_) (Heap.get?_push_of_some _ e),rfl,q⟩
  rw[List.mem_singleton.mp hm]at e;exact Nat.lt_irrefl _ (Heap.lt_size e)
end
end L2
namespace RM
open Ring (maskOf mask_bit mask_lt)
theorem xm{a b:Nat}(h:a^^^b=0):a=b:=by
 have:=congrArg (fun y=>y^^^b) h
 simp only[Nat.zero_xor]at this
 rwa [Nat.xor_assoc,Nat.xor_self,Nat.xor_zero]at this
def comb:List Nat->Nat->Nat
 | [],_=>0
 | b::B,z=>(if z.testBit 0=true then b else 0)^^^comb B (z/2)
theorem En(a b c d:Nat):(a^^^b)^^^(c^^^d)=(a^^^c)^^^(b^^^d):=Nat.eq_of_testBit_eq fun i=>by
 simp only[Nat.testBit_xor];cases a.testBit i<;>cases b.testBit i<;>cases c.testBit i<;>cases d.testBit i<;>rfl
theorem Eo(z y:Nat):(z^^^y)/2=z/2^^^y/2:=Nat.eq_of_testBit_eq fun i=>by
 rw[Nat.testBit_xor,<-Nat.testBit_succ,<-Nat.testBit_succ,<-Nat.testBit_succ,Nat.testBit_xor]
theorem jQ:∀(B:List Nat) (z y:Nat),comb B (z^^^y)=comb B z^^^comb B y
 | [],_,_=>by simp[comb]
 | b::B,z,y=>by
   unfold comb;rw[Eo,jQ B,Nat.testBit_xor,En]
   congr 1
   cases z.testBit 0<;>cases y.testBit 0<;>simp
theorem jR:∀(B:List Nat),comb B 0=0
 | []=>rfl
 | b::B=>by
   unfold comb;rw[Nat.zero_testBit,show 0/2=0 from rfl,jR B]
   simp
theorem Ep(i:Nat):2^(i+1)/2=2^i:=by
 rw[Nat.pow_succ,Nat.mul_div_cancel _ (by decide)]
theorem xn:∀{B:List Nat} {i b:Nat},B[i]?=some b->comb B (2^i)=b
 | [],i,b,h=>by simp at h
 | b'::B,0,b,h=>by
   have:b' = b:=by simpa using h
   subst this;unfold comb;rw[show(2^0:Nat).testBit 0=true from rfl,if_pos rfl,show(2^0:Nat)/2=0 from rfl,jR,Nat.xor_zero]
 | b'::B,i+1,b,h=>by
   unfold comb;have h0:(2^(i+1)).testBit 0=false:=by rw[Nat.testBit_two_pow];simp
   rw[h0,if_neg (by decide),Nat.zero_xor,Ep]
   exact xn (B:=B) h
theorem gC:∀(B:List Nat) (b z:Nat),comb (B++[b]) z=comb B z^^^(if z.testBit B.length=true then b else 0)
 | [],b,z=>by
   show(if z.testBit 0=true then b else 0)^^^0=0^^^_
   rw[Nat.xor_zero,Nat.zero_xor];rfl
 | b'::B,b,z=>by
   show(if z.testBit 0=true then b' else 0)^^^comb (B++[b]) (z/2)=((if z.testBit 0=true then b' else 0)^^^comb B (z/2))^^^_
   rw[gC B b (z/2),Nat.xor_assoc,<-Nat.testBit_succ];rfl
theorem pC:∀(B:List Nat) {z:Nat},(∀ i,i<B.length->z.testBit i=false)->comb B z=0
 | [],_,_=>rfl
 | b::B,z,h=>by
   unfold comb;rw[h 0 (by simp),if_neg (by decide),Nat.zero_xor]
   exact pC B fun i hi=>by rw[<-Nat.testBit_succ];exact h (i+1) (by simp;lia)
theorem vj(B:List Nat):∀ z,Sp B (comb B z):=by
 induction B with
 | nil=>intro z;exact .zero
 | cons b B ih =>
   intro z;have h:Sp (b::B) (comb B (z/2)):=(ih (z/2)).mono fun c hc=>.mem (lU _ hc)
   unfold comb;rw[Nat.xor_comm]
   by_cases e:z.testBit 0=true
   ·rw[if_pos e];exact h.add List.mem_cons_self
   ·rw[if_neg e,Nat.xor_zero];exact h
theorem GR{B:List Nat}{x:Nat}(h:Sp B x):∃ z,z<2^B.length/\comb B z=x:=by
 induction h with
 | zero=>exact⟨0,Nat.two_pow_pos _,jR B⟩
 | add h hb ih =>
   obtain⟨z,hz,e⟩:=ih;obtain⟨i,hi⟩:=List.getElem?_of_mem hb;have xj:=(ny.mp hi).1;exact⟨z^^^2^i,Nat.xor_lt_two_pow hz (Nat.pow_lt_pow_right (by decide) xj),by rw[jQ,e,xn hi]⟩
def OG(B:List Nat):Prop:=∀ z,z<2^B.length->comb B z=0->z=0
theorem xo{B:List Nat}{b:Nat}:OG (B++[b])↔OG B/\¬ Sp B b:=by
 have hl:(B++[b]).length=B.length+1:=by simp
 constructor
 ·intro h;refine⟨fun z hz e=>h z ?_ ?_,fun hs=>?_⟩
  ·rw[hl,Nat.pow_succ];lia
  ·rw[gC,e,Nat.testBit_lt_two_pow hz];simp
  ·obtain⟨y,hy,e⟩:=GR hs;have hlt:2^B.length<2^(B.length+1):=Nat.pow_lt_pow_right (by decide) (by lia)
   have:=h (y^^^2^B.length) (by rw[hl];exact Nat.xor_lt_two_pow (by lia) hlt) (by
    have h1:(y^^^2^B.length).testBit B.length=true:=by
     rw[Nat.testBit_xor,Nat.testBit_lt_two_pow hy,Nat.testBit_two_pow_self];rfl
    have h2:comb B (2^B.length)=0:=pC B fun i hi=>by
     rw[Nat.testBit_two_pow];exact ff (by lia)
    rw[gC,h1,if_pos rfl,jQ,h2,e,Nat.xor_zero,Nat.xor_self])
   have h3:(y^^^2^B.length).testBit B.length=false:=by rw[this,Nat.zero_testBit]
   rw[Nat.testBit_xor,Nat.testBit_lt_two_pow hy,Nat.testBit_two_pow_self]at h3;cases h3
 ·rintro⟨h,hs⟩ z hz e;rw[gC]at e
  by_cases hb:z.testBit B.length=true
  ·rw[if_pos hb]at e;have e2:comb B z=b:=by
    have:=congrArg (fun y=>y^^^b) e
    simp only[jP,Nat.zero_xor]at this;exact this
   exact absurd (e2▸vj B z) hs
  ·rw[if_neg hb,Nat.xor_zero]at e;refine h z ?_ e;refine gA fun k hk=>?_
   have:=cV hz hk;rw[hl]at this;have:k≠B.length:=fun e=>hb (e▸hk)
   lia
section
variable {N:Net}
theorem GS{f:Nat->Nat}{a b:Nat}(hf:∀ z,z<2^a->f z<2^b)(inj:∀ z y,z<2^a->y<2^a->f z=f y->z=y):a<=b:=by
 have nd:((List.range (2^a)).map f).Nodup:=by
  refine List.pairwise_map.mpr ?_;refine List.Pairwise.imp_of_mem (fun {z y} hz hy hne e=>?_) List.nodup_range
  exact hne (inj z y (List.mem_range.mp hz) (List.mem_range.mp hy) e)
 have:=D9 nd fun x hx=>by
  obtain⟨z,hz,rfl⟩:=List.mem_map.mp hx;exact hf z (List.mem_range.mp hz)
 rw[List.length_map,List.length_range]at this;exact(Nat.pow_le_pow_iff_right (by decide)).mp this
def meets(ks:List Nat)(m:Nat):Nat:=maskOf (fun i=>m.testBit (ks.getD i 0)) ks.length
theorem Er(ks:List Nat)(m:Nat):meets ks m<2^ks.length:=mask_lt _ _
theorem BW{ks:List Nat}{m i k:Nat}(h:ks[i]?=some k):(meets ks m).testBit i=m.testBit k:=by
 unfold meets;rw[mask_bit,List.getD_eq_getElem?_getD,h,cU (ny.mp h).1];rfl
theorem GU{ks:List Nat}(h:∀ m,m<2^N.n->N.ek m->(∀ k∈ks,m.testBit k=false)->m=0):N.az.length<=ks.length:=by
 refine GS (f:=fun z=>meets ks (N.dM z N.az 0)) (fun z _=>Er _ _) fun z y hz hy e=>?_
 have h1:=lX (N:=N) (number:=z) (l:=N.az) (i:=0) fun c hc=>(cS.mp hc).1
 have h2:=lX (N:=N) (number:=y) (l:=N.az) (i:=0) fun c hc=>(cS.mp hc).1
 have e0:N.dM z N.az 0=N.dM y N.az 0:=xm (h _ (Nat.xor_lt_two_pow h1.2 h2.2) (ek.xor h1.1 h2.1) fun k hk=>by
  obtain⟨j,hj⟩:=List.getElem?_of_mem hk;have e:meets ks (N.dM z N.az 0)=meets ks (N.dM y N.az 0):=e;have:=congrArg (fun x=>x.testBit j) e
  simp only[BW hj]at this;rw[Nat.testBit_xor,this,Bool.xor_self])
 refine Nat.eq_of_testBit_eq fun j=>?_
 by_cases hj:j<N.az.length
 ·have hc:N.az[j]?=some N.az[j]:=List.getElem?_eq_getElem hj;rw[<-kc hc,<-kc hc,e0]
 ·rw[Nat.testBit_lt_two_pow (Nat.lt_of_lt_of_le hz (Nat.pow_le_pow_right (by decide) (by lia))),Nat.testBit_lt_two_pow (Nat.lt_of_lt_of_le hy (Nat.pow_le_pow_right (by decide) (by lia)))]
end
abbrev Row3:=Nat×Nat×Nat
def two(q:Row3):Nat×Nat:=(q.1,q.2.1)
def bu(rows:List Row3)(x u:Nat):Nat×Nat:=rows.foldl (fun s q=>if s.1.testBit q.1=true then(s.1^^^q.2.1,s.2^^^q.2.2) else s) (x,u)
theorem uG(q:Row3)(rows:List Row3)(x u:Nat):bu (q::rows) x u=if x.testBit q.1=true then bu rows (x^^^q.2.1) (u^^^q.2.2) else bu rows x u:=by
 unfold bu;rw[List.foldl_cons]
 by_cases h:x.testBit q.1=true
 ·rw[if_pos h,if_pos h]
 ·rw[if_neg h,if_neg h]
theorem iW:∀(rows:List Row3) (x u:Nat),(bu rows x u).1=xh (rows.map two) x
 | [],_,_=>rfl
 | q::rows,x,u=>by
   rw[uG];show _=xh (rows.map two) (if x.testBit q.1=true then x^^^q.2.1 else x)
   by_cases h:x.testBit q.1=true
   ·rw[if_pos h,if_pos h];exact iW rows _ _
   ·rw[if_neg h,if_neg h];exact iW rows _ _
def sZ(rows:List Row3)(a:Row3):List Row3:=a::rows.map fun q=>if q.2.1.testBit a.1=true then(q.1,q.2.1^^^a.2.1,q.2.2^^^a.2.2) else q
structure Rw(B:List Nat)(rows:List Row3):Prop where
 own:∀ q∈rows,q.2.1.testBit q.1=true
 Es:rows.Pairwise fun q q'=>q'.2.1.testBit q.1=false/\q.2.1.testBit q'.1=false
 HY:∀ q∈rows,q.2.2<2^B.length/\comb B q.2.2=q.2.1
 span:∀ b∈B,Sp (rows.map fun q=>q.2.1) b
 le:rows.length<=B.length
 len:rows.length=B.length↔OG B
section
variable {B:List Nat}{rows:List Row3}
theorem Rw.start:Rw [] []:=⟨(fun q hq=>nomatch hq),.nil,(fun q hq=>nomatch hq),(fun b hb=>nomatch hb),Nat.le_refl _,⟨fun _ z hz _=>by simp at hz;exact hz,fun _=>rfl⟩⟩
theorem Jz(own:∀ q∈rows,q.2.1.testBit q.1=true)(Es:rows.Pairwise fun q q'=>q'.2.1.testBit q.1=false/\q.2.1.testBit q'.1=false):HX (rows.map two):=by
 induction rows with
 | nil=>exact .nil
 | cons q rows ih =>
   obtain⟨h1,h2⟩:=List.pairwise_cons.mp Es;refine .cons (ih (fun q' hq=>own q' (lU _ hq)) h2) (own q List.mem_cons_self) fun x hx=>?_
   obtain⟨q',JA,rfl⟩:=List.mem_map.mp hx;exact(h1 q' JA).1
theorem Rw.PV(h:Rw B rows):HX (rows.map two):=Jz h.own h.Es
theorem map_two(rows:List Row3):(rows.map two).map (fun q=>q.2)=rows.map fun q=>q.2.1:=by
 rw[List.map_map];rfl
theorem Rw.fF(h:Rw B rows)(x u:Nat):(bu rows x u).1=0↔Sp B x:=by
 rw[iW,BS h.PV,map_two]
 constructor
 ·intro hs;refine hs.mono fun b hb=>?_
  obtain⟨q,hq,rfl⟩:=List.mem_map.mp hb;rw[<-(h.HY q hq).2];exact vj B _
 ·exact fun hs=>hs.mono h.span
theorem Rw.rT(h:Rw B rows)(x u:Nat):∀ q∈rows,(bu rows x u).1.testBit q.1=false:=fun q hq=>by
 rw[iW];exact uD h.PV x (two q) (List.mem_map.mpr ⟨q,hq,rfl⟩)
theorem uH(hc:∀ q∈rows,q.2.2<2^B.length/\comb B q.2.2=q.2.1):∀(x u:Nat),u<2^B.length->(bu rows x u).2<2^B.length/\comb B (bu rows x u).2=comb B u^^^(x^^^(bu rows x u).1):=by
 induction rows with
 | nil=>intro x u hu;exact⟨hu,by show _=_^^^(x^^^x);rw[Nat.xor_self,Nat.xor_zero];rfl⟩
 | cons q rows ih =>
   intro x u hu;have hq:=hc q List.mem_cons_self;have ih:=ih fun q' JA=>hc q' (lU _ JA)
   rw[uG]
   by_cases h:x.testBit q.1=true
   ·rw[if_pos h];obtain⟨i1,i2⟩:=ih (x^^^q.2.1) (u^^^q.2.2) (Nat.xor_lt_two_pow hu hq.1);refine⟨i1,?_⟩;rw[i2,jQ,hq.2];refine Nat.eq_of_testBit_eq fun i=>?_
    simp only[Nat.testBit_xor];generalize (bu rows (x^^^q.2.1) (u^^^q.2.2)).1.testBit i=y;cases(comb B u).testBit i<;>cases q.2.1.testBit i<;>cases x.testBit i<;>cases y<;>rfl
   ·rw[if_neg h];exact ih x u hu
theorem yY(h:Rw B rows){x:Nat}(hx:∀ b∈B,b<2^x):∀ q∈rows,q.2.1<2^x:=fun q hq=>by
 rw[<-(h.HY q hq).2];exact(vj B _).lt hx
theorem rV{z:Nat}(b:Nat)(hz:z<2^B.length):comb (B++[b]) z=comb B z:=by
 rw[gC,Nat.testBit_lt_two_pow hz];simp
theorem Rw.skip{b:Nat}(h:Rw B rows)(hs:Sp B b):Rw (B++[b]) rows:=by
 have hl:(B++[b]).length=B.length+1:=by simp
 refine⟨h.own,h.Es,fun q hq=>⟨?_,?_⟩,fun c hc=>?_,?_,?_⟩
 ·have:=(h.HY q hq).1;rw[hl,Nat.pow_succ]
  lia
 ·rw[rV b (h.HY q hq).1];exact(h.HY q hq).2
 ·rcases List.mem_append.mp hc with hc|hc
  ·exact h.span c hc
  ·have e:c=b:=by simpa using hc
   rw[e];exact hs.mono h.span
 ·have:=h.le
  lia
 ·rw[xo];have:=h.le;exact⟨fun e=>by lia,fun z=>absurd hs z.2⟩
theorem Rw.put{b:Nat}(h:Rw B rows)(h0:(bu rows b 0).1≠0):Rw (B++[b]) (sZ rows ((bu rows b 0).1.log2,(bu rows b 0).1,(bu rows b 0).2^^^2^B.length)):=by
 have hl:(B++[b]).length=B.length+1:=by simp
 have hns : ¬ Sp B b:=fun z=>h0 ((h.fF b 0).mpr z)
 have off:=h.rT b 0;obtain⟨c1,c2⟩:=uH h.HY b 0 (Nat.two_pow_pos _);rw[jR,Nat.zero_xor]at c2;have qX:Sp (rows.map fun q=>q.2.1) (b^^^(bu rows b 0).1):=by
  rw[iW];have:=qL (rows.map two) b
  rwa [map_two]at this
 generalize bu rows b 0=lu at *;obtain⟨l,u⟩:=lu;have h0:l≠0:=h0;have top:=GO h0;have c1:u<2^B.length:=c1;have c2:comb B u=b^^^l:=c2;have off:∀ q∈rows,l.testBit q.1=false:=off;have qX:Sp (rows.map fun q=>q.2.1) (b^^^l):=qX
 show Rw (B++[b]) (sZ rows (l.log2,l,u^^^2^B.length));generalize l.log2=t at top;have p2:2^B.length<2^(B++[b]).length:=by rw[hl];exact Nat.pow_lt_pow_right (by decide) (by lia)
 have hc:comb (B++[b]) (u^^^2^B.length)=l:=by
  have h1:(u^^^2^B.length).testBit B.length=true:=by
   rw[Nat.testBit_xor,Nat.testBit_lt_two_pow c1,Nat.testBit_two_pow_self];rfl
  have h2:comb B (2^B.length)=0:=pC B fun i hi=>by
   rw[Nat.testBit_two_pow];exact ff (by lia)
  rw[gC,h1,if_pos rfl,jQ,h2,c2,Nat.xor_zero];refine Nat.eq_of_testBit_eq fun i=>?_
  simp only[Nat.testBit_xor];cases b.testBit i<;>cases l.testBit i<;>rfl
 unfold sZ;refine⟨fun q hq=>?_,List.pairwise_cons.mpr ⟨fun q hq=>?_,?_⟩,fun q hq=>?_,fun c hc=>?_,?_,?_⟩
 ·rcases List.mem_cons.mp hq with e|hq
  ·rw[e];exact top
  ·obtain⟨q0,BJ,rfl⟩:=List.mem_map.mp hq
   by_cases e:q0.2.1.testBit t=true
   ·rw[if_pos e];show(q0.2.1^^^l).testBit q0.1=true;rw[Nat.testBit_xor,h.own q0 BJ,off q0 BJ];rfl
   ·rw[if_neg e];exact h.own q0 BJ
 ·obtain⟨q0,BJ,rfl⟩:=List.mem_map.mp hq
  by_cases e:q0.2.1.testBit t=true
  ·rw[if_pos e];refine⟨?_,off q0 BJ⟩;show(q0.2.1^^^l).testBit t=false;rw[Nat.testBit_xor,e,top];rfl
  ·rw[if_neg e];exact⟨Hx.mpr e,off q0 BJ⟩
 ·refine List.pairwise_map.mpr (List.Pairwise.imp_of_mem (fun {q q'} hq JA hz=>?_) h.Es)
  obtain⟨z1,z2⟩:=hz;have o1:=off q hq;have o2:=off q' JA;have fst:∀ q:Row3,(if q.2.1.testBit t=true then(q.1,q.2.1^^^l,q.2.2^^^(u^^^2^B.length)) else q).1=q.1:=fun q=>by
   split<;>rfl
  have snd:∀(q:Row3) (k:Nat),l.testBit k=false->(if q.2.1.testBit t=true then(q.1,q.2.1^^^l,q.2.2^^^(u^^^2^B.length)) else q).2.1.testBit k=q.2.1.testBit k:=fun q k hk=>by
   split
   ·show(q.2.1^^^l).testBit k=_;rw[Nat.testBit_xor,hk,Bool.xor_false]
   ·rfl
  refine⟨?_,?_⟩
  ·rw[snd q' _ (by rw[fst];exact o1),fst]
   exact z1
  ·rw[snd q _ (by rw[fst];exact o2),fst]
   exact z2
 ·rcases List.mem_cons.mp hq with e|hq
  ·rw[e];exact⟨Nat.xor_lt_two_pow (by lia) p2,hc⟩
  ·obtain⟨q0,BJ,rfl⟩:=List.mem_map.mp hq;obtain⟨d1,d2⟩:=h.HY q0 BJ
   by_cases e:q0.2.1.testBit t=true
   ·rw[if_pos e];refine⟨Nat.xor_lt_two_pow (by lia) (Nat.xor_lt_two_pow (by lia) p2),?_⟩
    show comb (B++[b]) (q0.2.2^^^(u^^^2^B.length))=q0.2.1^^^l;rw[jQ,hc,rV b d1,d2]
   ·rw[if_neg e];exact⟨by lia,by rw[rV b d1,d2]⟩
 ·have PX:l∈(((t,l,u^^^2^B.length):Row3)::rows.map fun q=>if q.2.1.testBit t=true then(q.1,q.2.1^^^l,q.2.2^^^(u^^^2^B.length)) else q).map fun q=>q.2.1:=by
   rw[List.map_cons];exact List.mem_cons_self
  have old:∀ x∈rows.map (fun q=>q.2.1),Sp ((((t,l,u^^^2^B.length):Row3)::rows.map fun q=>if q.2.1.testBit t=true then(q.1,q.2.1^^^l,q.2.2^^^(u^^^2^B.length)) else q).map fun q=>q.2.1) x:=fun x hx=>by
   obtain⟨q0,BJ,rfl⟩:=List.mem_map.mp hx;have hm:(if q0.2.1.testBit t=true then(q0.1,q0.2.1^^^l,q0.2.2^^^(u^^^2^B.length)) else q0).2.1∈(((t,l,u^^^2^B.length):Row3)::rows.map fun q=>if q.2.1.testBit t=true then(q.1,q.2.1^^^l,q.2.2^^^(u^^^2^B.length)) else q).map fun q=>q.2.1 :=
    List.mem_map.mpr ⟨_,lU _ (List.mem_map.mpr ⟨q0,BJ,rfl⟩),rfl⟩
   by_cases e:q0.2.1.testBit t=true
   ·rw[if_pos e]at hm;have:=(Sp.mem hm).xor (Sp.mem PX)
    rwa [jP]at this
   ·rw[if_neg e]at hm;exact .mem hm
  rcases List.mem_append.mp hc with hc|hc
  ·exact(h.span c hc).mono old
  ·have e:c=b:=by simpa using hc
   rw[e];have:=(qX.mono old).xor (Sp.mem PX)
   rwa [jP]at this
 ·rw[List.length_cons,List.length_map,hl];have:=h.le
  lia
 ·rw[List.length_cons,List.length_map,hl,xo];have:=h.len
  constructor
  ·exact fun e=>⟨this.mp (by lia),hns⟩
  ·exact fun e=>by have:=this.mpr e.1;lia
def rx(f:Row3->Bool):List Row3->Bool
 | []=>false
 | q::rows=>f q^^rx f rows
theorem rW{f g:Row3->Bool}:∀{rows:List Row3},(∀ q∈rows,f q=g q)->rx f rows=rx g rows
 | [],_=>rfl
 | q::rows,h=>by
   unfold rx;rw[h q List.mem_cons_self,rW fun q' hq=>h q' (lU _ hq)]
theorem uI(f:Nat->Bool)(n:Nat):∀{l:List Nat},l.Nodup->(∀ k∈l,k<n)->bJ (fun k=>f k&&decide (k∈l)) n=l.foldr (fun k acc=>f k^^acc) false
 | [],_,_=>iG fun k _=>by simp
 | a::l,nd,h=>by
   obtain⟨n1,n2⟩:=List.nodup_cons.mp nd;have ih:=uI f n n2 fun k hk=>h k (lU _ hk)
   have:bJ (fun k=>f k&&decide (k∈a::l)) n=bJ (fun k=>(f k&&decide (a=k))^^(f k&&decide (k∈l))) n:=bS fun k _=>by
    by_cases e:a=k
    ·subst e;rw[cU List.mem_cons_self,cU rfl,ff n1,Bool.and_false,Bool.xor_false]
    ·have:(k∈a::l)↔k∈l:=⟨fun z=>(List.mem_cons.mp z).resolve_left fun z=>e z.symm,lU _⟩
     rw[ff e,Bool.and_false,Bool.false_xor,decide_eq_decide.mpr this]
   rw[this,iS,iT f (h a List.mem_cons_self),ih];rfl
end
end RM
namespace Ring
open PySem L2
def p8(q:RM.Row3):List V:=[.int (q.1:Int),.int (q.2.1:Int),.int (q.2.2:Int)]
def rX(H:Hp)(x:V)(q:RM.Row3):Prop:=∃ b,x = .ref b/\H b=some (.tup (p8 q))
theorem rX.tups{H H' : Hp}(s:jJ H H'){x:V}{q:RM.Row3}(h:rX H x q):rX H' x q:=let⟨b,e,z⟩:=h;⟨b,e,s _ _ z⟩
def gQ(H:Hp)(l:Addr)(rows:List RM.Row3):Prop:=∃ xs,H l=some (.lst xs)/\Paired (rX H) xs rows
theorem gQ.same{H H' : Hp}(s:au H H'){l:Addr}{rows:List RM.Row3}(h:gQ H l rows):gQ H' l rows:=let⟨xs,e,z⟩:=h;⟨xs,s _ _ e,Paired.imp' (fun _ _ z=>z.tups s.tups) z⟩
theorem BX(rows:List RM.Row3)(q:RM.Row3)(x u:Nat):RM.bu (rows++[q]) x u=if(RM.bu rows x u).1.testBit q.1=true then((RM.bu rows x u).1^^^q.2.1,(RM.bu rows x u).2^^^q.2.2) else RM.bu rows x u:=by
 unfold RM.bu;rw[List.foldl_append];rfl
theorem take3{α:Type}{l:List α}{i:Nat}{q:α}(h:l[i]?=some q):l.take (i+1)=l.take i++[q]:=by
 rw[List.take_add_one,h];rfl
theorem Et{m:Nat}(h:m≠0):((Builtin.Int.intBits (m:Int):Nat):Int)-1=((m.log2:Nat):Int):=by
 rw[rm,if_neg h]
 lia
end Ring
namespace L2
open PySem PySem.Spec PyProof.Rows
theorem yZ{K:bO}{a:Addr}{xs:List V}{g:TG}{tt:TT}{te:TE}{n:Nat}{fr:St}{D:Addr}{Q:Hp->Prop}{H1:Hp}(Pv:Nat->List V->Hp->Prop)(h0:Pv 0 [] H1)(hl:∀ i acc H,i<=xs.length->Pv i acc H->aO K H a xs/\H D=some (.lst acc)/\acc.length<=i)(hz:xs.length<=sizeLine)
 (hs:∀ i x T acc H,xs[i]?=some x->Pv i acc H->H T=none->g (.ref T) (List.replicate n none++fr) (upd H T (.tup [.int (i:Int),x])) fun σ2 H2=>σ2.drop n=fr/\tt σ2 H2 fun b H3 =>
  if b=true then te σ2 H3 fun v H4=>H4 D=some (.lst acc)/\Pv (i+1) (acc++[v]) (upd H4 D (.lst (acc++[v]))) else Pv (i+1) acc H3)
 (hd:∀ acc H,Pv xs.length acc H->Q H):jI (Ks K a) g tt te n fr D Q H1:=by
 refine⟨fun i m acc H=>m=xs.length-i/\i<=xs.length/\Pv i acc H,⟨xs.length,by simp,Nat.zero_le _,h0⟩,?_⟩
 rintro i m acc H ⟨rfl,hi,p⟩;obtain⟨q,hD,ha⟩:=hl i acc H hi p;refine⟨hD,?_⟩
 by_cases hlt:i<xs.length
 ·refine .inr ⟨⟨xs,xs[i],q,by simp[hlt]⟩,by lia,Pv (i+1),fun acc' H' p'=>⟨xs.length-(i+1),by lia,rfl,hlt,p'⟩,fun v H' y=>?_⟩
  obtain⟨T,x,rfl,hT,rfl,y⟩:=y;exact hs i x T acc _ (y xs q) p hT
 ·have e:i=xs.length:=by lia
  subst e;exact .inl ⟨⟨xs,q,Nat.le_refl _⟩,hd acc H p⟩
end L2
namespace RM
variable {N:Net}{S:Nat->Bool}
def rY(N:Net)(S:Nat->Bool)(L:Nat->Nat)(k:Nat):Prop:=∀ x y,x<N.p->y<N.p->(L x=L y↔N.aN S k x=N.aN S k y)
theorem rY.start:rY N S (fun x=>x) 0:=fun _ _ _ _=>Iff.rfl
theorem rY.skip{L:Nat->Nat}{k:Nat}(h:rY N S L k)(hs:S k=false):rY N S L (k+1):=by
 intro x y hx hy;rw[fE,if_neg (by rw[hs];decide)]
 exact h x y hx hy
theorem rY.put{L:Nat->Nat}{k:Nat}(h:rY N S L k)(hk:k<N.n)(hs:S k=true):rY N S (Jr L (N.a k) (N.b k)) (k+1):=by
 intro x y hx hy;have ha:=N.al k hk;have hb:=N.bl k hk;rw[fE,if_pos hs,GJ,Ea,h x y hx hy,h x _ hx ha,h y _ hy hb,h x _ hx hb,h y _ hy ha]
open Classical in
theorem AV(val:Nat->Int):∀ n,(PyProof.Rows.firstMet val n).length=cnt (fun i=>!decide (∃ j,j<i/\val j=val i)) n/\∀ z,z∈PyProof.Rows.firstMet val n↔∃ j,j<n/\val j=z
 | 0=>by
   rw[PyProof.Rows.firstMet_zero];exact⟨rfl,fun z=>⟨fun h=>(nomatch h),fun⟨j,hj,_⟩=>absurd hj (Nat.not_lt_zero _)⟩⟩
 | n+1=>by
   obtain⟨h1,h2⟩:=AV val n;rw[PyProof.Rows.firstMet_succ];unfold PyProof.Rows.step_dedup;have hm:=h2 (val n);have ha:((PyProof.Rows.firstMet val n).any fun x=>x==val n)=true↔val n∈PyProof.Rows.firstMet val n:=by simp
   have mem:∀ z,(∃ j,j<n+1/\val j=z)↔(∃ j,j<n/\val j=z)\/val n=z:=fun z=>by
    constructor
    ·rintro⟨j,hj,e⟩
     by_cases ej:j=n
     ·subst ej;exact .inr e
     ·exact .inl ⟨j,by lia,e⟩
    ·rintro(⟨j,hj,e⟩|e)
     ·exact⟨j,by lia,e⟩
     ·exact⟨n,by lia,e⟩
   by_cases hin:val n∈PyProof.Rows.firstMet val n
   ·rw[if_pos (ha.mpr hin)];refine⟨?_,fun z=>?_⟩
    ·show _=cnt _ n+(if(!decide (∃ j,j<n/\val j=val n))=true then 1 else 0)
     rw[h1,cU (hm.mp hin)];rfl
    ·rw[mem,h2];exact⟨.inl,fun h=>h.elim id fun e=>e▸hm.mp hin⟩
   ·rw[if_neg (fun z=>hin (ha.mp z))]
    refine⟨?_,fun z=>?_⟩
    ·show _=cnt _ n+(if(!decide (∃ j,j<n/\val j=val n))=true then 1 else 0)
     rw[List.length_append,h1,ff (fun z=>hin (hm.mpr z))]
     rfl
    ·rw[mem,List.mem_append,h2];exact⟨fun h=>h.elim .inl fun e=>.inr (List.mem_singleton.mp e).symm,fun h=>h.elim .inl fun e=>.inr (by simp[e])⟩
theorem GV{L:Nat->Nat}(h:rY N S L N.n):(PyProof.Rows.firstMet (fun i=>((L i:Nat):Int)) N.p).length=cnt (N.root S N.n) N.p:=by
 rw[(AV _ N.p).1];refine eG fun x hx=>?_
 unfold Net.root;rw[Bool.eq_iff_iff,Bool.not_eq_true',decide_eq_false_iff_not,decide_eq_true_iff]
 constructor
 ·intro hn;apply Classical.byContradiction;intro hne;have hle:=nY (N:=N) (S:=S) N.n x;have hlt:N.aN S N.n x<x:=by lia
  exact hn ⟨N.aN S N.n x,hlt,by
   have:=(h (N.aN S N.n x) x (by lia) hx).mpr (bT N.n x)
   rw[this]⟩
 ·rintro hr ⟨j,hj,e⟩;have e:L j=L x:=by lia
  have e2:=(h j x (by lia) hx).mp e
  have:=nY (N:=N) (S:=S) N.n j
  lia
theorem Eu{m:Nat}(hm:m<2^N.n)(h0:m≠0)(d2:N.D2 m):N.Ring m↔cnt (N.root (fun k=>m.testBit k) N.n) N.p+cnt (fun x=>decide (N.dg m x=2)) N.p=N.p+1:=by
 have hR:∀ x,x<N.p->N.dg m x=0->N.root (fun k=>m.testBit k) N.n x=true:=fun x hx hd=>by
  unfold Net.root;rw[decide_eq_true_iff];exact alone hd (bC _ _ _ (bT N.n x).symm)
 have split:cnt (N.root (fun k=>m.testBit k) N.n) N.p=cnt (fun x=>!decide (N.dg m x=2)) N.p+cnt (fun x=>decide (N.dg m x=2)&&N.root (fun k=>m.testBit k) N.n x) N.p:=by
  rw[<-rM (fun x hx=>by cases decide (N.dg m x=2)<;>simp)]
  refine eG fun x hx=>?_
  rcases d2 x hx with h|h
  ·rw[hR x hx h,ff (by lia)]
   rfl
  ·rw[cU h];simp
 have cn:=jc (fun x=>decide (N.dg m x=2)) N.p
 obtain⟨k0,hk0⟩:∃ k,m.testBit k=true:=by
  apply Classical.byContradiction;intro h;exact h0 (Nat.eq_of_testBit_eq fun i=>by
   rw[Nat.zero_testBit];cases e:m.testBit i with
   | false=>rfl
   | true=>exact absurd ⟨i,e⟩ h)
 have hkn:=cV hm hk0;have FW:=N.al k0 hkn;have hd0:N.dg m (N.a k0)=2:=by
  have:=rN hkn hk0 (.inl rfl:N.a k0=N.a k0\/N.b k0=N.a k0);rcases d2 _ FW with h|h<;>lia
 rw[Jx hm d2 FW hd0];generalize hx:N.a k0=x0 at FW hd0;have up:∀ x,x<N.p->N.dg m x=2->N.dg m (N.aN (fun k=>m.testBit k) N.n x)=2:=fun x hx hd=>by
  have hl:=jd (N:=N) (S:=fun k=>m.testBit k) (k:=N.n) hx
  rcases d2 _ hl with h|h
  ·have e:x=N.aN (fun k=>m.testBit k) N.n x:=alone h (bC _ _ _ (bT N.n x))
   rw[<-e]at h
   lia
  ·exact h
 have r0:N.aN (fun k=>m.testBit k) N.n x0<N.p:=jd FW
 constructor
 ·intro h;have one:cnt (fun x=>decide (N.dg m x=2)&&N.root (fun k=>m.testBit k) N.n x) N.p=1:=by
   have:cnt (fun x=>decide (N.dg m x=2)&&N.root (fun k=>m.testBit k) N.n x) N.p=cnt (fun x=>decide (N.aN (fun k=>m.testBit k) N.n x0=x)) N.p:=eG fun x hx=>by
    rw[Bool.eq_iff_iff,Bool.and_eq_true,decide_eq_true_iff,decide_eq_true_iff];unfold Net.root;rw[decide_eq_true_iff]
    constructor
    ·rintro⟨h1,h2⟩;rw[<-(h x hx).mpr h1];exact h2
    ·rintro rfl;exact⟨up x0 FW hd0,bT N.n x0⟩
   rw[this,rL,if_pos r0]
  lia
 ·intro h x hx;have one:cnt (fun x=>decide (N.dg m x=2)&&N.root (fun k=>m.testBit k) N.n x) N.p=1:=by lia
  have So:(decide (N.dg m (N.aN (fun k=>m.testBit k) N.n x0)=2)&&N.root (fun k=>m.testBit k) N.n (N.aN (fun k=>m.testBit k) N.n x0))=true:=by
   rw[Bool.and_eq_true,decide_eq_true_iff];unfold Net.root;rw[decide_eq_true_iff];exact⟨up x0 FW hd0,bT N.n x0⟩
  constructor
  ·intro e;rcases d2 x hx with h|h
   ·have e2:x0=x:=alone h (bC _ _ _ e);rw[<-e2]at h
    lia
   ·exact h
  ·intro hd;have Sq:(decide (N.dg m (N.aN (fun k=>m.testBit k) N.n x)=2)&&N.root (fun k=>m.testBit k) N.n (N.aN (fun k=>m.testBit k) N.n x))=true:=by
    rw[Bool.and_eq_true,decide_eq_true_iff];unfold Net.root;rw[decide_eq_true_iff];exact⟨up x hx hd,bT N.n x⟩
   apply Classical.byContradiction;intro hne;have:=qG (f:=fun x=>decide (N.dg m x=2)&&N.root (fun k=>m.testBit k) N.n x) Sq So hne (jd hx) r0
   lia
theorem Ew(n:Nat):∀ e,bJ (fun j=>n.testBit j) (e+1)=(decide (n%2=1)^^bJ (fun j=>(n/2).testBit j) e)
 | 0=>by
   show(false^^n.testBit 0)=(decide (n%2=1)^^false);rw[Nat.testBit_zero,Bool.false_xor,Bool.xor_false]
 | e+1=>by
   have ih:=Ew n e;show(bJ (fun j=>n.testBit j) (e+1)^^n.testBit (e+1))=(decide (n%2=1)^^(bJ (fun j=>(n/2).testBit j) e^^(n/2).testBit e))
   rw[ih,Nat.testBit_succ,Bool.xor_assoc]
theorem Ex(a b:Nat):(a&&&b)/2=a/2&&&b/2:=Nat.eq_of_testBit_eq fun i=>by
 rw[Nat.testBit_and,<-Nat.testBit_succ,<-Nat.testBit_succ,<-Nat.testBit_succ,Nat.testBit_and]
theorem GW:∀(e n:Nat),n≠0->n<2^e->bJ (fun j=>(n&&&(n-1)).testBit j) e = !bJ (fun j=>n.testBit j) e:=by
 intro e
 induction e with
 | zero=>intro n h0 hn;simp at hn;exact absurd hn h0
 | succ e ih =>
   intro n h0 hn;have hb:(n&&&(n-1))%2=1↔False:=by
    have:=Nat.testBit_zero (n&&&(n-1));rw[Nat.testBit_and,Nat.testBit_zero,Nat.testBit_zero]at this
    constructor
    ·intro z;rw[cU z,Bool.and_eq_true,decide_eq_true_iff,decide_eq_true_iff]at this
     lia
    ·exact False.elim
   rw[Ew,Ew,Ex,ff (fun z=>hb.mp z),Bool.false_xor]
   by_cases h2:n%2=1
   ·rw[cU h2,show(n-1)/2=n/2 by lia,Nat.and_self]
    cases bJ (fun j=>(n/2).testBit j) e<;>rfl
   ·rw[ff h2,Bool.false_xor,show(n-1)/2=n/2-1 by lia]
    exact ih (n/2) (by lia) (by rw[Nat.pow_succ]at hn;lia)
end RM
namespace L2
open PySem PySem.Spec PyProof.Rows
def fS(q:Str)(pos:Pos):Array Value:=#[.str q 0,rawInt pos.line,rawInt pos.col]
def n8(pos:Pos)(c:Addr):Array Value:=#[rawInt pos.line,rawInt pos.col,.ref c]
def iw(H:Hp)(P c:Addr)(oc:Obj)(q:Str)(pos:Pos):Hp:=upd (upd H c (.pY oc (.own P))) P (.kQ (fS q pos++n8 pos c))
def given(H:Hp)(P c:Addr)(q:Str)(pos:Pos):Hp:=upd (upd H c (.own P)) P (.kQ (fS q pos))
def CodeObj(oc:Obj)(q:Str):Prop:=∃ vs t,oc.data = .fields vs/\vs[1]?=some (.str q t)
theorem CodeObj.rec{h:Heap}{c:Addr}{oc:Obj}{q:Str}(x:CodeObj oc q)(e:h.get? c=some oc):h.CodeRec (.ref c) q :=
 let⟨vs,t,e1,e2⟩:=x
 ⟨c,oc,vs,t,rfl,e,e1,e2⟩
theorem JB{P:Program}{w:World}{H:Hp}{h:Heap}{a:Addr}{q:Str}{pos:Pos}(x:bN P w H h a (.kQ (fS q pos))):
 h.get? a=some (PySem.W.tabObj #[])\/∃ c oc,h.get? a=some (PySem.W.tabObj (n8 pos c))/\H c=some (.own a)/\h.get? c=some oc/\CodeObj oc q:=by
 obtain⟨ps,e,f⟩:=x;rcases f with⟨_,f|⟨c,e1,e2,c',oc,vs,tq,hc,ho,hd,hv⟩⟩|⟨q',l,k,f,z⟩
 ·subst f;exact .inl e
 ·cases hc;subst e1;exact .inr ⟨c,oc,e,e2,ho,vs,tq,hd,hv⟩
 ·have:=congrArg Array.size f;rw[Array.size_append,z]at this;exact absurd this (by simp[fS])
theorem Ey{P:Program}{w:World}{H:Hp}{h:Heap}{a c:Addr}{q:Str}{pos:Pos}(x:bN P w H h a (.kQ (fS q pos++n8 pos c))):h.get? a=some (PySem.W.tabObj (n8 pos c)):=by
 obtain⟨ps,e,f⟩:=x;rcases f with⟨f,_⟩|⟨q',l,k,f,z⟩
 ·rw[Array.size_append]at f;exact absurd f (by simp[fS,n8])
 ·have e2:=congrArg (fun a=>a.toList.drop 3) f
  simp only[Array.toList_append,fS,n8,List.cons_append,List.nil_append,List.drop_succ_cons,List.drop_zero]at e2;have e3:ps=n8 pos c:=by
   apply Array.toList_inj.mp;exact e2.symm
  rw[<-e3];exact e
abbrev Ez(X:Cx)(params:Arguments)(body:Expr)(scope:Scope)(c:Addr)(ctv:Value):FuncData :=
 PySem.W.kla_fn "<lambda>" (X.env.qual ++ "<lambda>") params body scope (cY X.env.cells scope.names []) ((X.mg "__name__").getD .none) (.ref c) ctv
abbrev jx(X:Cx)(params:Arguments)(body:Expr)(scope:Scope)(c:Addr)(ctv:Value):Obj :=
 { cls:=.type "function",data:=.func (Ez X params body scope c ctv)}
section
variable {X:Cx}{pq:aW}{σ:St}{H H2:Hp}{s:Shared}{params:Arguments}{body:Expr}{scope:Scope}{pos:Pos}{own fq:List Str}{js:List Nat}{c P:Addr}
theorem EA{Q:ig}{E:ig}
 (I:Inv X pq σ H s) (T:e7 X scope own fq js) (hcode:X.env.code = .ref c) (hK:PySem.W.codeHdIn X.K c P=true) (hP:H P=some (.kQ (fS (X.env.qual ++ "<lambda>") pos)))
 (hdef:defaultsOf params X.env=([],[]))
 (h:∀ f c' oc ctv s',(H c' = none\/H c' = some (.own P))->c'≠P->CodeObj oc (X.env.qual ++ "<lambda>")->Inv X ((f,jx X params body scope c' ctv)::pq) σ (iw H P c' oc (X.env.qual ++ "<lambda>") pos) s'->Q (.ref f) s') :
 wpAny (model X.prog X.w) X.A (eval (.Lambda params body scope pos) X.env) Q E s:=by
 have FW:=JB (show bN X.prog X.w H s.heap P (.kQ (fS (X.env.qual ++ "<lambda>") pos)) from I.hok P _ hP)
 have C:PySem.W.CodeHd s.heap c P:=PySem.W.codeHd_of_K I.ua hK;have hg:=I.mod.glob.keeps I.bk;have PY:∀ b o,X.base.get? b=some o->b≠P:=fun b o q z=>by
  have:=(I.bs b o q).2;rw[z,hP]at this;cases this
 have hgP:mainGlobals≠P:=by
  obtain⟨o,es,ep,q,_⟩:=I.mod.glob;exact PY _ o q
 have hb:s.heap.BuiltinsAt X.mg P:=by
  obtain⟨bm,ob,b1,b2,b3,b4,b5,b6⟩:=I.mod.bmain;refine⟨bm,ob,b1,b2,fun z=>?_,PY _ _ b3,I.bk _ _ b3,b4,b5,b6⟩
  obtain⟨o,es,ep,q,hd,_⟩:=I.mod.glob;rw[z,q]at b3;cases b3;rw[hd]at b6;cases b6
 have hcl:=mU (gy I T);have fin:∀(f c' : Addr) (oc:Obj) (ctv:Value) (h2:Heap) (tk:Nat),(H c' = none\/H c' = some (.own P))->c'≠P->(H c' = none->s.heap.objs.size<=c')->CodeObj oc (X.env.qual ++ "<lambda>")->(∀ b o,b≠P->s.heap.get? b=some o->h2.get? b=some o)->
  h2.get? P=some (PySem.W.tabObj (n8 pos c'))->h2.get? c' = some oc->s.heap.objs.size<=f->f≠c'->h2.get? f=some (jx X params body scope c' ctv)->
  Inv X ((f,jx X params body scope c' ctv)::pq) σ (iw H P c' oc (X.env.qual ++ "<lambda>") pos) { s with heap:=h2,toks:=tk}:=by
  intro f c' oc ctv h2 tk hc BY hnew hoc hx M4 hct hf hfc Ss;have nP:∀ b,H b=none->b≠P:=fun b n z=>by rw[z,hP]at n;cases n
  have GX:∀ b u,H b=some u->(∀ y,u≠.own y)->(∀ qs,u≠.kQ qs)->iw H P c' oc (X.env.qual ++ "<lambda>") pos b=some u:=fun b u e n1 n2=>by
   unfold iw;rw[av (fun z=>by rw[z,hP]at e;exact n2 _ (Option.some.inj e).symm),av (fun z=>by
    rw[z]at e;rcases hc with q|q
    ·rw[q]at e;cases e
    ·rw[q]at e;exact n1 _ (Option.some.inj e).symm)]
   exact e
  have JC:∀ b,H b=none->(b<s.heap.objs.size\/b≠c')->iw H P c' oc (X.env.qual ++ "<lambda>") pos b=none:=fun b n hb=>by
   unfold iw;rw[av (nP b n),av (fun z=>by
    rcases hb with q|q
    ·rw[z]at q n;exact absurd (hnew n) (Nat.not_le.mpr q)
    ·exact q z)]
   exact n
  have un:Un X.fs [] H (iw H P c' oc (X.env.qual ++ "<lambda>") pos) s.heap h2:=by
   refine⟨fun b o q n _ _=>hx b o (nP b n) q,fun b o q n _ _=>⟨o.slots,hx b o (nP b n) q⟩,fun b o q n _=>JC b n (.inl (Heap.lt_size q)),fun b o q _=>?_,fun b xs q=>GX b _ q (by intro y z;cases z) (by intro y z;cases z),fun b o u q=>GX b _ q (by intro y z;cases z) (by intro y z;cases z),fun b ps q=>?_⟩
   ·by_cases hb:b=P
    ·exact⟨_,by rw[hb];exact M4⟩
    ·exact⟨o,hx b o hb q⟩
   ·by_cases hb:b=P
    ·subst hb;rw[hP]at q;cases q;exact⟨n8 pos c',af⟩
    ·refine⟨#[],?_⟩;unfold iw;rw[av hb,av (fun z=>by
      rw[z]at q;rcases hc with r|r<;>(rw[r]at q;cases q)),q]
     simp
  have hok:nE X.prog X.w (iw H P c' oc (X.env.qual ++ "<lambda>") pos) h2:=fun b u q=>by
   by_cases BZ:b=P
   ·subst BZ;unfold iw at q;rw[af]at q;cases q;exact⟨_,M4,.inr ⟨_,_,_,rfl,rfl⟩⟩
   ·by_cases hbc:b=c'
    ·subst hbc;unfold iw at q;rw[av BZ,af]at q;cases q;exact⟨hct,oc,hct⟩
    ·have q' : H b=some u:=by
      unfold iw at q;rw[av BZ,av hbc]at q;exact q
     have ow:∀ d,H d=some (.own b)->d≠P/\d≠c':=fun d qd=>⟨dm qd hP (by intro z;cases z),fun z=>by
      rw[z]at qd;rcases hc with r|r
      ·rw[r]at qd;cases qd
      ·rw[r]at qd;cases qd;exact BZ rfl⟩
     refine(I.hok b u q').stay (fun d v hd qd=>hx d v ?_ qd) (fun d qd=>?_) fun d xs qd=>GX d _ qd (by intro y z;cases z) (by intro y z;cases z)
     ·rcases hd with rfl|hd
      ·exact BZ
      ·exact(ow d hd).1
     ·unfold iw;rw[av (ow d qd).1,av (ow d qd).2];exact qd
  have J:=I.un (t':=tk) un hok;have Su:H f=none:=I.hok.fresh hf;refine J.iq fun p hp=>?_
  rcases List.mem_cons.mp hp with rfl|hp
  ·exact⟨Ss,JC _ Su (.inr hfc),Nat.ne_of_gt (Nat.lt_of_lt_of_le I.lt hf),I.KI hf,fun v z=>by cases z⟩
  ·exact J.pin p (oU _ hp)
 refine PySem.W.kla_eval hdef ?_;rcases FW with e|⟨c',oc,e,ho,hct,hoc⟩
 ·refine PySem.W.kla_makeFunction (mg:=X.mg) hcl I.ok.glob hg hcode C e trivial rfl hgP hb fun c' ctv h' tk hx hge hlt hrec htb=>?_
  obtain⟨c2,oc,vs,t,e2,hct,hd,hv⟩:=hrec;cases e2;have hf:s.heap.objs.size<=h'.objs.size:=Nat.le_trans hge (Nat.le_of_lt hlt);have BY:c'≠P:=Nat.ne_of_gt (Nat.lt_of_lt_of_le (Heap.lt_size e) hge);exact h _ c' oc ctv _ (.inl (I.hok.fresh hge)) BY ⟨vs,t,hd,hv⟩ (fin _ c' oc ctv _ tk (.inl (I.hok.fresh hge)) BY (fun _=>hge) ⟨vs,t,hd,hv⟩ (fun b o hb q=>Heap.get?_push_of_some _ (hx b o hb q)) (Heap.get?_push_of_some _ htb) (Heap.get?_push_of_some _ hct) hf (Nat.ne_of_gt hlt) (Heap.get?_push_size _ rfl))
 ·have hf:codeAmong pos (n8 pos c').toList=some (.ref c'):=codeAmong_snoc [] trivial rfl;have tr:TriplesOk (n8 pos c').toList:=TriplesOk_snoc pos.line pos.col (.ref c') [] trivial;refine PySem.W.kla_makeFunctionHit (mg:=X.mg) hcl I.ok.glob hg hcode C e tr hf hb fun ctv h' tk hk hsz=>?_
  have BY:c'≠P:=dm ho hP (by intro z;cases z)
  have hk' : ∀ b o,s.heap.get? b=some o->(h'.push (jx X params body scope c' ctv)).get? b=some o:=fun b o q=>Heap.get?_push_of_some _ (hk b o q)
  exact h _ c' oc ctv _ (.inr ho) BY hoc (fin _ c' oc ctv _ tk (.inr ho) BY (fun z=>by rw[ho]at z;cases z) hoc (fun b o _ q=>hk' b o q) (hk' _ _ e) (hk' _ _ hct) hsz (Nat.ne_of_gt (Nat.lt_of_lt_of_le (Heap.lt_size hct) hsz)) (Heap.get?_push_size _ rfl))
theorem EB{xq:aW}{σ0:St}{s0:Shared}{q:Str}{oc:Obj}(I0:Inv X xq σ0 H s0)(hP:H P=some (.kQ (fS q pos)))(hc:H c=none\/H c=some (.own P))(BY:c≠P)(hoc:CodeObj oc q)
 (I:Inv X pq σ H2 s) (e1:H2 P=some (.kQ (fS q pos++n8 pos c))) (e2:H2 c=some (.pY oc (.own P))):Inv X pq σ (given H2 P c q pos) s:=by
 have M4:=Ey (show bN X.prog X.w H2 s.heap P (.kQ (fS q pos++n8 pos c)) from I.hok P _ e1)
 obtain⟨hct,_⟩:=(show bN X.prog X.w H2 s.heap c (.pY oc (.own P)) from I.hok c _ e2)
 have JC:∀ b,H2 b=none->given H2 P c q pos b=none:=fun b n=>by
  unfold given;rw[av (fun z=>by rw[z,e1]at n;cases n),av (fun z=>by rw[z,e2]at n;cases n)]
  exact n
 have GX:∀ b u,b≠P->b≠c->H2 b=some u->given H2 P c q pos b=some u:=fun b u n1 n2 e=>by
  unfold given;rw[av n1,av n2];exact e
 refine⟨I.ok,I.os,I.bare,⟨I.base.keep,I.base.slot,fun b o z n hx=>JC b (I.base.free b o z n hx),I.base.there,fun b xs z=>?_,fun b o u z=>?_,fun b ps z=>?_⟩,I.loc,I.cell,JC _ I.free,fun x c' z=>JC _ (I.fD x c' z),fun p hp=>?_,fun b u z=>?_,I.len⟩
 ·have r:=I.base.tups b xs z;exact GX b _ (dm r e1 (by intro z;cases z)) (dm r e2 (by intro z;cases z)) r
 ·have r:=I.base.kT b o u z;refine GX b _ (dm r e1 (by intro z;cases z)) (fun y=>?_) r
  have r0:=I0.base.kT b o u z;rw[y]at r0;rcases hc with hc|hc<;>(rw[hc]at r0;cases r0)
 ·by_cases hb:b=P
  ·subst hb;obtain⟨more,r0⟩:=I0.base.kY b ps z;rw[hP]at r0;exact⟨more,by unfold given;rw[af];exact r0⟩
  ·obtain⟨more,r⟩:=I.base.kY b ps z;exact⟨more,GX b _ hb (dm r e2 (by intro z;cases z)) r⟩
 ·obtain⟨a1,a2,a3⟩:=I.pin p hp;exact⟨a1,JC _ a2,a3⟩
 ·by_cases BZ:b=P
  ·subst BZ;unfold given at z;rw[af]at z;cases z;refine⟨_,M4,.inl ⟨rfl,.inr ⟨c,rfl,?_,hoc.rec hct⟩⟩⟩;unfold given;rw[av BY,af]
  ·by_cases hbc:b=c
   ·subst hbc;unfold given at z;rw[av BZ,af]at z;cases z;exact⟨oc,hct⟩
   ·have z' : H2 b=some u:=by
     unfold given at z;rw[av BZ,av hbc]at z;exact z
    refine(I.hok b u z').stay (fun _ _ _ r=>r) (fun d r=>GX d _ (dm r e1 (by intro z;cases z)) (dm r e2 (by intro z;cases z)) r) fun d xs r=>GX d _ (dm r e1 (by intro z;cases z)) (dm r e2 (by intro z;cases z)) r
theorem EC{q:Str}{oc:Obj}(hP:H P=some (.kQ (fS q pos)))(hc:H c=none\/H c=some (.own P))(BY:c≠P)(S:au (iw H P c oc q pos) H2):au H (given H2 P c q pos):=fun b u e=>by
 unfold given
 by_cases BZ:b=P
 ·subst BZ;rw[af,<-hP];exact e
 ·rw[av BZ]
  by_cases hbc:b=c
  ·subst hbc;rw[af];rcases hc with hc|hc
   ·rw[hc]at e;cases e
   ·rw[<-hc];exact e
  ·rw[av hbc];refine S b u ?_;unfold iw;rw[av BZ,av hbc];exact e
theorem AW{q:Str}{oc:Obj}{b:Addr}{u:HO}(hP:H P=some (.kQ (fS q pos)))(hc:H c=none\/H c=some (.own P))(e:H b=some u)(n1:∀ y,u≠.own y)(n2:∀ qs,u≠.kQ qs):iw H P c oc q pos b=some u:=by
 unfold iw;rw[av (fun z=>by rw[z,hP]at e;exact n2 _ (Option.some.inj e).symm),av (fun z=>by
  rw[z]at e;rcases hc with q|q
  ·rw[q]at e;cases e
  ·rw[q]at e;exact n1 _ (Option.some.inj e).symm)]
 exact e
def AX(X:Cx)(N:List Str)(scope:Scope)(f c:Addr)(A:Around)(s:Shared)(H:Hp):Cx where
 prog:=X.prog
 w:=X.w
 K:=X.K
 mg:=X.mg
 base:=X.base
 A:=A.deeper (PySem.W.envX (X.env.qual ++ "<lambda>") scope s.heap.objs.size f (.ref c) (cY X.env.cells scope.names []))
 N:=N
 s₀:=s
 H₀:=H
 env:=PySem.W.envX (X.env.qual ++ "<lambda>") scope s.heap.objs.size f (.ref c) (cY X.env.cells scope.names [])
 outer:=X.stack
 stack:=PySem.W.envX (X.env.qual ++ "<lambda>") scope s.heap.objs.size f (.ref c) (cY X.env.cells scope.names [])::X.stack
 ex:=[]
 fn:=fun _=>false
 calm:=X.calm
 pn:=[]
 xe:=fun _ _=>False
theorem GY{f:Addr}{A:Around}{x:Str}{v:V}{u:Value}{h1:Heap}{t1:Nat}(I:Inv X pq σ H s)(T:e7 X scope [x] fq js)(hx:scope.names.lookup x=some .local)
 (hfr:A.frames=some X.stack) (hh:A.handled=X.A.handled) (r:RelV v u) (old:∀ b o,s.heap.get? b=some o->h1.get? b=some o) (hn:h1.Ns s.heap.objs.size (fun y=>[(x,u)].reverse.lookup y)) :
 Inv (AX X ([x]++fq) scope f c A s H) [] (some v::fP σ js) H { s with heap:=h1,toks:=t1}:=by
 have cells:∀ x c,(cY X.env.cells scope.names []).lookup x=some c->X.env.cells.lookup x=some c:=fun x c h=>by
  rcases i9 h with q|⟨q1,q2⟩
  ·cases q
  ·obtain⟨c',hc'⟩:=gy I T x .free q1 rfl;rw[hc']at q2;rw[hc'];exact congrArg some q2
 refine⟨⟨I.ok.mod,T.kind,rfl,rfl,Nat.le_refl _,fun x y c a b=>I.ok.inj x y c (cells x c a) (cells y c b),fun y hy=>?_,fun x c z _=>(nomatch z),fun hc=>hh.trans (I.ok.hd hc),Around.frames_deeper hfr,.inr ⟨rfl,rfl⟩,fun b hb=>absurd (show b∈([]:List Addr) from hb) (by simp),
  fun b o e=>I.bs b o e,Nat.le_trans I.ok.FN I.sz,fun b o _ hb=>absurd (show b∈([]:List Addr) from hb) (by simp),fun b hb=>absurd (show b∈([]:List Addr) from hb) (by simp),I.stack,I.qy⟩,
  rfl,I.bare,Un.kept old,⟨_,hn,fun i y v' e1 e2 e3=>?_⟩,fun y c e=>?_,I.hok.fresh (Nat.le_refl _),fun y c e=>I.fD y c (cells y c e),fun p hp=>absurd (show p∈([]:aW) from hp) (by simp),I.hok.kept old,?_⟩
 ·have hy:scope.names.lookup y=some .cell\/scope.names.lookup y=some .free:=hy;rcases hy with hy|hy
  ·exact absurd rfl (T.uZ _ (PySem.mem_of_lookup hy))
  ·exact iR (.inl (PySem.mem_of_lookup hy))
 ·replace e1:([x]++fq)[i]?=some y:=e1
  cases i with
  | zero =>
    have e1:x=y:=by simpa using e1
    have e2:v=v':=by simpa using e2
    subst e1 e2;exact⟨u,r,.inl ⟨hx,by simp⟩⟩
  | succ i =>
    have e1:fq[i]?=some y:=by simpa using e1
    have e2:(fP σ js)[i]?=some (some v'):=by simpa using e2
    obtain⟨j,hj,hσ⟩:=qZ e2;have hN:X.N[j]?=some y:=by
     have q:=congrArg (fun l=>l[i]?) T.at_
     simp only[List.getElem?_map,hj,e1,Option.map_some]at q;exact Option.some.inj q
    have hfx:=T.fr y (nv e1);have hm:=PySem.mem_of_lookup hfx;have hk:=T.free (y,.free) hm rfl;obtain⟨m0,hn0,IS⟩:=I.loc;obtain⟨u',r',l⟩:=IS j y v' hN hσ (by rcases hk with k|k;exact .inr (.inl k);exact .inr (.inr k))
    refine⟨u',r',.inr ⟨.inr hfx,?_⟩⟩;rcases l with⟨oV,_⟩|⟨_,c1,hc,hcell⟩
    ·have oV:X.env.scope.names.lookup y=some .local:=oV;rcases hk with k|k<;>(rw[oV]at k;cases k)
    ·obtain⟨c',hc'⟩:=iR (cells:=X.env.cells) (names:=scope.names) (cs:=[]) (x:=y) (.inl hm);have q:=cells y c' hc';rw[hc]at q;cases q;exact⟨c1,hc',hcell.keeps old⟩
 ·obtain⟨v',q⟩:=I.cell y c (cells y c e);exact⟨v',q.keeps old⟩
 ·show _=([x]++fq).length;have q:=congrArg List.length T.at_;rw[List.length_map,List.length_map]at q;simp only[List.length_cons,List.length_append,List.length_nil];unfold fP;rw[List.length_map]
  lia
theorem ED{f:Addr}{ctv:Value}{A:Around}{te:TE}{x:Str}{v:V}{u:Value}{Q:VK}{E:ig}(I:Inv X pq σ H s)(T:e7 X scope [x] fq js)(hx:scope.names.lookup x=some .local)
 (hfr:A.frames=some X.stack) (hh:A.handled=X.A.handled) (hroom:A.depth<recursionLimit) (hp:(f,jx X params body scope c ctv)∈pq) (hcd:s.heap.CodeRec (.ref c) (X.env.qual ++ "<lambda>"))
 (hb:bindArgs (Ez X params body scope c ctv) ⟨[u],[]⟩=pure [(x,u)]) (hco:scope.isCoroutine=false) (hgen:scope.isGenerator=false)
 (he:PE (AX X ([x]++fq) scope f c A s H) body te) (r:RelV v u) (h:te (some v::fP σ js) H Q) :
 wpAny (model X.prog X.w) A (call (.ref f) [u]) (fun u' s'=>∃ v' H',Inv X pq σ H' s'/\RelV v' u'/\Q v' H') E s:=by
 have hf:=I.pin _ (oU _ hp);refine wpAny_call (PySem.W.kla_callFunE hroom hf.1 rfl hco hgen rfl hcd ?_);rw[hb];refine wpAny_pure (wpAny_newFunctionEnv (fun y hy=>T.uZ y hy) (by intro y hy;have:=List.mem_singleton.mp hy;subst this;exact hx) (fun h₁ hns PZ=>⟨I.nolimit.fresh _ PZ,?_⟩) T.kind)
 show codeAny _ _ (.expr body (PySem.W.envX (X.env.qual ++ "<lambda>") scope s.heap.objs.size f (.ref c) (cY X.env.cells scope.names []))) _ _;have old:∀ b o,s.heap.get? b=some o->h₁.get? b=some o:=fun b o e=>PZ.extBut b o (Nat.ne_of_lt (Heap.lt_size e)) (Heap.get?_push_of_some _ e)
 have J:=GY (f:=f) (c:=c) (A:=A) (t1:=s.toks+[(x,u)].length) I T hx hfr hh r old hns;refine PySem.W.kla_codeExpr (wpAny_mono (he [] _ _ H Q J h) (fun u' s' hq=>?_) fun _ _ z=>z.elim)
 obtain⟨v',H',J',r',q'⟩:=hq;exact⟨v',H',I.Di (ch:=[]) J'.os J'.base J'.hok J'.bare (fun b z=>absurd z (by simp)),r',q'⟩
end
section
variable {X:Cx}{pq:aW}{σ:St}{H H2:Hp}{s:Shared}
def JD(X:Cx)(b:Addr):Prop:=X.s₀.heap.objs.size<=b/\b≠X.env.locals/\b∉X.fs/\(∀ x c,X.env.cells.lookup x=some c->c≠b)/\∀ p∈X.pn,p.1≠b
theorem Inv.OH(I:Inv X pq σ H s){b:Addr}(hb:s.heap.objs.size<=b):JD X b :=
 let⟨_,f1,f2,_,f4,f5⟩:=I.Dr hb (I.hok.fresh hb)
 ⟨Nat.le_trans I.sz hb,f1,f2,f4,fun p hp=>f5 p (Kf _ hp)⟩
theorem Inv.HZ{pa pb:aW}{b:Addr}{o:Obj}{h' : Heap}{t' : Nat}(I:Inv X pa σ H s)(hb:JD X b)(hin:(b,o)∈pa)(k:∀ c u,c≠b->s.heap.get? c=some u->h'.get? c=some u)
 (hp:∀ p∈pb,(p.1=b/\h'.get? b=some p.2/\∀ v,p.2.data≠.cell v)\/(p∈pa/\p.1≠b)):Inv X pb σ H { s with heap:=h',toks:=t'}:=by
 obtain⟨b1,b2,b3,b4,b5⟩:=hb;have n:=(I.pin (b,o) (oU _ hin)).2.1;have J:=(I.iq (qz:=pa.filter fun p=>decide (p.1≠b)) fun p hp=>I.pin p (oU _ (List.mem_filter.mp hp).1)).turned (t':=t') k n b2 (.inr b1) b4 (fun p hp=>by
  rcases List.mem_append.mp hp with hp|hp
  ·exact b5 p hp
  ·exact i6 (List.mem_filter.mp hp).2)
 refine J.iq fun p h=>?_
 rcases hp p h with⟨e,g,d⟩|⟨m,ne⟩
 ·refine⟨by rw[e];exact g,by rw[e];exact n,by rw[e];exact b2,by rw[e];exact b3,d⟩
 ·exact J.pin p (oU _ (List.mem_filter.mpr ⟨m,cU ne⟩))
end
abbrev qh:=List (Addr×Str×Pos)
structure TabsOk(K:bO)(h:Heap)(tb:qh):Prop where
 nd:(tb.map (·.1)).Nodup
 mt:∀ p∈tb,h.get? p.1=some (PySem.W.tabObj #[])
 code:∀ p∈tb,∃ c,PySem.W.CodeHd h c p.1
 out:∀ p∈tb,K.lookup p.1=none
def TabsAt(tb:qh)(H:Hp):Prop:=∀ p∈tb,H p.1=some (.kQ (fS p.2.1 p.2.2))
def xr(tb:qh):Hp:=fun b=>(tb.find? fun p=>p.1==b).map fun p=>.kQ (fS p.2.1 p.2.2)
theorem l6{tb:qh}{b:Addr}{u:HO}(e:xr tb b=some u):∃ p∈tb,p.1=b/\u = .kQ (fS p.2.1 p.2.2):=by
 unfold xr at e;obtain⟨p,h1,h2⟩:=Ac.mp e;have h3:(p.1==b)=true:=List.find?_some (p:=fun p:Addr×Str×Pos=>p.1==b) h1
 exact⟨p,List.mem_of_find?_eq_some h1,eq_of_beq h3,h2.symm⟩
theorem vm:∀{tb:qh},(tb.map (·.1)).Nodup->TabsAt tb (xr tb)
 | [],_=>fun p hp=>nomatch hp
 | q::r,nd=>fun p hp=>by
   rw[List.map_cons,List.nodup_cons]at nd;rcases List.mem_cons.mp hp with rfl|hp
   ·unfold xr;rw[List.find?_cons_of_pos (by simp)];rfl
   ·have ne:(q.1==p.1)=false:=beq_eq_false_iff_ne.mpr fun z=>nd.1 (by rw[z];exact List.mem_map_of_mem hp)
    unfold xr;rw[List.find?_cons_of_neg (by rw[ne];exact Bool.false_ne_true)]
    exact vm nd.2 p hp
theorem B3{P:Program}{w:World}{K:bO}{mg mb:kX}{CX:C3}{k:Nat}{fa a:Addr}{fd:FuncData}{x:Str}{sp:Sp}{s₁:Shared}{vs:List Value}{ns:List Int}{tb:qh}
 (KX:K.In s₁.heap) (TB:TabsOk K s₁.heap tb) (hns:s₁.heap.Ns mainGlobals mg) (hb:s₁.heap.Ns builtinsNs mb) (Sv:∀ x:Str,x≠"__name__"->mb x=bootBuiltins x) (hlim:s₁.heap.NoLimit)
 (hbm:∃ bm ob,mg "__builtins__"=some (.ref bm)/\bm≠builtinsNs/\s₁.heap.get? bm=some ob/\ob.cls = .type "module"/\ob.dict=some builtinsNs/\ob.data = .plain) (hg:s₁.gens = #[])
 (ha:s₁.heap.get? a=some { cls:=.type "list",data:=.seq vs.toArray}) (hi:IntsAre vs ns) (hl:ns.length<=sizeLine) (hr:gq k callerA)
 (F:∀ base:Heap,K.In base->base.Ns mainGlobals mg->k7 P w K mg base CX k fa fd [x] sp) (hbind:∀(s:Shared) (u:Value),BindsTo s fd ⟨[u],[]⟩ [(x,u)])
 (qX:∀ H:Hp,TabsAt tb H->aO K H a (ns.map V.int)->sp [.ref a] H (fun v _=>v = .bl true) fun _ _ _=>False)
 (OI:∀ H e s',CX [] H s₁ (fun _ _ _=>False) e s'->False) :
 codeAny (model P w) callerA (.call (.ref fa) ⟨[.ref a],[]⟩) (fun r s'=>r = .ok (.ret (.bool true))/\OldK s₁.heap s'.heap/\s'.os=s₁.os/\AllBare s'.gens) s₁:=by
 have rv:=ug hi;have OJ:=hi.length;have aT:∀ p∈tb,p.1≠a:=fun p hp z=>by
  have:=TB.mt p hp;rw[z,ha]at this;cases this
 let fz:HO:=.pY { cls:=.type "list",data:=.seq vs.toArray} (.lst (ns.map V.int))
 have core:∀ H:Hp,aO K H a (ns.map V.int)->TabsAt tb H->nE P w H s₁.heap->(∀ b u,H b=some u->(b=a/\K.lookup a=none/\u=fz)\/∃ p∈tb,p.1=b/\u = .kQ (fS p.2.1 p.2.2))->
  codeAny (model P w) callerA (.call (.ref fa) ⟨[.ref a],[]⟩) (fun r s'=>r = .ok (.ret (.bool true))/\OldK s₁.heap s'.heap/\s'.os=s₁.os/\AllBare s'.gens) s₁:=by
  intro H hS hT hok hA;have free:∀{b:Addr} {o:Obj},s₁.heap.get? b=some o->(∀ xs n,o.data≠.seq xs n)->(∀ xs,o.data≠.fields xs)->H b=none:=fun {b o} e n1 n2=>by
   cases q:H b with
   | none=>rfl
   | some u =>
     rcases hA b u q with⟨z,_⟩|⟨p,hp,z,_⟩
     ·rw[z,ha]at e;cases e;exact absurd rfl (n1 _ _)
     ·rw[<-z,TB.mt p hp]at e;cases e;exact absurd rfl (n2 _)
  have M5:∀{b:Addr} {m:kX},s₁.heap.Ns b m->(wB s₁.heap H).Ns b m:=fun {b m} ⟨o,es,ep,e,d,r⟩=>⟨o,es,ep,qN e (free e (by intro _ _ z;rw[d]at z;cases z) (by intro _ z;rw[d]at z;cases z)),d,r⟩
  have P0:K.In (wB s₁.heap H):=fun b o e=>qN (KX b o e) (by
   cases q:H b with
   | none=>rfl
   | some u =>
     rcases hA b u q with⟨z,n,_⟩|⟨p,hp,z,_⟩
     ·rw[z,n]at e;cases e
     ·rw[<-z,TB.out p hp]at e;cases e)
  have hM:Mod K mg (wB s₁.heap H):=⟨P0,M5 hns,⟨mb,M5 hb,Sv⟩,(let⟨mc,h1,h2⟩:=hlim;⟨mc,M5 h1,h2⟩),
   let⟨bm,ob,b1,b2,b3,b4,b5,b6⟩:=hbm;⟨bm,ob,b1,b2,qN b3 (free b3 (by intro _ _ z;rw[b6]at z;cases z) (by intro _ z;rw[b6]at z;cases z)),b4,b5,b6⟩⟩
  have e0:Gg P w K mg (wB s₁.heap H) callerA [] s₁ H:=⟨rfl,hM,fun b o e=>F4 e,Nat.le_of_eq (Bc _ _),trivial,fun b hb=>absurd (show b∈([]:List Addr) from hb) (by simp),hok,.of_eq hg⟩
  refine codeAny_mono ((F _ P0 (M5 hns)).run callerA [] s₁ H ⟨[.ref a],[]⟩ [.ref a] [.ref a] _ _ hr e0 (hbind s₁ (.ref a)) (.cons rfl .nil) (qX H hT hS)) fun r s' h=>?_
  cases r with
  | error e=>exact(OI H e s' h).elim
  | ok fl =>
    cases fl with
    | next=>exact False.elim h
    | brk=>exact False.elim h
    | cont=>exact False.elim h
    | ret u =>
      obtain⟨v,H',os,bare,un,LO,r',q⟩:=h;have q' : v = .bl true:=q;subst q';obtain rfl:u=Value.bool true:=r';have all:∀ b o,s₁.heap.get? b=some o->s'.heap.get? b=some o\/∃ p∈tb,p.1=b/\∃ ps,s'.heap.get? b=some (PySem.W.tabObj ps):=fun b o e=>by
       cases q:H b with
       | none=>exact .inl (un.keep b o e q (by intro z;exact absurd (show b∈([]:List Addr) from z) (by simp)) (by simp))
       | some u =>
         rcases hA b u q with⟨z,_,z2⟩|⟨p,hp,z,z2⟩
         ·rw[z2]at q;obtain⟨e1,_⟩:=hok b _ q;obtain⟨e2,_⟩:=LO b _ (un.kT b _ _ q);rw[e]at e1;cases e1;exact .inl e2
         ·rw[z2]at q;obtain⟨more,q2⟩:=un.kY b _ q;obtain⟨ps,e2,_⟩:=LO b _ q2;exact .inr ⟨p,hp,z,ps,e2⟩
      refine⟨rfl,⟨fun b o e=>?_,fun b o e=>?_⟩,os,bare⟩
      ·rcases all b o e with z|⟨p,hp,z,ps,e2⟩
       ·exact .inl z
       ·obtain⟨c,hc⟩:=TB.code p hp;have e1:=TB.mt p hp;subst z;rw[e]at e1;cases e1;exact .inr (.inl ⟨(hc.tab e).isCodeTable,rfl,#[],ps,rfl,by rw[e2,Array.empty_append]⟩)
      ·rcases all b o e with z|⟨p,hp,z,ps,e2⟩
       ·exact⟨o,z⟩
       ·exact⟨_,e2⟩
 have tok:∀{H:Hp} {b:Addr} {p},p∈tb->p.1=b->bN P w H s₁.heap b (.kQ (fS p.2.1 p.2.2)):=fun {H b p} hp z=>⟨#[],by rw[<-z];exact TB.mt p hp,.inl ⟨rfl,.inl rfl⟩⟩
 cases hk:K.lookup a with
 | some o =>
   have e:=KX a o hk;rw[ha]at e;cases e;refine core (xr tb) (.inr ⟨_,vs.toArray,_,hk,rfl,rfl,rfl,by rw[List.size_toArray,OJ];exact hl,by simpa using rv⟩) (vm TB.nd) (fun b u e=>?_) fun b u e=>.inr (l6 e)
   obtain⟨p,hp,z,rfl⟩:=l6 e;exact tok hp z
 | none =>
   refine core (fun b=>if b=a then some fz else xr tb b) (.inl (.inr ⟨{ cls:=.type "list",data:=.seq vs.toArray},if_pos rfl⟩)) (fun p hp=>?_) (fun b u e=>?_) fun b u e=>?_
   ·show(if p.1=a then some fz else xr tb p.1)=_
    rw[if_neg (aT p hp)];exact vm TB.nd p hp
   ·by_cases hb:b=a
    ·have z:=(if_pos hb).symm.trans e;cases z;subst hb;exact⟨ha,by rw[List.length_map];exact hl,vs,_,rv,ha⟩
    ·have z:=(if_neg hb).symm.trans e;obtain⟨p,hp,z2,rfl⟩:=l6 z;exact tok hp z2
   ·by_cases hb:b=a
    ·have z:=(if_pos hb).symm.trans e;exact .inl ⟨hb,hk,(Option.some.inj z).symm⟩
    ·exact .inr (l6 ((if_neg hb).symm.trans e))
theorem EF{l:PySem.W.OpenLaw}{n k:Nat}{q:Program}{loose:List Str}{XP:(Str->Option Value)->Heap->Prop}{YP:World->Heap->Prop}{d:DefRec}{K:Params->bO}{CX:World->C3}{sp:World->qh->Sp}{x:Str}{ts:List Addr}
 (hn:l.most=some n) (hn2:n<=sizeLine) (Lh:d.params.defaults=[]) (hr:gq k callerA)
 (hY:∀(w:World) (h:Heap),YP w h->(K w.params).In h/\∀ P∈ts,h.get? P=some (PySem.W.tabObj #[]))
 (F:∀(w:World) (mg:kX) (fa:Addr) (h:Heap),(K w.params).In h->h.Ns mainGlobals mg->mg d.name=some (.ref fa)->
  ∃(fd:FuncData) (tb:qh),((tb.map (·.1)).Nodup/\PySem.W.noTabs (K w.params)=true/\∀ p∈tb,p.1∈ts/\∃ c,PySem.W.codeHdIn (K w.params) c p.1=true)/\(∀(s:Shared) (u:Value),BindsTo s fd ⟨[u],[]⟩ [(x,u)])/\
   ∀ base:Heap,(K w.params).In base->base.Ns mainGlobals mg->k7 l.prog w (K w.params) mg base (CX w) k fa fd [x] (sp w tb))
 (qX:∀(w:World) (H:Hp) (a:Addr) (ns:List Int) (tb:qh),ns.length<=n->TabsAt tb H->aO (K w.params) H a (ns.map V.int)->sp w tb [.ref a] H (fun v _=>v = .bl true) fun _ _ _=>False)
 (OI:∀(w:World) (H:Hp) (s:Shared) (e:Value) (s' : Shared),CX w [] H s (fun _ _ _=>False) e s'->False) :
 PySem.W.WalkO q loose XP YP l.row.toRowW d [] (fun f vs=>PySem.call f vs):=by
 refine Att.wK hn Lh fun w s₀ s₁ mg mb fa o pm cd doc a vs ns G Y ho hd hcd hmg hobj hints hlen hg=>?_
 obtain⟨KX,hts⟩:=hY w _ Y;obtain⟨fd,tb,⟨nd,nt,ht⟩,hb,hF⟩:=F w mg fa _ KX G.T.g hmg;have TB:TabsOk (K w.params) s₁.heap tb:=⟨nd,fun p hp=>hts _ (ht p hp).1,fun p hp=>let⟨_,c,e⟩:=ht p hp;⟨c,PySem.W.codeHd_of_K KX e⟩,fun p hp=>by
  cases e:(K w.params).lookup p.1 with
  | none=>rfl
  | some ob =>
    have e1:=KX _ _ e;rw[hts _ (ht p hp).1]at e1;cases e1;have z:=List.all_eq_true.mp nt (p.1,PySem.W.tabObj #[]) (PySem.W.mem_of_lookupK e);exact absurd (show false=true from z) Bool.false_ne_true⟩
 exact B3 KX TB G.T.g G.T.b G.T.builtins G.T.nolimit G.T.bmain hg hobj hints (Nat.le_trans hlen hn2) hr hF hb (fun H hT hS=>qX w H a ns tb hlen hT hS) fun H e s'=>OI w H s₁ e s'
def tu(f:Str):Str:=f ++ ".<locals>." ++ "<lambda>"
structure y9(K:bO)(x qual:Str)(st:Stmt)(f:Addr)(fd:FuncData)(c0 P:Addr):Prop where
 ex:∃(oc:Value) (od:Option Addr) (kV doc pm:Value) (an:Option Addr) (ct:Value) (osl:Array (Option Value)),
  fd=PySem.W.fnOf x qual (dN st) (cf st) (aj st) .none kV doc pm an (.ref c0) ct/\K.lookup f=some ⟨oc,od,.func fd,osl⟩/\PySem.W.codeIn K (.ref c0) qual=true
 kp:PySem.W.keepIn K (.ref f)=true
 hd:PySem.W.codeHdIn K c0 P=true
section
variable {P:Program}{w:World}{K:bO}{mg:kX}{base:Heap}{x qual:Str}{st:Stmt}{f c0 p0:Addr}{fd:FuncData}
theorem y9.ok{N ps:List Str}{k:Nat}{sp:Sp}(F:y9 K x qual st f fd c0 p0)(S:aE N ps (aj st))(len:∀ vs H Q E,sp vs H Q E->vs.length=ps.length)
 (hbody:∀(A:Around) (outer:List Env) (s:Shared) (H:Hp) (vs:List V) (Q:VK) (E:XK),gq k (A.deeper (envOfC qual (aj st) s.heap.objs.size f (.ref c0)))->sp vs H Q E->
  ∃ t,qR (qe Ar P w K mg base N qual (aj st) f (.ref c0) A outer s H E).yt (cf st) t/\t { nx:=fun _ H'=>Q .fL H',rt:=Q} (start N vs) H):k7 P w K mg base Ar (k+1) f fd ps sp:=by
 obtain⟨oc,od,kV,doc,pm,an,ct,osl,rfl,lk,hcd⟩:=F.ex;refine DA lk hcd S len fun A outer s H vs Q E hr qX=>?_
 obtain⟨t,h,q⟩:=hbody A outer s H vs Q E hr qX;exact⟨t,h.yt,q⟩
theorem y9.binds{ps:List Str}(F:y9 K x qual st f fd c0 p0)
 (h:∀(kV doc pm:Value) (an:Option Addr) (cdv ct:Value) (us:List Value),us.length=ps.length->bindArgs (PySem.W.fnOf x qual (dN st) (cf st) (aj st) .none kV doc pm an cdv ct) ⟨us,[]⟩=pure (ps.zip us)):Binds K fd ps []:=by
 obtain⟨oc,od,kV,doc,pm,an,ct,osl,rfl,lk,hcd⟩:=F.ex;exact .all (h kV doc pm an (.ref c0) ct)
theorem GZ{oc:Value}{od an:Option Addr}{osl:Array (Option Value)}{kV doc pm ct:Value}(l:K.lookup f=some ⟨oc,od,.func (PySem.W.fnOf x qual (dN st) (cf st) (aj st) .none kV doc pm an (.ref c0) ct),osl⟩)
 (c:PySem.W.codeIn K (.ref c0) qual=true) (k:PySem.W.keepIn K (.ref f)=true) (hd:PySem.W.codeHdIn K c0 p0=true):y9 K x qual st f (PySem.W.fnOf x qual (dN st) (cf st) (aj st) .none kV doc pm an (.ref c0) ct) c0 p0 :=
 ⟨⟨oc,od,kV,doc,pm,an,ct,osl,rfl,l,c⟩,k,hd⟩
end
open PySem PySem.Spec PyProof.Rows PySem.W
def SRun(r:Nat->Int){α:Type}:KasT α->α
 | .ret a=>a
 | .ask i j k=>SRun r (k (decide (r i<r j)))
section
variable {r:Nat->Int}
theorem iI{α β:Type}{f:α->KasT β}:∀(t:KasT α),SRun r (t.bind f)=SRun r (f (SRun r t))
 | .ret a=>by rw[KasT.bind.eq_1];rfl
 | .ask i j k=>by
   rw[KasT.bind.eq_2];exact iI (k _)
theorem vn{n:Nat}{α:Type}{R:α->Prop}{cmp:Nat->Nat->(Bool->Shared->Prop)->Shared->Prop}{Q:α->Shared->Prop}{s:Shared}(hc:∀ i j C,i<n->j<n->C (decide (r i<r j)) s->cmp i j C s):∀{t:KasT α},sY n R t->(R (SRun r t)->Q (SRun r t) s)->KasT.kasWp cmp t Q s
 | .ret a,h,q=>q h
 | .ask i j k,h,q=>hc i j _ h.1 h.2.1 (vn hc (h.2.2 _) q)
def Kr(r:Nat->Int)(p:Array Nat)(i:Nat):Int:=r (p.getD i 0)
theorem rZ(p:Array Nat)(i:Nat):Kr r p i=r ((p[i]?).getD 0):=by
 unfold Kr;rw[Array.getD_eq_getD_getElem?]
theorem vo{p:Array Nat}{i j:Nat}(hj:j<=p.size)(k:Nat):Kr r (kas_rev p i j) k=if i<=k/\k<j then Kr r p (i+j-1-k) else Kr r p k:=by
 have e:=getElem?_mirror_all (i:=i) hj k;unfold kas_rev;rw[rZ,e]
 split
 ·rw[rZ]
 ·rw[rZ]
theorem EG{p:Array Nat}{src d:Nat}(hs:src<p.size)(hd:d<=src)(k:Nat):Kr r (bubble p src d) k=if k=src-d then Kr r p src else if src-d<k/\k<=src then Kr r p (k-1) else Kr r p k:=by
 have e:=getElem?_bubble hs d hd k;rw[rZ,e]
 split
 ·rw[rZ]
 ·split
  ·rw[rZ]
  ·rw[rZ]
theorem lA(p:Array Nat)(i j:Nat):(kas_rev p i j).size=p.size:=mirror_size _ _ _ _
def Up(r:Nat->Int)(p:Array Nat)(n:Nat):Prop:=∀ i,1<=i->i<n->Kr r p (i-1)<=Kr r p i
theorem Up.le{p:Array Nat}{n:Nat}(h:Up r p n):∀{i j:Nat},i<=j->j<n->Kr r p i<=Kr r p j:=by
 intro i j hij;obtain⟨d,rfl⟩:=Nat.exists_eq_add_of_le hij;clear hij
 induction d with
 | zero=>intro _;exact Int.le_refl _
 | succ d ih =>
   intro hj;have h1:=ih (by lia)
   have h2:=h (i+(d+1)) (by lia) hj
   rw[show i+(d+1)-1=i+d by lia]at h2
   lia
theorem za{p:Array Nat}:∀(f n:Nat),1<=n->Up r p n->n<=SRun r (kas_asc p f n)/\SRun r (kas_asc p f n)<=n+f/\Up r p (SRun r (kas_asc p f n))/\(SRun r (kas_asc p f n)<n+f->Kr r p (SRun r (kas_asc p f n))<Kr r p (SRun r (kas_asc p f n)-1))
 | 0,n,_,h=>by
   rw[kas_asc.eq_1];exact⟨Nat.le_refl n,Nat.le_refl n,h,fun z=>absurd z (Nat.lt_irrefl n)⟩
 | f+1,n,h1,h=>by
   rw[kas_asc.eq_2];show n<=SRun r (if decide (Kr r p n<Kr r p (n-1))=true then _ else _)/\SRun r (if decide (Kr r p n<Kr r p (n-1))=true then _ else _)<=_/\Up r p (SRun r (if decide (Kr r p n<Kr r p (n-1))=true then _ else _))/\_
   by_cases c:Kr r p n<Kr r p (n-1)
   ·show n<=SRun r (if decide (Kr r p n<Kr r p (n-1))=true then _ else _)/\SRun r (if decide (Kr r p n<Kr r p (n-1))=true then _ else _)<=_/\Up r p (SRun r (if decide (Kr r p n<Kr r p (n-1))=true then _ else _))/\(SRun r (if decide (Kr r p n<Kr r p (n-1))=true then _ else _)<_->Kr r p (SRun r (if decide (Kr r p n<Kr r p (n-1))=true then _ else _))<Kr r p (SRun r (if decide (Kr r p n<Kr r p (n-1))=true then _ else _)-1))
    rw[if_pos (cU c)];exact⟨Nat.le_refl n,Nat.le_add_right _ _,h,fun _=>c⟩
   ·show n<=SRun r (if decide (Kr r p n<Kr r p (n-1))=true then _ else _)/\SRun r (if decide (Kr r p n<Kr r p (n-1))=true then _ else _)<=_/\Up r p (SRun r (if decide (Kr r p n<Kr r p (n-1))=true then _ else _))/\(SRun r (if decide (Kr r p n<Kr r p (n-1))=true then _ else _)<_->Kr r p (SRun r (if decide (Kr r p n<Kr r p (n-1))=true then _ else _))<Kr r p (SRun r (if decide (Kr r p n<Kr r p (n-1))=true then _ else _)-1))
    rw[if_neg (by simpa using c)]
    have ih:=za (p:=p) f (n+1) (by lia) (fun i hi hn=>by
     by_cases e:i=n
     ·rw[e];lia
     ·exact h i hi (by lia))
    refine⟨by lia,by lia,ih.2.2.1,fun z=>ih.2.2.2 (by lia)⟩
def Down(r:Nat->Int)(p:Array Nat)(n q:Nat):Prop:=(∀ i,1<=i->i<n->Kr r p i<=Kr r p (i-1))/\q+1<=n/\∀ i,n-(q+1)<=i->i<n->Kr r p i=Kr r p (n-1)
theorem Down.rev{p:Array Nat}{n q:Nat}(h:Down r p n q)(hn:n<=p.size)(k:Nat):Kr r (kas_rev p (n-(q+1)) n) k=Kr r p k:=by
 rw[vo hn]
 split
 ·rename_i hk
  rw[h.2.2 _ (by lia) (by have:=h.2.1;lia),h.2.2 k hk.1 hk.2]
 ·rfl
theorem l8:∀(f:Nat) {p:Array Nat} {n q:Nat},n+f<=p.size->Down r p n q->
 (SRun r (kas_desc f p n q)).1.size=p.size/\n<=(SRun r (kas_desc f p n q)).2.1/\(SRun r (kas_desc f p n q)).2.1<=n+f/\Down r (SRun r (kas_desc f p n q)).1 (SRun r (kas_desc f p n q)).2.1 (SRun r (kas_desc f p n q)).2.2
 | 0,p,n,q,_,h=>by
   rw[kas_desc.eq_1];exact⟨rfl,Nat.le_refl n,Nat.le_refl n,h⟩
 | f+1,p,n,q,hs,h=>by
   rw[kas_desc.eq_2];obtain⟨h1,h2,h3⟩:=id h
   by_cases c:Kr r p n<Kr r p (n-1)
   ·have dn:∀ p' : Array Nat,(∀ k,Kr r p' k=Kr r p k)->Down r p' (n+1) 0:=fun p' e=>by
     refine⟨fun i hi hn=>?_,by lia,fun i hi hn=>by rw[show i=n+1-1 by lia]⟩
     rw[e,e]
     by_cases z:i=n
     ·rw[z];lia
     ·exact h1 i hi (by lia)
    have e0:∀(T1 T2:KasT (Array Nat×Nat×Nat)),SRun r (KasT.ask (p.getD n 0) (p.getD (n-1) 0) fun c=>if c=true then T1 else T2)=SRun r T1:=fun T1 T2=>by
     show SRun r (if decide (Kr r p n<Kr r p (n-1))=true then T1 else T2)=_
     rw[if_pos (cU c)]
    rw[e0]
    by_cases hq:q > 0
    ·rw[if_pos hq];have ih:=l8 f (p:=kas_rev p (n-(q+1)) n) (n:=n+1) (q:=0) (by rw[lA];lia) (dn _ (h.rev (by lia)))
     rw[lA]at ih;exact⟨ih.1,by lia,by lia,ih.2.2.2⟩
    ·rw[if_neg hq];have ih:=l8 f (p:=p) (n:=n+1) (q:=0) (by lia) (dn _ fun _=>rfl)
     exact⟨ih.1,by lia,by lia,ih.2.2.2⟩
   ·have e0:∀(T1 T2:KasT (Array Nat×Nat×Nat)),SRun r (KasT.ask (p.getD n 0) (p.getD (n-1) 0) fun c=>if c=true then T1 else T2)=SRun r T2:=fun T1 T2=>by
     show SRun r (if decide (Kr r p n<Kr r p (n-1))=true then T1 else T2)=_
     rw[if_neg (by simpa using c)]
    rw[e0]
    by_cases d:Kr r p (n-1)<Kr r p n
    ·have e1:∀(T1 T2:KasT (Array Nat×Nat×Nat)),SRun r (KasT.ask (p.getD (n-1) 0) (p.getD n 0) fun c=>if c=true then T1 else T2)=SRun r T1:=fun T1 T2=>by
      show SRun r (if decide (Kr r p (n-1)<Kr r p n)=true then T1 else T2)=_
      rw[if_pos (cU d)]
     rw[e1];exact⟨rfl,Nat.le_refl n,Nat.le_add_right _ _,h⟩
    ·have e1:∀(T1 T2:KasT (Array Nat×Nat×Nat)),SRun r (KasT.ask (p.getD (n-1) 0) (p.getD n 0) fun c=>if c=true then T1 else T2)=SRun r T2:=fun T1 T2=>by
      show SRun r (if decide (Kr r p (n-1)<Kr r p n)=true then T1 else T2)=_
      rw[if_neg (by simpa using d)]
     rw[e1];have ih:=l8 f (p:=p) (n:=n+1) (q:=q+1) (by lia) ⟨fun i hi hn=>by
      by_cases z:i=n
      ·rw[z];lia
      ·exact h1 i hi (by lia),by lia,fun i hi hn=>by
      rw[show n+1-1=n by lia]
      by_cases z:i=n
      ·rw[z]
      ·have:=h3 i (by lia) (by lia)
       lia⟩
     exact⟨ih.1,by lia,by lia,ih.2.2.2⟩
def xu(r:Nat->Int)(n:Nat)(x:Nat×Array Nat):Prop:=x.2.size=n/\1<=x.1/\x.1<=n/\Up r x.2 x.1
theorem xw{n nrem:Nat}{p:Array Nat}{q:Nat}(h:Down r p n q)(hn:1<=n)(hle:n<=nrem)(hs:p.size=nrem):xu r nrem (SRun r (kas_tail3 n nrem p)):=by
 have up:Up r (kas_rev p 0 n) n:=fun i hi hi2=>by
  rw[vo (by lia),vo (by lia),if_pos (by lia),if_pos (by lia)]
  have:=h.1 (0+n-1-(i-1)) (by lia) (by lia)
  rw[show 0+n-1-(i-1)-1=0+n-1-i by lia]at this
  exact this
 have a:=za (nrem-n) n hn up;unfold kas_tail3;rw[iI];exact⟨by show(kas_rev p 0 n).size=nrem;rw[lA,hs],by show 1<=SRun r _;lia,by show SRun r _<=nrem;lia,a.2.2.1⟩
theorem Down.congr{p p' : Array Nat}{n q:Nat}(h:Down r p n q)(e:∀ k,Kr r p' k=Kr r p k):Down r p' n q:=⟨fun i h1 h2=>by rw[e,e];exact h.1 i h1 h2,h.2.1,fun i h1 h2=>by rw[e,e];exact h.2.2 i h1 h2⟩
theorem xx{n nrem:Nat}{p:Array Nat}(hn:1<=n)(hle:n+1<=nrem)(hs:p.size=nrem)(heq:∀ i,i<n->Kr r p i=Kr r p (n-1))(hlt:Kr r p n<Kr r p (n-1)):xu r nrem (SRun r (kas_descPart n nrem p)):=by
 have d0:Down r p (n+1) 0:=⟨fun i h1 h2=>by
  by_cases z:i=n
  ·rw[z];lia
  ·rw[heq i (by lia),heq (i-1) (by lia)]
   exact Int.le_refl _,by lia,fun i h1 h2=>by rw[show i=n+1-1 by lia]⟩
 have d:=l8 (nrem-(n+1)) (p:=p) (n:=n+1) (q:=0) (by lia) d0
 unfold kas_descPart;rw[iI];generalize SRun r (kas_desc (nrem-(n+1)) p (n+1) 0)=x at d;obtain⟨d1,d2,d3,d4⟩:=d
 by_cases hq:x.2.2 > 0
 ·rw[if_pos hq];exact xw (d4.congr (d4.rev (by lia))) (by lia) (by lia) (by rw[lA,d1,hs])
 ·rw[if_neg hq];exact xw d4 (by lia) (by lia) (by rw[d1,hs])
theorem B4{nrem:Nat}{p:Array Nat}(h1:1<=nrem)(hs:p.size=nrem):xu r nrem (SRun r (kas_count nrem p)):=by
 have a:=za (r:=r) (p:=p) (nrem-1) 1 (Nat.le_refl 1) (fun i hi hn=>by lia)
 unfold kas_count;rw[iI];generalize SRun r (kas_asc p (nrem-1) 1)=n at a;obtain⟨a1,a2,a3,a4⟩:=a
 by_cases e:(n==nrem)=true
 ·rw[if_pos e];exact⟨hs,a1,by show n<=nrem;lia,a3⟩
 ·rw[if_neg e];have e:n≠nrem:=by simpa using e
  have hlt:=a4 (by lia)
  by_cases h2:n > 1
  ·rw[if_pos h2]
   by_cases c:Kr r p 0<Kr r p (n-1)
   ·show xu r nrem (SRun r (if decide (Kr r p 0<Kr r p (n-1))=true then _ else _))
    rw[if_pos (cU c)];exact⟨hs,a1,by show n<=nrem;lia,a3⟩
   ·show xu r nrem (SRun r (if decide (Kr r p 0<Kr r p (n-1))=true then _ else _))
    rw[if_neg (by simpa using c)]
    have all:∀ i,i<n->Kr r p i=Kr r p (n-1):=fun i hi=>by
     have l1:=a3.le (show 0<=i by lia) hi
     have l2:=a3.le (show i<=n-1 by lia) (by lia)
     lia
    have er:∀ k,Kr r (kas_rev p 0 n) k=Kr r p k:=fun k=>by
     rw[vo (by lia)]
     split
     ·rw[all _ (by lia),all k (by lia)]
     ·rfl
    exact xx a1 (by lia) (by rw[lA,hs]) (fun i hi=>by rw[er,er];exact all i hi) (by rw[er,er];exact hlt)
  ·rw[if_neg h2];have e1:n=1:=by lia
   subst e1;exact xx a1 (by lia) hs (fun i hi=>by rw[show i=1-1 by lia]) hlt
theorem r6{p:Array Nat}{k:Nat}(up:Up r p k):∀(f l u:Nat),u-l<=f->l<=u->u<=k->(∀ i,i<l->Kr r p i<=Kr r p k)->(∀ i,u<=i->i<k->Kr r p k<Kr r p i)->
 SRun r (kas_place p k f l u)<=k/\(∀ i,i<SRun r (kas_place p k f l u)->Kr r p i<=Kr r p k)/\∀ i,SRun r (kas_place p k f l u)<=i->i<k->Kr r p k<Kr r p i
 | 0,l,u,hf,hlu,huk,h1,h2=>by
   rw[kas_place.eq_1];have e:l=u:=by lia
   subst e;exact⟨huk,h1,h2⟩
 | f+1,l,u,hf,hlu,huk,h1,h2=>by
   rw[kas_place.eq_2]
   by_cases hx:l ≥ u
   ·rw[if_pos hx];have e:l=u:=by lia
    subst e;exact⟨huk,h1,h2⟩
   ·rw[if_neg hx]
    by_cases c:Kr r p k<Kr r p ((l+u)/2)
    ·have e0:∀(T1 T2:KasT Nat),SRun r (KasT.ask (p.getD k 0) (p.getD ((l+u)/2) 0) fun c=>if c=true then T1 else T2)=SRun r T1:=fun T1 T2=>by
      show SRun r (if decide (Kr r p k<Kr r p ((l+u)/2))=true then T1 else T2)=_
      rw[if_pos (cU c)]
     rw[e0];exact r6 up f l ((l+u)/2) (by lia) (by lia) (by lia) h1 fun i hi hk=>by
      have:=up.le hi hk
      lia
    ·have e0:∀(T1 T2:KasT Nat),SRun r (KasT.ask (p.getD k 0) (p.getD ((l+u)/2) 0) fun c=>if c=true then T1 else T2)=SRun r T2:=fun T1 T2=>by
      show SRun r (if decide (Kr r p k<Kr r p ((l+u)/2))=true then T1 else T2)=_
      rw[if_neg (by simpa using c)]
     rw[e0];exact r6 up f ((l+u)/2+1) u (by lia) (by lia) huk (fun i hi=>by
      have:=up.le (show i<=(l+u)/2 by lia) (by lia)
      lia) h2
theorem EH:∀(f:Nat) {p:Array Nat} {k:Nat},k+f<=p.size->Up r p k->Up r (SRun r (kas_bin f p k)) (k+f)
 | 0,p,k,_,h=>by
   rw[kas_bin.eq_1];exact h
 | f+1,p,k,hs,h=>by
   rw[kas_bin.eq_2,iI];have pl:=r6 h k 0 k (by lia) (by lia) (Nat.le_refl k) (fun i hi=>by lia) (fun i h1 h2=>by lia)
   generalize SRun r (kas_place p k k 0 k)=l at pl;obtain⟨p1,p2,p3⟩:=pl;have up:Up r (bubble p k (k-l)) (k+1):=fun i hi hk=>by
    rw[EG (by lia) (by lia),EG (by lia) (by lia),show k-(k-l)=l by lia]
    by_cases c1:i=l
    ·rw[if_neg (by lia),if_neg (by lia),if_pos c1]
     exact p2 (i-1) (by lia)
    ·rw[if_neg c1]
     by_cases c2:l<i/\i<=k
     ·rw[if_pos c2]
      by_cases c3:i-1=l
      ·rw[if_pos c3];exact Int.le_of_lt (p3 (i-1) (by lia) (by lia))
      ·rw[if_neg c3,if_pos (by lia)]
       exact h (i-1) (by lia) (by lia)
     ·rw[if_neg c2,if_neg (by lia),if_neg (by lia)]
      exact h i hi (by lia)
   have:=EH f (p:=bubble p k (k-l)) (k:=k+1) (by rw[bubble_size];lia) up
   rw[show k+(f+1)=k+1+f by lia]
   exact this
theorem AY{n:Nat}(hn:1<=n):Up r (SRun r (kas_sort n)) n:=by
 unfold kas_sort;rw[iI];have c:=B4 (r:=r) (p:=List.toArray (List.range n)) hn (by simp)
 generalize SRun r (kas_count n (List.toArray (List.range n)))=x at c;obtain⟨c1,c2,c3,c4⟩:=c
 by_cases hx:x.1<n
 ·rw[if_pos hx];have:=EH (n-max x.1 1) (p:=x.2) (k:=max x.1 1) (by lia) (by rw[show max x.1 1=x.1 by lia];exact c4)
  rw[show max x.1 1+(n-max x.1 1)=n by lia]at this
  exact this
 ·rw[if_neg hx];have e:x.1=n:=by lia
  rw[e]at c4;exact c4
end
theorem vp:bootBuiltins "sorted"=some (.builtin "sorted"):=by kernel_rfl
def kx(z:Int×Int):Int:=z.1*1073741824+z.2
def G0(z:Int×Int):Prop:=0<=z.2/\z.2<1073741824
section
variable {X:Cx}{pq:aW}{σ:St}{H H2:Hp}{s:Shared}
theorem Inv.G3{a:Addr}{xs:List V}{ob:Obj}(I:Inv X pq σ H s)(e:H a=some (.lst xs))(ho:s.heap.get? a=some ob):Inv X pq σ (upd H a (.pY ob (.lst xs))) s:=by
 have ne:∀ b,H b=none->b≠a:=fun b h z=>by rw[z,e]at h;cases h
 refine⟨I.ok,I.os,I.bare,⟨I.base.keep,I.base.slot,fun b o q n hx=>?_,I.base.there,fun b xs q=>?_,fun b o u q=>?_,fun b ps q=>?_⟩,I.loc,I.cell,?_,fun x c q=>?_,fun p hp=>?_,fun b u q=>?_,I.len⟩
 ·have z:=I.base.free b o q n hx;rw[av (ne b z)];exact z
 ·have z:=I.base.tups b xs q;rw[av (dm z e (by intro z;cases z))]
  exact z
 ·have z:=I.base.kT b o u q;rw[av (dm z e (by intro z;cases z))]
  exact z
 ·obtain⟨more,z⟩:=I.base.kY b ps q;exact⟨more,by rw[av (dm z e (by intro z;cases z))];exact z⟩
 ·rw[av (ne _ I.free)];exact I.free
 ·rw[av (ne _ (I.fD x c q))];exact I.fD x c q
 ·obtain⟨a1,a2,a3⟩:=I.pin p hp;exact⟨a1,by rw[av (ne _ a2)];exact a2,a3⟩
 ·by_cases hb:b=a
  ·subst hb;rw[af]at q;cases q;exact⟨ho,(I.hok b _ e).stay (fun _ _ _ q=>q) (fun c q=>by rw[av (dm q e (by intro z;cases z))];exact q) fun c xs q=>by rw[av (dm q e (by intro z;cases z))];exact q⟩
  ·rw[av hb]at q;exact(I.hok b u q).stay (fun _ _ _ q=>q) (fun c q=>by rw[av (dm q e (by intro z;cases z))];exact q) fun c xs q=>by rw[av (dm q e (by intro z;cases z))];exact q
theorem Inv.LP{xq:aW}{σ0:St}{s0:Shared}{a:Addr}{xs:List V}{ob:Obj}(I0:Inv X xq σ0 H s0)(e0:H a=some (.lst xs))(I:Inv X pq σ H2 s)(e:H2 a=some (.pY ob (.lst xs))):
 Inv X pq σ (upd H2 a (.lst xs)) s:=by
 have ne:∀ b,H2 b=none->b≠a:=fun b h z=>by rw[z,e]at h;cases h
 obtain⟨ho,hd⟩:=(show bN X.prog X.w H2 s.heap a (.pY ob (.lst xs)) from I.hok a _ e)
 refine⟨I.ok,I.os,I.bare,⟨I.base.keep,I.base.slot,fun b o q n hx=>?_,I.base.there,fun b xs q=>?_,fun b o u q=>?_,fun b ps q=>?_⟩,I.loc,I.cell,?_,fun x c q=>?_,fun p hp=>?_,fun b u q=>?_,I.len⟩
 ·have z:=I.base.free b o q n hx;rw[av (ne b z)];exact z
 ·have z:=I.base.tups b xs q;rw[av (dm z e (by intro z;cases z))]
  exact z
 ·have z:=I.base.kT b o u q;rw[av (fun y=>by
   have z0:=I0.base.kT b o u q;rw[y,e0]at z0;cases z0)]
  exact z
 ·obtain⟨more,z⟩:=I.base.kY b ps q;exact⟨more,by rw[av (dm z e (by intro z;cases z))];exact z⟩
 ·rw[av (ne _ I.free)];exact I.free
 ·rw[av (ne _ (I.fD x c q))];exact I.fD x c q
 ·obtain⟨a1,a2,a3⟩:=I.pin p hp;exact⟨a1,by rw[av (ne _ a2)];exact a2,a3⟩
 ·by_cases hb:b=a
  ·subst hb;rw[af]at q;cases q;exact hd.stay (fun _ _ _ q=>q) (fun c q=>by rw[av (dm q e (by intro z;cases z))];exact q) fun c xs q=>by rw[av (dm q e (by intro z;cases z))];exact q
  ·rw[av hb]at q;exact(I.hok b u q).stay (fun _ _ _ q=>q) (fun c q=>by rw[av (dm q e (by intro z;cases z))];exact q) fun c xs q=>by rw[av (dm q e (by intro z;cases z))];exact q
end
def uJ(h:Heap)(v:Value)(z:Int×Int):Prop:=∃(a:Addr) (o:Obj) (t u:Tok) (k:Nat),v = .ref a/\h.get? a=some o/\o.cls = .type "tuple"/\o.data = .seq #[.int z.1 t,.int z.2 u] k
theorem uJ.pair{h:Heap}{v:Value}{z:Int×Int}(q:uJ h v z):HW h v:=let⟨a,o,t,u,k,q⟩:=q;⟨a,o,z.1,z.2,t,u,k,q⟩
theorem uK{prog:Program}{w:World}{A:Around}{s:Shared}{vs:List Value}{n:Nat}{zs:Nat->Int×Int}(hz:∀ i,i<n->G0 (zs i))(hv:∀ i,i<n->uJ s.heap (vs.getD i Value.none) (zs i)):
 ∀ i j C,i<n->j<n->C (decide (kx (zs i)<kx (zs j))) s->kas_ask prog w A (tuples' true) vs i j C s:=by
 intro i j C hi hj hC;unfold kas_ask;obtain⟨a,o,t,u,k,e,ho,_,hd⟩:=hv i hi;obtain⟨a',o',t',u',k',e',ho',_,hd'⟩:=hv j hj;have oi:=hz i hi;have oj:=hz j hj;generalize zs i=z at hd hC oi;generalize zs j=z' at hd' hC oj;obtain⟨x,y⟩:=z;obtain⟨x',y'⟩:=z';unfold kx at hC;unfold G0 at oi oj;dsimp only at hd hd' hC oi oj;rw[e,e'];refine kat_lt ho hd ho' hd' ?_;show KatLex prog w A true _ C [(.int x t,.int x' t'),(.int y u,.int y' u')] 0 s;rw[KatLex.eq_2];refine wpAny_eqBool_int ?_
 by_cases ex:x=x'
 ·rw[show(x==x')=true by simpa using ex]
  rw[if_pos rfl,KatLex.eq_2];refine wpAny_eqBool_int ?_
  by_cases ey:y=y'
  ·rw[show(y==y')=true by simpa using ey]
   rw[if_pos rfl,KatLex.eq_1];rw[ff (by lia)]at hC
   exact hC
  ·rw[show(y==y')=false by simpa using ey]
   rw[if_neg Bool.false_ne_true];refine kat_one _ _ (lt_int ?_);have e2:decide (y<y')=decide (x*1073741824+y<x'*1073741824+y'):=decide_eq_decide.mpr (by lia)
   rw[<-e2]at hC;exact hC
 ·rw[show(x==x')=false by simpa using ex]
  rw[if_neg Bool.false_ne_true];refine oneLt_int ?_;have e2:decide (x<x')=decide (x*1073741824+y<x'*1073741824+y'):=decide_eq_decide.mpr (by lia)
  rw[<-e2]at hC;exact hC
def JE(P:Addr)(q:Str)(lp:Pos)(ta:TA)(te:TE)(js:List Nat):TE:=fun σ H Q=>ta σ H fun vs H1=>∃(a:Addr) (ns:List Int) (kf:Int->Int×Int),vs=[.ref a]/\H1 a=some (.lst (ns.map V.int))/\ns.length<64/\(∀ n∈ns,G0 (kf n))/\H1 P=some (.kQ (fS q lp))/\
 (∀ H3,(∀ b u,H1 b=some u->(∀ y,u≠.own y)->(∀ qs,u≠.kQ qs)->H3 b=some u)->∀ n∈ns,te (some (.int n)::fP σ js) H3 fun v H4=>au H3 H4/\∃ d,v = .ref d/\H4 d=some (.tup [.int (kf n).1,.int (kf n).2]))/\
 ∀(l:Addr) (ns' : List Int) H4,H1 l=none->au H1 H4->H4 l=some (.lst (ns'.map V.int))->ns'.Perm ns->ns'.Pairwise (fun x y=>kx (kf x)<=kx (kf y))->Q (.ref l) H4
section
variable {X:Cx}{pq:aW}{σ:St}{H2:Hp}
theorem B5{A:Around}{E:ig}{P:PySem.Fin->Shared->Prop}{s:Shared}{H3:Hp}{D kS:Addr}{e e1:Nat}{its:List Value}{ns:List Int}{ds:List Addr}{kf:Int->Int×Int}
 (I:Inv X ((kS,seqObj "list" (ds.map Value.ref).toArray e)::pq) σ H3 s) (oK:JD X kS) (pK:∀ p∈pq,p.1≠kS) (hD:H3 D=some (.pY (seqObj "list" #[] e1) (.lst []))) (rv:Vals (ns.map V.int) its) (hn:ns.length<64) (hdl:ds.length=ns.length)
 (hk:∀(j:Nat) d n,ds[j]?=some d->ns[j]?=some n->H3 d=some (.tup [.int (kf n).1,.int (kf n).2])) (hok:∀ n∈ns,G0 (kf n))
 {xq:aW} {σ0:St} {s0:Shared} {H0:Hp} (I0:Inv X xq σ0 H0 s0) (e0:H0 D=some (.lst []))
 (fin:∀(s' : Shared) (ns' : List Int),ns'.Perm ns->ns'.Pairwise (fun x y=>kx (kf x)<=kx (kf y))->Inv X pq σ (upd (upd H3 D (.lst [])) D (.lst (ns'.map V.int))) s'->P (.done (.ret .none)) s') :
 wpAny (model X.prog X.w) A (ksk_end D false its.toArray e1 (.ref kS) ((ds.map Value.ref).toArray)) P E s:=by
 have hl:its.length=ns.length:=by have:=rv.length;rw[List.length_map]at this;lia
 obtain⟨Sw,_⟩:=(show bN X.prog X.w H3 s.heap D (.pY (seqObj "list" #[] e1) (.lst [])) from I.hok D _ hD)
 have zb:=I.pin (kS,seqObj "list" (ds.map Value.ref).toArray e) (oU _ (.head _));have Sx:D≠kS:=fun z=>by
  have:=zb.2.1;rw[<-z,hD]at this;cases this
 have tail:∀(st:SortSt) (ns' : List Int) (out:List Value),(arrOf st).map (·.2)=out.toArray->out.length<64->failedOf st=none->ns'.Perm ns->ns'.Pairwise (fun x y=>kx (kf x)<=kx (kf y))->Vals (ns'.map V.int) out->wpAny (model X.prog X.w) A (ksk_tail D false e1 (.ref kS) st) P E s:=by
  intro st ns' out hout hz hf hp hs hv;have s1:=Heap.SameBut.update s.heap kS (Obj.mapSeq fun _=>(#[]:Array Value))
  have p9:(s.heap.update kS (Obj.mapSeq fun _=>(#[]:Array Value))).get? D=some (seqObj "list" #[] e1):=(s1.2 D Sx).trans Sw
  have s2:=Heap.SameBut.update (s.heap.update kS (Obj.mapSeq fun _=>(#[]:Array Value))) D (Obj.mapSeq fun _=>out.toArray)
  obtain⟨c2,hc2⟩:∃ c2,((s.heap.update kS (Obj.mapSeq fun _=>(#[]:Array Value))).update D (Obj.mapSeq fun _=>out.toArray)).get? D=some (seqObj "list" out.toArray c2):=⟨_,get?_update_seq p9 fun _=>out.toArray⟩
  unfold ksk_tail
  try dsimp only
  rw[hout];refine dB (listUpdate_at zb.1 rfl ?_ (by rw[List.size_toArray,List.length_map,sizeLine_eq];lia) (Nat.zero_le _))
  refine dB (wpAny_letGo ?_);refine dB (seqEpoch_at p9 rfl ?_);refine dB (listUpdate_at p9 rfl ?_ (Nat.zero_le _) (by show out.toArray.size<=_;rw[List.size_toArray,sizeLine_eq];lia))
  rw[hf];simp only[bne_self_eq_false,Bool.false_eq_true,if_false];have J1:=I.HZ (t':=s.toks) (h':=s.heap.update kS (Obj.mapSeq fun _=>(#[]:Array Value))) (pb:=pq) oK (.head _) (fun c u ne e=>(s1.2 c ne).trans e) (fun p hp=>.inr ⟨.tail _ hp,pK p hp⟩)
  have J2:=Inv.LP I0 e0 J1 hD;have J3:=J2.write (x:=D) (e:=D) (o:=.lst (ns'.map V.int)) (t':=s.toks) (h':=(s.heap.update kS (Obj.mapSeq fun _=>(#[]:Array Value))).update D (Obj.mapSeq fun _=>out.toArray)) (by rw[af];trivial) (.inl rfl) (fun b u nb eb=>(s2.2 b nb).trans eb) ⟨_,hc2⟩
   ⟨by rw[List.length_map,hp.length_eq,sizeLine_eq];lia,out,c2,hv,hc2⟩
  exact wpAny_pure (fin _ ns' hp hs J3)
 by_cases h2:2<=ns.length
 ·have kv:∀ i,i<its.length->uJ s.heap ((ds.map Value.ref).getD i Value.none) (kf (ns.getD i 0)):=fun i hi=>by
   have e1:ds[i]?=some (ds[i]'(by lia)):=List.getElem?_eq_getElem _
   have e2:ns[i]?=some (ns[i]'(by lia)):=List.getElem?_eq_getElem _
   have hd:=hk i _ _ e1 e2;obtain⟨ts,rt,⟨o,eo,hc,n,hdt⟩,_⟩:=I.tuple (aY.of hd);have g1:(ds.map Value.ref).getD i Value.none = .ref (ds[i]'(by lia)):=by rw[List.getD_eq_getElem?_getD,List.getElem?_map,e1];rfl
   have g2:ns.getD i 0=ns[i]'(by lia):=by rw[List.getD_eq_getElem?_getD,e2];rfl
   rw[g1,g2]
   match ts,rt with
   | [_,_],.cons ⟨t,rfl⟩ (.cons ⟨u,rfl⟩ .nil)=>exact⟨_,o,t,u,n,rfl,eo,hc,hdt⟩
  have kz:∀ i,i<its.length->G0 (kf (ns.getD i 0)):=fun i hi=>by
   have e2:ns[i]?=some (ns[i]'(by lia)):=List.getElem?_eq_getElem _
   rw[List.getD_eq_getElem?_getD,e2];exact hok _ (List.getElem_mem _)
  have hlk:(ds.map Value.ref).length=its.length:=by rw[List.length_map];lia
  have hn2 : ¬ its.toArray.size<2:=by rw[List.size_toArray];lia
  unfold ksk_end
  try dsimp only
  rw[if_neg Bool.false_ne_true,if_neg hn2,if_neg hn2,if_neg Bool.false_ne_true];refine dB (uC (by rw[List.length_map];lia) (fun v hv=>?_) ?_)
  ·obtain⟨i,hi,rfl⟩:=List.mem_iff_getElem.mp hv;have:=(kv i (by lia)).pair
   rw[List.getD_eq_getElem?_getD,List.getElem?_eq_getElem hi]at this;exact this
  refine dB (wpAny_mono (kat_run (Q:=fun st' s'=>s' = s/\∃ p:Array Nat,c5 its.length p/\Up (fun i=>kx (kf (ns.getD i 0))) p its.length/\(arrOf st').map (·.2)=(p.toList.map fun i=>its.getD i Value.none).toArray/\failedOf st' = none) (G:=fun p s'=>s' = s/\c5 its.length p/\Up (fun i=>kx (kf (ns.getD i 0))) p its.length)
   hlk (by lia) (by lia) (fun p st' s' a1 a2 a3 a4=>⟨a4.1,p,a4.2.1,a4.2.2,kat_snds hlk a2,a3⟩) ?_) ?_ fun _ _ x=>x)
  ·exact vn (r:=fun i=>kx (kf (ns.getD i 0))) (n:=its.length) (uK kz kv) (AS (by lia)) fun hg=>⟨rfl,hg,AY (by lia)⟩
  ·rintro⟨⟨⟩,st'⟩ s' ⟨rfl,p,hg,hu,har,hf⟩
   try dsimp only
   have hpl:p.toList.length=its.length:=by have:=hg.length_eq;rw[List.length_range]at this;exact this
   refine tail st' (p.toList.map fun i=>ns.getD i 0) _ har (by rw[List.length_map];lia) hf ?_ ?_ ?_
   ·have h1:=List.Perm.map (fun i=>ns.getD i 0) hg
    have h3:(List.range its.length).map (fun i=>ns.getD i 0)=ns:=by
     rw[hl];refine List.ext_getElem (by simp) fun i h1 h2=>?_
     simp[List.getD_eq_getElem?_getD,List.getElem?_eq_getElem h2]
    rw[h3]at h1;exact h1
   ·rw[List.pairwise_map,List.pairwise_iff_getElem];intro i j hi hj hij;have:=hu.le (Nat.le_of_lt hij) (by lia)
    have ga:∀ i (hi:i<p.toList.length),p.getD i 0=p.toList[i]:=fun i hi=>by
     rw[Array.getD_eq_getD_getElem?,<-Array.getElem?_toList,List.getElem?_eq_getElem hi];rfl
    unfold Kr at this;rw[ga i hi,ga j hj]at this;exact this
   ·have:∀ l:List Nat,(∀ i∈l,i<ns.length)->Vals ((l.map fun i=>ns.getD i 0).map V.int) (l.map fun i=>its.getD i Value.none):=fun l=>by
     induction l with
     | nil=>exact fun _=>.nil
     | cons i l ih =>
       intro h;refine .cons ?_ (ih fun j hj=>h j (lU _ hj))
       have hi:=h i List.mem_cons_self;have h1:(ns.map V.int)[i]?=some (.int (ns.getD i 0)):=by
        rw[List.getElem?_map,List.getD_eq_getElem?_getD,List.getElem?_eq_getElem hi];rfl
       obtain⟨u,hu,ru⟩:=rv.get h1;have gu:its.getD i Value.none=u:=by rw[List.getD_eq_getElem?_getD,hu];rfl
       show RelV (V.int (ns.getD i 0)) (its.getD i Value.none);rw[gu];exact ru
    refine this _ fun i hi=>?_
    have:=List.mem_range.mp (hg.mem_iff.mp hi)
    lia
 ·have hn2:its.toArray.size<2:=by rw[List.size_toArray];lia
  unfold ksk_end
  try dsimp only
  rw[if_neg Bool.false_ne_true,if_pos hn2,if_pos hn2,if_neg Bool.false_ne_true];refine dB (wpAny_pure ?_);refine dB (m:=pure ((),SortSt.mk' general' (((ds.map Value.ref).toArray).zip its.toArray) #[] 7 none)) (wpAny_pure ?_);refine tail _ ns its ?_ (by lia) rfl (List.Perm.refl _) ?_ rv
  ·show Array.map (fun x:Keyed=>x.snd) (((ds.map Value.ref).toArray).zip its.toArray)=its.toArray
   apply Array.toList_inj.mp;simp;exact List.map_snd_zip (by rw[List.length_map];lia)
  ·match ns,h2 with
   | [],_=>exact .nil
   | [x],_=>exact List.pairwise_singleton _ _
   | _::_::_,h2=>exact absurd (by simp:2<=_) h2
end
section
variable {X:Cx}{params:Arguments}{body e:Expr}{scope:Scope}{lp p pos kp:Pos}{fq:List Str}{js:List Nat}{x:Str}{ta:TA}{te:TE}{c0 P:Addr}{k:Nat}
theorem EI(hr:gq (k+3) X.A)(T:e7 X scope [x] fq js)(hx:scope.names.lookup x=some .local)(hg:Gl X "sorted")(hm:X.mg "sorted"=none)(hcode:X.env.code = .ref c0)(hK:PySem.W.codeHdIn X.K c0 P=true)(ha:PA X [e] ta)
 (he:∀ f c s H,gq k (AX X ([x]++fq) scope f c X.A.in1.in1 s H).A->PE (AX X ([x]++fq) scope f c X.A.in1.in1 s H) body te)
 (hb:∀ c ctv u,bindArgs (Ez X params body scope c ctv) ⟨[u],[]⟩=pure [(x,u)]:=by intro _ _ _;rfl) (hco:scope.isCoroutine=false:=by rfl) (hgen:scope.isGenerator=false:=by rfl)
 (hdef:defaultsOf params X.env=([],[]):=by rfl)
 (hs:backTo pos (starEach [e] X.env)=(false,eval e X.env)::backTo pos (starEach [] X.env):=by rfl) (hs2:(backTo pos (starEach [e] X.env)).any (·.1)=false:=by rfl) :
 PE X (.Call (.Name "sorted" p) [e] [⟨some (Str.ofString "key"),.Lambda params body scope lp,kp⟩] pos) (JE P (X.env.qual ++ "<lambda>") lp ta te js):=by
 intro pq s σ H Q I h;refine wpAny_Call_Name_kw (k6 I hg hm vp (callWith_kw (eY (ha pos pq s σ H _ I h) fun us s1 hq=>?_) hs hs2 rfl rfl))
 obtain⟨vs,H1,I1,r1,a,ns,kf,rfl,hda,h64,hok,hP,hturn,OL⟩:=hq;obtain⟨u,rfl,rx⟩:=vals1 r1;cases rx;refine kws_cons (EA I1 T hcode hK hP hdef fun f c oc ctv s2 hc BY hoc J=>kws_nil ?_)
 show wpAny _ X.A (call (.builtin "sorted") [.ref a] [(Str.ofString "key",.ref f)]) _ _ s2;have hla:=AW (oc:=oc) hP hc hda (by intro y z;cases z) (by intro y z;cases z)
 have M6:iw H1 P c oc (X.env.qual ++ "<lambda>") lp P=some (.kQ (fS (X.env.qual ++ "<lambda>") lp++n8 lp c)):=af;have LQ:iw H1 P c oc (X.env.qual ++ "<lambda>") lp c=some (.pY oc (.own P)):=by unfold iw;rw[av BY,af]
 have Ia:∀ b,iw H1 P c oc (X.env.qual ++ "<lambda>") lp b=none->H1 b=none:=fun b hb=>by
  have bP:b≠P:=fun z=>by rw[z,M6]at hb;cases hb
  have bc:b≠c:=fun z=>by rw[z,LQ]at hb;cases hb
  unfold iw at hb
  rwa [av bP,av bc]at hb
 have P1:∀ b u,H1 b=some u->(∀ y,u≠.own y)->(∀ qs,u≠.kQ qs)->iw H1 P c oc (X.env.qual ++ "<lambda>") lp b=some u:=fun b u eb n1 n2=>AW hP hc eb n1 n2
 generalize Sy:iw H1 P c oc (X.env.qual ++ "<lambda>") lp=HL at J hla M6 LQ Ia P1;obtain⟨its,rv,⟨o,n,ho,hcl,hdt,hd⟩,hz⟩:=J.list (aO.of hla);have hl:=rv.length;rw[List.length_map]at hl;have hsl:its.length<=sizeLine:=dl (Nat.ble_eq.mpr (by lia))
 refine call_function_entry_kw kind_sorted plain_sorted entry_sorted (ksk_s1 _ _) ?_;unfold Builtin.«sorted»;refine dB (m:=checkCount "sorted" 1 1 _) (wpAny_pure ?_);refine dB (wpAny_collect_seq a (T:="list") (.inl rfl) ho hcl hd (fun h1 hk=>?_) (by rw[List.size_toArray];exact hsl))
 have J1:=J.kept (t':=s2.toks) hk;have hfr:HL h1.objs.size=none:=J1.hok.fresh (Nat.le_refl _);refine dB (wpAny_newList ?_ (by simpa using hsl))
 have e0:its.toArray.toList=its:=by simp
 rw[e0];have yr:(h1.push (seqObj "list" its.toArray 0)).get? h1.objs.size=some (seqObj "list" its.toArray 0):=Heap.get?_push_size _ rfl;have J2:Inv X ((f,jx X params body scope c ctv)::pq) σ (upd HL h1.objs.size (.lst (ns.map V.int))) { s2 with heap:=h1.push (seqObj "list" its.toArray 0)}:=by
  refine J1.laid (t':=s2.toks) (fun b o hb=>?_) (Nat.le_refl _) ⟨?_,its,0,rv,yr⟩
  ·rw[Heap.get?_push_ne _ _ _ (Nat.ne_of_lt (Heap.lt_size hb))];exact hb
  ·rw[List.length_map,hl];exact hsl
 generalize VB:h1.objs.size=D at hfr yr J2;refine dB (wpAny_holding (wpAny_call_entry_kw slot_list_sort ⟨_,yr,rfl⟩ entry_list_sort ?body (ksk_l1 _ _)));show wpAny (model X.prog X.w) X.A.in1.in1 (Builtin.«list.sort» ⟨[.ref D],[(Str.ofString "key",.ref f)]⟩) _ _ _;rw[ksk_t1];generalize h1.push (seqObj "list" its.toArray 0)=h2 at yr J2;have s1':=Heap.SameBut.update h2 D (Obj.mapSeq fun _=>(#[]:Array Value))
 obtain⟨e1,FQ⟩:∃ e1,(h2.update D (Obj.mapSeq fun _=>(#[]:Array Value))).get? D=some (seqObj "list" #[] e1):=⟨_,get?_update_seq yr fun _=>#[]⟩
 unfold ksk_tree;refine dB (listItems_at yr rfl ?_);refine dB (listUpdate_at yr rfl ?_ (by rw[List.size_toArray];exact hsl) (Nat.zero_le _))
 refine dB (seqEpoch_at FQ rfl ?_);refine dB (wpAny_newTuple ?_ (by show its.toArray.toList.length<=_;rw[e0];exact hsl))
 refine dB (wpAny_newList ?_ (Nat.zero_le _));refine wpAny_holding ?_;have J3:=J2.write (x:=D) (e:=D) (o:=.lst []) (t':=s2.toks) (h':=h2.update D (Obj.mapSeq fun _=>(#[]:Array Value))) (by rw[af];trivial) (.inl rfl) (fun b u nb eb=>(s1'.2 b nb).trans eb) ⟨_,FQ⟩ ⟨Nat.zero_le _,[],e1,.nil,FQ⟩
 have J4:=J3.G3 (a:=D) af FQ;generalize Kp:upd (upd (upd HL D (.lst (ns.map V.int))) D (.lst [])) D (.pY (seqObj "list" #[] e1) (.lst []))=H2 at J4;have at2:∀ b u,HL b=some u->H2 b=some u:=fun b u eb=>by
  have nb:b≠D:=fun z=>by rw[z,hfr]at eb;cases eb
  rw[<-Kp,av nb,av nb,av nb];exact eb
 have jZ:H2 D=some (.pY (seqObj "list" #[] e1) (.lst [])):=by rw[<-Kp,af]
 generalize h2.update D (Obj.mapSeq fun _=>(#[]:Array Value))=h3 at J3 J4
 rw[e0];have hkk:∀ b u,h3.get? b=some u->((h3.push (seqObj "tuple" its.toArray 0)).push (seqObj "list" #[] 0)).get? b=some u:=fun b u eb=>Heap.get?_push_of_some _ (Heap.get?_push_of_some _ eb)
 have hS:(h3.push (seqObj "tuple" its.toArray 0)).objs.size=h3.objs.size+1:=size_push' ..;have oK:=J4.OH (b:=(h3.push (seqObj "tuple" its.toArray 0)).objs.size) (by show h3.objs.size<=_;rw[hS];exact Nat.le_succ _)
 have gK:((h3.push (seqObj "tuple" its.toArray 0)).push (seqObj "list" #[] 0)).get? (h3.push (seqObj "tuple" its.toArray 0)).objs.size=some (seqObj "list" #[] 0):=Heap.get?_push_size _ rfl;have Sz:H2 (h3.push (seqObj "tuple" its.toArray 0)).objs.size=none:=J4.hok.fresh (by show h3.objs.size<=_;rw[hS];exact Nat.le_succ _)
 have SA:∀ q∈(f,jx X params body scope c ctv)::pq,q.1<h3.objs.size:=fun q hq=>Heap.lt_size (J4.pin q (oU _ hq)).1
 have J5:Inv X (((h3.push (seqObj "tuple" its.toArray 0)).objs.size,seqObj "list" #[] 0)::(f,jx X params body scope c ctv)::pq) σ H2 { s2 with heap:=(h3.push (seqObj "tuple" its.toArray 0)).push (seqObj "list" #[] 0)}:=by
  have K:=J4.kept (t':=s2.toks) hkk;refine K.iq fun q hq=>?_
  rcases List.mem_cons.mp hq with rfl|hq
  ·exact⟨gK,Sz,oK.2.1,oK.2.2.1,fun v z=>by cases z⟩
  ·exact K.pin q (oU _ hq)
 have pK:∀ q∈(f,jx X params body scope c ctv)::pq,q.1≠(h3.push (seqObj "tuple" its.toArray 0)).objs.size:=fun q hq=>by
  have:=SA q hq;rw[hS];exact Nat.ne_of_lt (Nat.lt_succ_of_lt this)
 have P4:its.toArray.size=its.length:=List.size_toArray ..;show wpAny (model X.prog X.w) X.A.in1.in1 (ksk_rest D (.ref f) false its.toArray e1 (.ref (h3.push (seqObj "tuple" its.toArray 0)).objs.size)) _ _ { s2 with heap:=(h3.push (seqObj "tuple" its.toArray 0)).push (seqObj "list" #[] 0)}
 generalize (h3.push (seqObj "tuple" its.toArray 0)).objs.size=kS at oK J5 pK;generalize (h3.push (seqObj "tuple" its.toArray 0)).push (seqObj "list" #[] 0)=h4 at J5;unfold ksk_rest;refine dB (wpAny_rule ?_);rw[List.forIn_toArray];refine dB (ksk_fold (fun i s'=>∃ H3 ds en,au H2 H3/\Inv X ((kS,seqObj "list" ((ds.map Value.ref).toArray) en)::(f,jx X params body scope c ctv)::pq) σ H3 s'/\ds.length=i/\∀(j:Nat) d n,ds[j]?=some d->ns[j]?=some n->H3 d=some (.tup [.int (kf n).1,.int (kf n).2]))
  its 0 _ ⟨H2,[],0,au.refl _,J5,rfl,fun j d n z=>by cases z⟩ ?_ ?_)
 ·rintro j y s' hy ⟨H3,ds,en,Kw,I3,hdl,hkeys⟩;rw[Nat.zero_add]at hdl ⊢;have hj:j<its.length:=(ny.mp hy).1;have P5:ns[j]?=some (ns[j]'(by lia)):=List.getElem?_eq_getElem _
  obtain⟨uu,hu,ru⟩:=rv.get (show(ns.map V.int)[j]?=some (.int (ns[j]'(by lia))) by rw[List.getElem?_map,P5];rfl)
  rw[hy]at hu;cases hu;obtain⟨hct,_⟩:=(show bN X.prog X.w H3 s'.heap c (.pY oc (.own P)) from I3.hok c _ (Kw _ _ (at2 _ _ LQ)))
  have hroom:X.A.in1.in1.depth<recursionLimit:=((hr.in1).in1).depth;refine dB (wpAny_attempt (wpAny_mono (ED (v:=.int (ns[j]'(by lia))) I3 T hx I3.ok.frames rfl hroom (List.Mem.tail _ (.head _)) (hoc.rec hct) (hb c ctv _) hco hgen (he f c s' H3 (((hr.in1).in1).deeper _)) ru
   (hturn H3 (fun b u eb n1 n2=>Kw _ _ (at2 _ _ (P1 b u eb n1 n2))) _ (List.getElem_mem _))) (fun v s3 hv=>?_) fun _ _ z=>z))
  obtain⟨w',H4,I4,rw',P6,d,rfl,SD⟩:=hv;cases rw';have zb:=I4.pin (kS,_) (oU _ (.head _));have sb:=Heap.SameBut.update s3.heap kS (Obj.mapSeq (·.push (.ref d)));have ea:((ds.map Value.ref).toArray).push (.ref d)=((ds++[d]).map Value.ref).toArray:=by simp
  obtain⟨c2,hc2⟩:∃ c2,(s3.heap.update kS (Obj.mapSeq (·.push (.ref d)))).get? kS=some (seqObj "list" (((ds++[d]).map Value.ref).toArray) c2):=⟨_,by rw[<-ea];exact get?_update_seq zb.1 (·.push (.ref d))⟩
  try dsimp only
  refine dB (listUpdate_at zb.1 rfl ?_ (by rw[List.size_toArray,List.length_map,sizeLine_eq];lia) (Nat.le_trans (Nat.le_of_eq (Array.size_push ..)) (by rw[List.size_toArray,List.length_map,sizeLine_eq];lia)))
  refine wpAny_pure ⟨rfl,H4,ds++[d],c2,fun b u z=>P6 _ _ (Kw _ _ z),?_,by rw[List.length_append,List.length_singleton,hdl],fun i d' n' e1 e2=>?_⟩
  ·exact I4.HZ (t':=s3.toks) oK (.head _) (fun b u nb eb=>(sb.2 b nb).trans eb) fun q hq=>by
    rcases List.mem_cons.mp hq with rfl|hq
    ·exact .inl ⟨rfl,hc2,fun v z=>by cases z⟩
    ·exact .inr ⟨.tail _ hq,pK q hq⟩
  ·by_cases hi:i<ds.length
   ·rw[List.getElem?_append_left hi]at e1;exact P6 _ _ (hkeys i d' n' e1 e2)
   ·rw[List.getElem?_append_right (by lia)]at e1
    have hi2:i=j:=by
     have:=(ny.mp e1).1;rw[List.length_singleton]at this
     lia
    subst hi2;rw[hdl,Nat.sub_self]at e1;have e1:d=d':=by simpa using e1
    rw[P5]at e2;cases e2;rw[<-e1];exact SD
 ·rintro s' ⟨H3,ds,en,Kw,I3,hdl,hkeys⟩;rw[Nat.zero_add]at hdl;have zb:=I3.pin (kS,_) (oU _ (.head _))
  try dsimp only
  refine dB (listItems_at zb.1 rfl ?_);refine B5 I3 oK pK (Kw _ _ jZ) rv h64 (by lia) hkeys hok J3 af fun s5 ns' hp OM I5=>⟨_,rfl,wpAny_pure ⟨_,rfl,?_⟩⟩
  have I6:Inv X pq σ (upd (upd H3 D (.lst [])) D (.lst (ns'.map V.int))) s5:=I5.iq fun q hq=>I5.pin q (oU _ (.tail _ hq))
  have nD:∀ b u,HL b=some u->b≠D:=fun b u eb z=>by rw[z,hfr]at eb;cases eb
  have ON:∀ b u,HL b=some u->upd (upd H3 D (.lst [])) D (.lst (ns'.map V.int)) b=some u:=fun b u eb=>by
   rw[av (nD b u eb),av (nD b u eb)];exact Kw _ _ (at2 _ _ eb)
  have I7:=EB I1 hP hc BY hoc I6 (ON _ _ M6) (ON _ _ LQ);refine⟨.ref D,_,I7,rfl,OL D ns' _ (Ia D hfr) (EC hP hc BY (oc:=oc) fun b u eb=>ON b u (by rw[<-Sy];exact eb)) ?_ hp OM⟩
  unfold given;rw[av (fun z=>nD _ _ M6 z.symm),av (fun z=>nD _ _ LQ z.symm),af]
end
section
variable {X:Cx}{pq:aW}{σ:St}{H:Hp}{s:Shared}
theorem xy{a:Addr}{ps:List (Addr×Int×Int)}{its:List Value}{E:ig}{P:PySem.Fin->Shared->Prop}{A:Around}(I:Inv X pq σ (upd H a (.lst (ps.map fun q=>V.ref q.1))) s)(ha:H a=none)(ho:s.heap.get? a=some (seqObj "list" its.toArray 0))(rv:Vals (ps.map fun q=>V.ref q.1) its)
 (hp:∀ q∈ps,H q.1=some (.tup [.int q.2.1,.int q.2.2])) (hok:∀ q∈ps,G0 q.2) (h2:2<=ps.length) (hn:ps.length<64)
 (k:∀(h' : Heap) (c:Nat) (ps' : List (Addr×Int×Int)) (out:List Value),ps'.Perm ps->ps'.Pairwise (fun x y=>kx x.2<=kx y.2)->Vals (ps'.map fun q=>V.ref q.1) out->h'.get? a=some (listOf out.toArray c)->(∀ m,s.heap.Ns X.env.locals m->h'.Ns X.env.locals m)->(∀ b o,b≠X.env.locals->b≠a->s.heap.get? b=some o->h'.get? b=some o)->P (PySem.Fin.done (PySem.Flow.ret PySem.Value.none)) { s with heap:=h'}) :
 wpAny (model X.prog X.w) A (PySem.Builtin.«list.sort» { pos:=[PySem.Value.ref a]}) P E s:=by
 have hl:=rv.length;rw[List.length_map]at hl;obtain⟨m,F⟩:=I.fr;have hne:a≠X.env.locals:=fun z=>by
  have:=I.free;rw[<-z,af]at this;cases this
 have hb:X.base.get? a=none:=by
  cases e:X.base.get? a with
  | none=>rfl
  | some o =>
    have:=(I.bs a o e).2;rw[af]at this;cases this
 have N:News X.base X.env.locals s.heap (rest X.base s.heap X.env.locals a):=fun p hp=>Dg p (List.mem_filter.mp hp).1
 have at_:∀ i,i<ps.length->its.getD i Value.none = .ref (ps.getD i (0,0,0)).1/\ps.getD i (0,0,0)∈ps:=fun i hi=>by
  have h1:(ps.map fun q=>V.ref q.1)[i]?=some (.ref (ps.getD i (0,0,0)).1):=by
   rw[List.getElem?_map,List.getD_eq_getElem?_getD,List.getElem?_eq_getElem hi];rfl
  obtain⟨u,hu,ru⟩:=rv.get h1;refine⟨?_,?_⟩
  ·rw[List.getD_eq_getElem?_getD,hu];exact ru
  ·rw[List.getD_eq_getElem?_getD,List.getElem?_eq_getElem hi];exact List.getElem_mem hi
 refine kat_list_sort F N ho hne hb Ae (by lia) (by lia) fun e1 h' F' N'=>?_
 have kept:=nF (d:=a) I.bk F' fun p hp=>N' p (lU _ hp)
 have pv:∀ q∈ps,uJ h' (.ref q.1) q.2:=fun q hq=>by
  have hH:=hp q hq;have ne1:q.1≠a:=fun z=>by
   rw[z,ha]at hH;cases hH
  have P7:upd H a (.lst (ps.map fun q=>V.ref q.1)) q.1=some (.tup [.int q.2.1,.int q.2.2]):=by rw[av ne1];exact hH
  have ne2:q.1≠X.env.locals:=fun z=>by
   have:=I.free;rw[<-z,P7]at this;cases this
  obtain⟨ts,rt,⟨o,e,hc,n,hd⟩,_⟩:=I.tuple (aY.of P7)
  match ts,rt with
  | [_,_],.cons ⟨t,rfl⟩ (.cons ⟨u,rfl⟩ .nil)=>exact⟨q.1,o,t,u,n,rfl,kept _ _ ne2 ne1 e,hc,hd⟩
 have P8:∀ i,i<its.length->uJ h' (its.getD i Value.none) (ps.getD i (0,0,0)).2:=fun i hi=>by
  obtain⟨e,hm⟩:=at_ i (by lia)
  rw[e];exact pv _ hm
 refine uC (by lia) (fun v hv=>?_) (vn (r:=fun i=>kx (ps.getD i (0,0,0)).2) (n:=its.length) (uK (fun i hi=>hok _ (at_ i (by lia)).2) P8) (AS (by lia)) (fun Kx=>?_))
 ·obtain⟨i,hi,rfl⟩:=List.mem_iff_getElem.mp hv;have:=(P8 i hi).pair;rw[List.getD_eq_getElem?_getD,List.getElem?_eq_getElem hi]at this;exact this
 have hup:=AY (r:=fun i=>kx (ps.getD i (0,0,0)).2) (n:=its.length) (by lia)
 generalize SRun (fun i=>kx (ps.getD i (0,0,0)).2) (kas_sort its.length)=p' at Kx hup ⊢
 refine KasFin.intro F' N' (UpdF.head Ae) fun h'' c P9 Qa=>?_
 have LR:∀ b o,b≠X.env.locals->b≠a->s.heap.get? b=some o->h''.get? b=some o:=nF (d:=a) I.bk P9 fun p hp=>Qa p (lU _ hp)
 have AZ:(p'.toList.map fun i=>ps.getD i (0,0,0)).Perm ps:=by
  have h1:=List.Perm.map (fun i=>ps.getD i (0,0,0)) Kx
  have h2:(List.range its.length).map (fun i=>ps.getD i (0,0,0))=ps:=by
   rw[<-hl];refine List.ext_getElem (by simp) fun i h1 h2=>?_
   simp[List.getD_eq_getElem?_getD,List.getElem?_eq_getElem h2]
  rw[h2]at h1;exact h1
 have hpl:p'.toList.length=its.length:=by have:=Kx.length_eq;rw[List.length_range]at this;exact this
 have zc:(p'.toList.map fun i=>ps.getD i (0,0,0)).Pairwise (fun x y=>kx x.2<=kx y.2):=by
  rw[List.pairwise_map,List.pairwise_iff_getElem];intro i j hi hj hij;have:=hup.le (Nat.le_of_lt hij) (by lia)
  have ga:∀ i (hi:i<p'.toList.length),p'.getD i 0=p'.toList[i]:=fun i hi=>by
   rw[Array.getD_eq_getD_getElem?,<-Array.getElem?_toList,List.getElem?_eq_getElem hi];rfl
  unfold Kr at this;rw[ga i hi,ga j hj]at this;exact this
 refine k h'' c _ _ AZ zc ?_ (Qa _ List.mem_cons_self).1 (fun m' hm'=>?_) LR
 ·have:∀ l:List Nat,(∀ i∈l,i<ps.length)->Vals ((l.map fun i=>ps.getD i (0,0,0)).map fun q=>V.ref q.1) (l.map fun i=>its.getD i Value.none):=fun l=>by
   induction l with
   | nil=>exact fun _=>.nil
   | cons i l ih =>
     intro h;refine .cons ?_ (ih fun j hj=>h j (lU _ hj))
     exact(at_ i (h i List.mem_cons_self)).1
  refine this _ fun i hi=>?_
  have:=List.mem_range.mp (Kx.mem_iff.mp hi)
  lia
 ·rw[Jw hm' F.ns];exact P9.ns
end
section
variable {X:Cx}
theorem EJ(K:bO)(hK:X.K=K:=by rfl):eZ X (.builtin "sorted") (fun xs H Q=>∃(p:Addr) (ps:List (Addr×Int×Int)),xs=[.ref p]/\aO K H p (ps.map fun q=>V.ref q.1)/\(∀ q∈ps,H q.1=some (.tup [.int q.2.1,.int q.2.2]))/\(∀ q∈ps,G0 q.2)/\ps.length<64/\
 ∀(l:Addr) (ps' : List (Addr×Int×Int)),H l=none->ps'.Perm ps->ps'.Pairwise (fun x y=>kx x.2<=kx y.2)->Q (.ref l) (upd H l (.lst (ps'.map fun q=>V.ref q.1)))):=by
 subst hK;intro pq s σ H xs us Q I r h;obtain⟨p,ps,rfl,hq,hp,hok,hn,q⟩:=h;obtain⟨u,rfl,rx⟩:=vals1 r;cases rx;obtain⟨its,rv,⟨o,n,ho,hc,hdt,hd⟩,hz⟩:=I.list hq;have hl:=rv.length;rw[List.length_map]at hl;have hsl:its.length<=sizeLine:=dl (Nat.ble_eq.mpr (by lia))
 refine Calls.call_function_entry kind_sorted plain_sorted entry_sorted (args_sorted1 _) ?_;unfold Builtin.«sorted»;refine dB (m:=checkCount "sorted" 1 1 _) (wpAny_pure ?_);refine dB (wpAny_collect_seq p (T:="list") (.inl rfl) ho hc hd (fun h1 hk=>?_) (by rw[List.size_toArray];exact hsl))
 have I1:=I.kept (t':=s.toks) hk;have hfr:H h1.objs.size=none:=I1.hok.fresh (Nat.le_refl _);refine dB (wpAny_newList ?_ (by simpa using hsl))
 have yr:(h1.push (seqObj "list" its.toArray.toList.toArray 0)).get? h1.objs.size=some (seqObj "list" its.toArray.toList.toArray 0):=Heap.get?_push_size _ rfl;have e0:its.toArray.toList=its:=by simp
 rw[e0]at yr;have I2:Inv X pq σ (upd H h1.objs.size (.lst (ps.map fun q=>V.ref q.1))) { s with heap:=h1.push (seqObj "list" its.toArray 0)}:=by
  refine I1.laid (t':=s.toks) (fun b o hb=>?_) (Nat.le_refl _) ⟨?_,its,0,rv,yr⟩
  ·rw[Heap.get?_push_ne _ _ _ (Nat.ne_of_lt (Heap.lt_size hb))];exact hb
  ·rw[List.length_map,hl];exact hsl
 rw[e0];refine dB (wpAny_holding (wpAny_call_entry slot_list_sort ⟨_,yr,rfl⟩ entry_list_sort (?_) (args_list_sort _)));have LS:∀ ps' : List (Addr×Int×Int),ps'.Perm ps->(ps'.map fun q=>V.ref q.1).length<=sizeLine:=fun ps' Kx=>by
  rw[List.length_map,Kx.length_eq,hl];exact hsl
 have kp:∀ b u,h1.get? b=some u->(h1.push (seqObj "list" its.toArray 0)).get? b=some u:=fun b u e=>by
  rw[Heap.get?_push_ne _ _ _ (Nat.ne_of_lt (Heap.lt_size e))];exact e
 by_cases h2:2<=ps.length
 ·refine xy I2 hfr yr rv hp hok h2 hn fun h' c ps' out AZ zc SE hget hns LU=>⟨_,rfl,wpAny_pure ⟨_,rfl,?_⟩⟩
  refine⟨.ref h1.objs.size,_,I1.LM (t':=s.toks) (o:=.lst (ps'.map fun q=>V.ref q.1)) (fun b u hb e=>LU b u hb (Nat.ne_of_lt (Heap.lt_size e)) (kp b u e)) (fun m hm=>hns m ?_) (Nat.le_refl _) ⟨LS _ AZ,out,c,SE,hget⟩,rfl,q _ ps' hfr AZ zc⟩
  obtain⟨o',es,ep,e,z⟩:=hm;exact⟨o',es,ep,kp _ _ e,z⟩
 ·have few:ps.Pairwise (fun x y=>kx x.2<=kx y.2):=by
   match ps,h2 with
   | [],_=>exact .nil
   | [x],_=>exact List.pairwise_singleton _ _
   | _::_::_,h2=>exact absurd (by simp:2<=_) h2
  refine Ek yr (by lia) ⟨_,rfl,wpAny_pure ⟨_,rfl,?_⟩⟩
  obtain⟨e,he⟩:=sortedHeap_at (out:=its.toArray) yr;refine⟨.ref h1.objs.size,_,I1.laid (t':=s.toks) (o:=.lst (ps.map fun q=>V.ref q.1)) (fun b o hb=>?_) (Nat.le_refl _) ⟨LS ps (List.Perm.refl _),its,e,rv,he⟩,rfl,q _ ps hfr (List.Perm.refl _) few⟩
  have hlt:=Heap.lt_size hb;show(sortedHeap (h1.push (seqObj "list" its.toArray 0)) h1.objs.size its its.toArray).get? b=some o;rw[sortedHeap_old (Nat.ne_of_lt hlt) (by rw[size_push'];exact Nat.lt_succ_of_lt hlt)]
  exact kp b o hb
end
end L2
namespace RM
def hU(B:List Nat):Nat->List Row3
 | 0=>[]
 | i+1=>if(bu (hU B i) (B.getD i 0) 0).1=0 then hU B i else sZ (hU B i) ((bu (hU B i) (B.getD i 0) 0).1.log2,(bu (hU B i) (B.getD i 0) 0).1,(bu (hU B i) (B.getD i 0) 0).2^^^2^i)
theorem zd{B:List Nat}{i b:Nat}{rows:List Row3}(e:rows=hU B i)(hb:B[i]?=some b)(h:(bu rows b 0).1≠0):sZ rows ((bu rows b 0).1.log2,(bu rows b 0).1,(bu rows b 0).2^^^2^i)=hU B (i+1):=by
 subst e;have eb:B.getD i 0=b:=by rw[List.getD_eq_getElem?_getD,hb];rfl
 show _=if _ then _ else _
 rw[eb,if_neg h]
theorem xA{B:List Nat}{i b:Nat}{rows:List Row3}(e:rows=hU B i)(hb:B[i]?=some b)(h:(bu rows b 0).1=0):rows=hU B (i+1):=by
 subst e;have eb:B.getD i 0=b:=by rw[List.getD_eq_getElem?_getD,hb];rfl
 show _=if _ then _ else _
 rw[eb,if_pos h]
section
variable {N:Net}
theorem G4(m t:Nat):∀{n:Nat},t<n->m.testBit t=true->cnt (fun k=>m.testBit k && !decide (k=t)) n+1=cnt (fun k=>m.testBit k) n:=by
 intro n
 induction n with
 | zero=>exact fun h=>absurd h (Nat.not_lt_zero _)
 | succ n ih =>
   intro h hb;show cnt _ n+(if(m.testBit n && !decide (n=t))=true then 1 else 0)+1=cnt _ n+(if m.testBit n=true then 1 else 0)
   by_cases e:n=t
   ·subst e;rw[hb,cU rfl];have:cnt (fun k=>m.testBit k && !decide (k=n)) n=cnt (fun k=>m.testBit k) n:=eG fun k hk=>by rw[ff (by lia),Bool.not_false,Bool.and_true]
    rw[this];rfl
   ·have:=ih (by lia) hb
    rw[ff e,Bool.not_false,Bool.and_true]
    lia
theorem ze{m:Nat}(hm:m<2^N.n)(r:N.Ring m):cnt (fun k=>m.testBit k) N.n+N.az.length<=N.n+1:=by
 obtain⟨t,ht⟩:∃ t,m.testBit t=true:=by
  apply Classical.byContradiction;intro hn;exact r.1 (Nat.eq_of_testBit_eq fun k=>by
   rw[Nat.zero_testBit];cases h:m.testBit k with
   | false=>rfl
   | true=>exact absurd ⟨k,h⟩ hn)
 have LV:=cV hm ht;have h:=GU (N:=N) (ks:=(List.range N.n).filter fun k=>!(m.testBit k && !decide (k=t))) fun q hq ev hz=>by
  have sub:∀ k,q.testBit k=true->m.testBit k=true/\k≠t:=fun k hk=>by
   have hkn:=cV hq hk;apply Classical.byContradiction;intro hn;have:=hz k (List.mem_filter.mpr ⟨List.mem_range.mpr hkn,by
    cases h1:m.testBit k with
    | false=>rfl
    | true =>
      by_cases e:k=t
      ·rw[cU e];rfl
      ·exact absurd ⟨h1,e⟩ hn⟩)
   rw[this]at hk;cases hk
  rcases r.2.2 q (fun k hk=>(sub k hk).1) ev with e|e
  ·exact e
  ·exact absurd rfl (sub t (by rw[e];exact ht)).2
 rw[gz]at h;have h1:=jc (fun k=>m.testBit k && !decide (k=t)) N.n
 have h2:=G4 m t LV ht
 lia
def xB:Nat->Nat->Nat
 | 0,_=>0
 | n+1,z=>z%2+xB n (z/2)
theorem r9{m:Nat}:∀ cs:List Nat,xB cs.length (code m cs)=(cs.filter fun c=>m.testBit c).length
 | []=>rfl
 | c::cs=>by
   have ih:=r9 (m:=m) cs;unfold code;show((if m.testBit c=true then 1 else 0)+2*code m cs)%2+xB cs.length (((if m.testBit c=true then 1 else 0)+2*code m cs)/2)=_
   cases h:m.testBit c with
   | true =>
     rw[if_pos rfl,List.filter_cons,if_pos h,List.length_cons,<-ih];have e1:(1+2*code m cs)%2=1:=by lia
     have e2:(1+2*code m cs)/2=code m cs:=by lia
     rw[e1,e2,Nat.add_comm]
   | false =>
     rw[if_neg Bool.false_ne_true,List.filter_cons,if_neg (by rw[h];decide),<-ih]
     have e1:(0+2*code m cs)%2=0:=by lia
     have e2:(0+2*code m cs)/2=code m cs:=by lia
     rw[e1,e2,Nat.zero_add]
theorem B6{r f:Nat}(h:r+f<=9)(hr:7<=r):((List.range (2^r)).filter fun z=>decide (xB r z<=f+1)&&decide (z≠0)).length<64:=by
 have h1:r=7\/r=8\/r=9:=by lia
 rcases h1 with rfl|rfl|rfl
 ·have hf:f=0\/f=1\/f=2:=by lia
  rcases hf with rfl|rfl|rfl<;>decide +kernel
 ·have hf:f=0\/f=1:=by lia
  rcases hf with rfl|rfl<;>decide +kernel
 ·have hf:f=0:=by lia
  rcases hf with rfl
  decide +kernel
theorem sd(hn:N.n<=9){l:List Nat}(nd:l.Nodup)(h:∀ m∈l,m<2^N.n/\N.Ring m):l.length<64:=by
 by_cases h6:N.az.length<=6
 ·exact Nat.lt_of_lt_of_le (BQ nd h) (Nat.pow_le_pow_right (n:=2) (by decide) h6)
 have cl:N.az.length<=N.n:=by
  have h1:N.az.length<=(List.range N.n).length:=List.length_filter_le ..
  rwa [List.length_range]at h1
 have inj:∀ m q,m<2^N.n->q<2^N.n->N.ek m->N.ek q->code m N.az=code q N.az->m=q:=fun m q hm hq em eq e=>iU hm hq em eq fun c hc hf=>code_inj e c (cS.mpr ⟨hc,hf⟩)
 have OE:(l.map fun m=>code m N.az).Nodup:=by
  refine List.Pairwise.map _ (fun a b (hab:a≠b/\a∈l/\b∈l)=>?_) ?_ (R:=fun a b=>a≠b/\a∈l/\b∈l)
  ·obtain⟨h1,h2⟩:=h a hab.2.1;obtain⟨h3,h4⟩:=h b hab.2.2;exact fun e=>hab.1 (inj a b h1 h3 h2.2.1 h4.2.1 e)
  ·exact List.Pairwise.imp_of_mem (fun {a b} ha hb hne=>⟨hne,ha,hb⟩) nd
 have z0:∀ cs,code 0 cs=0:=fun cs=>by
  induction cs with
  | nil=>rfl
  | cons c cs ih =>
    unfold code;rw[Nat.zero_testBit,ih,if_neg Bool.false_ne_true]
 have:=lZ (L:=(List.range (2^N.az.length)).filter fun z=>decide (xB N.az.length z<=(N.n-N.az.length)+1)&&decide (z≠0)) OE fun x hx=>by
  obtain⟨m,hm,rfl⟩:=List.mem_map.mp hx;obtain⟨h1,h2⟩:=h m hm;refine List.mem_filter.mpr ⟨List.mem_range.mpr (vg _ _),Bool.and_eq_true_iff.mpr ⟨cU ?_,cU fun e=>h2.1 (inj m 0 h1 (Nat.two_pow_pos _) h2.2.1 ek.zero (by rw[e,z0]))⟩⟩
  rw[r9];have h3:=ze h1 h2;have h4:(N.az.filter fun c=>m.testBit c).length<=cnt (fun k=>m.testBit k) N.n:=by
   unfold Net.az;rw[List.filter_filter,gz];exact yS fun k _ h=>(Bool.and_eq_true_iff.mp h).1
  lia
 rw[List.length_map]at this;exact Nat.lt_of_le_of_lt this (B6 (by lia) (by lia))
def se(N:Net)(j:Nat):List Nat:=(List.range (2^j)).map fun z=>N.dM z N.az 0
theorem EK:se N 0=[0]:=by
 unfold se;show[N.dM 0 N.az 0]=[0];rw[GQ]
theorem JF{j c:Nat}(h:N.az[j]?=some c):N.dM (2^j) N.az 0=N.ring c:=by
 have hc:=cS.mp (nv h);have e1:=gP (N:=N) (z:=2^j);have hr:=BV hc.1 hc.2;have hl:N.ring c<2^N.n:=gA fun k hk=>by
  rcases lj hk with z|z
  ·rw[z];exact hc.1
  ·exact z.1
 refine iU e1.2 hl e1.1 hr.2.1 fun d hd hf=>?_
 obtain⟨i,hi⟩:=rS hd hf;rw[kc hi,gB hc.2 hf,Nat.testBit_two_pow];refine decide_eq_decide.mpr ⟨fun e=>?_,fun e=>?_⟩
 ·subst e;rw[h]at hi;exact Option.some.inj hi
 ·subst e;obtain⟨a1,a2⟩:=ny.mp h;obtain⟨b1,b2⟩:=ny.mp hi;exact(List.getElem_inj uE).mp (a2.trans b2.symm)
theorem EL{j c:Nat}(h:N.az[j]?=some c):se N (j+1)=se N j++(se N j).map fun e=>e^^^N.ring c:=by
 unfold se;have e:(2:Nat)^(j+1)=2^j+2^j:=by rw[Nat.pow_succ];lia
 rw[e,List.range_add,List.map_append,List.map_map,List.map_map]
 congr 1
 refine List.map_congr_left fun z hz=>?_
 have hz:=List.mem_range.mp hz;show N.dM (2^j+z) N.az 0=N.dM z N.az 0^^^N.ring c;rw[<-JF h,<-yW]
 congr 1
 have e0:=Nat.two_pow_add_eq_or_of_lt hz 1;rw[Nat.mul_one]at e0;rw[Nat.xor_comm,e0];refine Nat.eq_of_testBit_eq fun i=>?_
 rw[Nat.testBit_or,Nat.testBit_xor,Nat.testBit_two_pow]
 by_cases hi:j=i
 ·subst hi;rw[Nat.testBit_lt_two_pow hz,cU rfl];rfl
 ·rw[ff hi,Bool.false_or,Bool.false_xor]
theorem A2{m:Nat}:m∈se N N.az.length↔N.ek m/\m<2^N.n:=by
 unfold se;rw[List.mem_map]
 constructor
 ·rintro⟨z,_,rfl⟩;exact gP
 ·rintro⟨h1,h2⟩;obtain⟨z,hz,e⟩:=Jy h2 h1;exact⟨z,List.mem_range.mpr hz,e⟩
theorem B7:(se N N.az.length).Nodup:=by
 unfold se;refine List.pairwise_map.mpr (List.Pairwise.imp_of_mem (fun {z y} hz hy h e=>?_) List.pairwise_lt_range)
 have:=GP h (List.mem_range.mp hy)
 lia
theorem B8(h:0<N.n):N.az.length<N.n:=by
 have h0:N.kW 0=true:=by
  have e:decide (N.dZ 0 (N.a 0)=N.dZ 0 (N.b 0))=false:=ff (N.ne 0 h);show(!decide (N.dZ 0 (N.a 0)=N.dZ 0 (N.b 0)))=true;rw[e];rfl
 have h1:N.az.length<(List.range N.n).length:=List.length_filter_lt_length_iff_exists.mpr ⟨0,List.mem_range.mpr h,by rw[h0];decide⟩
 rwa [List.length_range]at h1
end
open Ring (xorL xorL_snoc)
section
variable {N:Net}{B:List Nat}{rows:List Row3}
theorem EM{P:Row3->Bool}:∀{rows:List Row3},(∀ q∈rows,q.2.1.testBit q.1=true)->(rows.Pairwise fun q q'=>q'.2.1.testBit q.1=false/\q.2.1.testBit q'.1=false)->∀ q0∈rows,rx (fun q=>q0.2.1.testBit q.1&&P q) rows=P q0
 | [],_,_,q0,h=>nomatch h
 | q::rows,own,Es,q0,h=>by
   obtain⟨h1,h2⟩:=List.pairwise_cons.mp Es;unfold rx;rcases List.mem_cons.mp h with rfl|h
   ·rw[own q0 List.mem_cons_self,Bool.true_and];have:rx (fun q=>q0.2.1.testBit q.1&&P q) rows=rx (fun _=>false) rows:=rW fun q' hq=>by rw[(h1 q' hq).2,Bool.false_and]
    rw[this];have z:∀ l:List Row3,rx (fun _=>false) l=false:=fun l=>by
     induction l with
     | nil=>rfl
     | cons _ _ ih=>unfold rx;rw[ih];rfl
    rw[z,Bool.xor_false]
   ·rw[(h1 q0 h).1,Bool.false_and,Bool.false_xor];exact EM (fun q' hq=>own q' (lU _ hq)) h2 q0 h
def gD(rows:List Row3)(t:Nat):List Nat:=(rows.filter fun q=>q.2.1.testBit t).map fun q=>q.1
theorem uL(f:Nat->Bool)(t:Nat):∀ rows:List Row3,(gD rows t).foldr (fun k acc=>f k^^acc) false=rx (fun q=>f q.1&&q.2.1.testBit t) rows
 | []=>rfl
 | q::rows=>by
   have ih:=uL f t rows;unfold gD at ih ⊢;unfold rx;cases h:q.2.1.testBit t with
   | true=>rw[List.filter_cons,if_pos h,List.map_cons,List.foldr_cons,ih,Bool.and_true]
   | false=>rw[List.filter_cons,if_neg (by rw[h];decide),ih,Bool.and_false,Bool.false_xor]
theorem vq(own:∀ q∈rows,q.2.1.testBit q.1=true)(Es:rows.Pairwise fun q q'=>q'.2.1.testBit q.1=false/\q.2.1.testBit q'.1=false)(t:Nat):(gD rows t).Nodup:=by
 unfold gD;refine List.pairwise_map.mpr ?_;refine List.Pairwise.imp_of_mem (fun {q q'} hq JA h e=>?_) (Es.filter _)
 have:=own q' (List.mem_filter.mp JA).1;rw[<-e,h.1]at this;cases this
def uM(rows:List Row3)(t:Nat):Nat:=Ring.orM (t::gD rows t)
theorem B9(h:Rw B rows)(hb:∀ b∈B,b<2^N.n){x t:Nat}(hx:x<2^N.n)(ht:(bu rows x 0).1.testBit t=true):uM rows t<2^N.n/\N.par x (uM rows t)=true/\∀ b∈B,N.par b (uM rows t)=false:=by
 have M7:Sp (rows.map fun q=>q.2.1) (x^^^(bu rows x 0).1):=by
  have:=qL (rows.map two) x
  rwa [map_two,<-iW rows x 0]at this
 have Qc:∀ q∈rows,q.2.1<2^N.n:=yY h hb;have SG:∀ y∈(rows.map fun q=>q.2.1),y<2^N.n:=fun y hy=>by
  obtain⟨q,hq,rfl⟩:=List.mem_map.mp hy;exact Qc q hq
 have JG:(bu rows x 0).1<2^N.n:=by
  have:=Nat.xor_lt_two_pow hx (M7.lt SG)
  rwa [<-Nat.xor_assoc,Nat.xor_self,Nat.zero_xor]at this
 have tn:t<N.n:=cV JG ht;have lt:∀ k∈t::gD rows t,k<N.n:=fun k hk=>by
  rcases List.mem_cons.mp hk with rfl|hk
  ·exact tn
  ·obtain⟨q,hq,rfl⟩:=List.mem_map.mp hk;have hq:=(List.mem_filter.mp hq).1;exact cV (Qc q hq) (h.own q hq)
 have nt:t∉gD rows t:=fun hk=>by
  obtain⟨q,hq,e⟩:=List.mem_map.mp hk;have:=h.rT x 0 q (List.mem_filter.mp hq).1;rw[e,ht]at this;cases this
 have nd:(t::gD rows t).Nodup:=List.nodup_cons.mpr ⟨nt,vq h.own h.Es t⟩;have par:∀ y,N.par y (uM rows t)=(y.testBit t^^rx (fun q=>y.testBit q.1&&q.2.1.testBit t) rows):=fun y=>by
  rw[<-uL (fun k=>y.testBit k) t rows]
  show _=(t::gD rows t).foldr (fun k acc=>y.testBit k^^acc) false
  rw[<-uI (fun k=>y.testBit k) N.n nd lt]
  exact bS fun k _=>by unfold uM;rw[Ring.AN]
 have rows0:∀ y,Sp (rows.map fun q=>q.2.1) y->N.par y (uM rows t)=false:=fun y hy=>by
  induction hy with
  | zero=>exact Ed _
  | add _ hb ih =>
    obtain⟨q0,hq,rfl⟩:=List.mem_map.mp hb;rw[AM,ih,par,EM h.own h.Es q0 hq,Bool.false_xor,Bool.xor_self]
 refine⟨Ring.Jv lt,?_,fun b hb=>rows0 b (h.span b hb)⟩
 have e:x=(x^^^(bu rows x 0).1)^^^(bu rows x 0).1:=by rw[Nat.xor_assoc,Nat.xor_self,Nat.xor_zero]
 rw[e,AM,rows0 _ M7,Bool.false_xor,par,ht];have z:rx (fun q=>(bu rows x 0).1.testBit q.1&&q.2.1.testBit t) rows=false:=by
  have:rx (fun q=>(bu rows x 0).1.testBit q.1&&q.2.1.testBit t) rows=rx (fun _=>false) rows:=rW fun q' hq=>by rw[h.rT x 0 q' hq,Bool.false_and]
  rw[this];have z:∀ l:List Row3,rx (fun _=>false) l=false:=fun l=>by
   induction l with
   | nil=>rfl
   | cons _ _ ih=>unfold rx;rw[ih];rfl
  exact z _
 rw[z];rfl
theorem m4(t:Nat):∀(rows:List Row3) (ks:List Nat),rows.foldl (fun M q=>if q.2.1.testBit t=true then M ||| 2^q.1 else M) (Ring.orM ks)=Ring.orM (ks++gD rows t)
 | [],ks=>by show Ring.orM ks=Ring.orM (ks++[]);rw[List.append_nil]
 | q::rows,ks=>by
   rw[List.foldl_cons];have e:gD (q::rows) t=(if q.2.1.testBit t=true then[q.1] else[])++gD rows t:=by
    unfold gD;rw[List.filter_cons]
    split<;>rfl
   rw[e]
   split
   ·have:Ring.orM ks ||| 2^q.1=Ring.orM (ks++[q.1]):=by
     unfold Ring.orM;rw[List.foldl_append];rfl
    rw[this,m4 t rows,List.append_assoc]
   ·rw[m4 t rows,List.nil_append]
def pick(B:List Nat)(u:Nat):List Nat:=((List.range B.length).filter fun k=>u.testBit k).map fun k=>B.getD k 0
theorem EN(B:List Nat)(u:Nat):xorL (pick B u)=comb B u:=by
 have h:∀ i,i<=B.length->xorL (((List.range i).filter fun k=>u.testBit k).map fun k=>B.getD k 0)=comb (B.take i) u:=fun i=>by
  induction i with
  | zero=>exact fun _=>rfl
  | succ i ih =>
    intro hi;have hb:B[i]?=some B[i]:=List.getElem?_eq_getElem hi;have hl:(B.take i).length=i:=List.length_take_of_le (Nat.le_of_lt hi);rw[List.range_succ,List.filter_append,List.map_append,List.take_add_one,hb,Option.toList_some,gC,hl,<-ih (Nat.le_of_lt hi)];cases hu:u.testBit i with
    | true =>
      rw[List.filter_cons,if_pos hu,if_pos rfl];show xorL (_++[B.getD i 0])=_;rw[xorL_snoc,List.getD_eq_getElem?_getD,hb];rfl
    | false =>
      rw[List.filter_cons,if_neg (by rw[hu];decide),List.filter_nil,List.map_nil,List.append_nil,if_neg Bool.false_ne_true,Nat.xor_zero]
 have:=h B.length (Nat.le_refl _)
 rwa [List.take_length]at this
theorem EO{B:List Nat}{u c:Nat}(h:c∈pick B u):c∈B:=by
 obtain⟨k,hk,rfl⟩:=List.mem_map.mp h;have hk:=List.mem_range.mp (List.mem_filter.mp hk).1;rw[List.getD_eq_getElem?_getD,List.getElem?_eq_getElem hk];exact List.getElem_mem hk
theorem zf{B:List Nat}(nd:B.Nodup)(u:Nat):(pick B u).Nodup:=by
 unfold pick;refine List.pairwise_map.mpr (List.Pairwise.imp_of_mem (fun {j k} hj hk h e=>?_) (List.Pairwise.filter _ List.nodup_range))
 have hj:=List.mem_range.mp (List.mem_filter.mp hj).1;have hk:=List.mem_range.mp (List.mem_filter.mp hk).1;rw[List.getD_eq_getElem?_getD,List.getElem?_eq_getElem hj,List.getD_eq_getElem?_getD,List.getElem?_eq_getElem hk]at e;exact h ((List.getElem_inj nd).mp e)
theorem Rw.parts(h:Rw B rows){x:Nat}(hs:Sp B x):(bu rows x 0).2<2^B.length/\xorL (pick B (bu rows x 0).2)=x:=by
 obtain⟨c1,c2⟩:=uH h.HY x 0 (Nat.two_pow_pos _);refine⟨c1,?_⟩;rw[EN,c2,jR,Nat.zero_xor,(h.fF x 0).mpr hs,Nat.xor_zero]
end
end RM
namespace L2
open PySem
theorem gE{lo:Int}{n:Nat}{g:TG}{tb:TS}{D:Ends}{σ:St}{H:Hp}(Pv:Nat->St->Hp->Prop)(h0:Pv 0 σ H)
 (hs:∀ i,let D' : Ends:={ D with nx:=Pv (i+1),ct:=Pv (i+1),bk:=D.nx};∀ σ H,i<n->Pv i σ H->g (.int (lo+i)) σ H fun σ2 H2=>tb D' σ2 H2) (hd:∀ σ H,Pv n σ H->D.nx σ H) :
 ∃ W:Nat->Nat->St->Hp->Prop,(∃ m,W 0 m σ H)/\∀ i m σ H,W i m σ H->
   ((Ds lo n).stop i H/\D.nx σ H)\/((Ds lo n).go i H/\∃ N:St->Hp->Prop,(∀ σ' H',N σ' H'->∃ m',m'<m/\W (i+1) m' σ' H')/\∀ x H',(Ds lo n).F9 i H x H'->g x σ H' fun σ2 H2=>tb { D with nx:=N,ct:=N,bk:=D.nx} σ2 H2) :=
 Bj Pv h0 (fun i σ H hi p=>hs i σ H hi p) hd
theorem c7{K:bO}{a:Addr}{xs:List V}{g:TG}{tb:TS}{D:Ends}{σ:St}{H:Hp}(Pv:Nat->St->Hp->Prop)(h0:Pv 0 σ H)(hl:∀ i σ H,i<=xs.length->Pv i σ H->aO K H a xs)
 (hs:∀ i x,let D' : Ends:={ D with nx:=Pv (i+1),ct:=Pv (i+1),bk:=D.nx};∀ σ H,xs[i]?=some x->Pv i σ H->g x σ H fun σ2 H2=>tb D' σ2 H2) (hd:∀ σ H,Pv xs.length σ H->D.nx σ H) :
 ∃ W:Nat->Nat->St->Hp->Prop,(∃ m,W 0 m σ H)/\∀ i m σ H,W i m σ H->
   ((Ga K a).stop i H/\D.nx σ H)\/((Ga K a).go i H/\∃ N:St->Hp->Prop,(∀ σ' H',N σ' H'->∃ m',m'<m/\W (i+1) m' σ' H')/\∀ x H',(Ga K a).F9 i H x H'->g x σ H' fun σ2 H2=>tb { D with nx:=N,ct:=N,bk:=D.nx} σ2 H2) :=
 Du Pv h0 hl (fun i x σ H hi p=>hs i x σ H hi p) hd
theorem G5{X:Cx}{e:Expr}{T:String}{r:V->List V->Hp->VK->Prop}{to:TE}{t:TA}(K:bO)(p:PE X e (NY X.K T r to t))(h:X.K=K:=by rfl):PE X e (NY K T r to t):=by subst h;exact p
theorem bU{K:bO}{H:Hp}{a:Addr}{xs:List V}{k:Int}{v:V}{R:V->Prop}(hs:aY K H a xs)(ha:Am xs k=some v)(q:R v):∃ p ys k' w,V.ref a = .ref p/\V.int k = .int k'/\aY K H p ys/\Am ys k' = some w/\R w:=⟨a,xs,k,v,rfl,rfl,hs,ha,q⟩
theorem mF{K:bO}{H:Hp}{a:Addr}{xs:List V}{k:Int}{v:V}{R:V->Prop}(hs:aO K H a xs)(ha:Am xs k=some v)(q:R v):∃ p ys k' w,V.ref a = .ref p/\V.int k = .int k'/\aO K H p ys/\Am ys k' = some w/\R w:=⟨a,xs,k,v,rfl,rfl,hs,ha,q⟩
theorem bG{i j:Int}{R:Int->Int->Prop}(h:R i j):∃ i' j',V.int i = .int i'/\V.int j = .int j'/\R i' j':=⟨i,j,rfl,rfl,h⟩
theorem m5{K:bO}{H:Hp}{a:Addr}{xs:List V}{E:Addr->Prop}{R:List V->Prop}(e:E a)(h:aO K H a xs\/aY K H a xs)(q:R xs):∃ p ys,E p/\(aO K H p ys\/aY K H p ys)/\R ys:=⟨a,xs,e,h,q⟩
theorem ak{α:Type}{A R:α->Prop}{x:α}(h:A x)(r:R x):∃ x,A x/\R x:=⟨x,h,r⟩
open PySem PySem.Spec PyProof.Rows
section
variable {K:bO}{mg:kX}{x:Str}{st:Stmt}{f c0 p0:Addr}{fd:FuncData}{ps:List Str}{h:Heap}
structure Dc(K:bO)(mg:kX)(x:Str)(f:Addr)(fd:FuncData)(ps:List Str):Prop where
 m:mg x=some (.ref f)
 k:PySem.W.keepIn K (.ref f)=true
 b:Binds K fd ps []
structure Dk(K:bO)(x:Str)(st:Stmt)(f:Addr)(fd:FuncData):Prop where
 F:Gq K x x st f fd
 n:PySem.W.nsIn K mainGlobals x=some (some (.ref f))
structure LW(K:bO)(x:Str)(st:Stmt)(f:Addr)(fd:FuncData)(c0 p0:Addr):Prop where
 F:y9 K x x st f fd c0 p0
 n:PySem.W.nsIn K mainGlobals x=some (some (.ref f))
structure Dn(K:bO)(mg:kX)(x:Str)(st:Stmt)(f:Addr)(fd:FuncData)(ps:List Str):Prop where
 F:Gq K x x st f fd
 c:Dc K mg x f fd ps
structure Ky(K:bO)(mg:kX)(x:Str)(st:Stmt)(f:Addr)(fd:FuncData)(ps:List Str)(c0 p0:Addr):Prop where
 F:y9 K x x st f fd c0 p0
 c:Dc K mg x f fd ps
theorem dk{oc:Value}{od an:Option Addr}{osl:Array (Option Value)}{kV doc pm cdv ct:Value}(a:PySem.W.nsIn K mainGlobals x=some (some (.ref f)))
 (l:K.lookup f=some ⟨oc,od,.func (PySem.W.fnOf x x (dN st) (cf st) (aj st) .none kV doc pm an cdv ct),osl⟩) (c:PySem.W.codeIn K cdv x=true) (k:PySem.W.keepIn K (.ref f)=true) :
 Dk K x st f (PySem.W.fnOf x x (dN st) (cf st) (aj st) .none kV doc pm an cdv ct):=⟨IP l c k,a⟩
theorem SH{oc:Value}{od an:Option Addr}{osl:Array (Option Value)}{kV doc pm ct:Value}(a:PySem.W.nsIn K mainGlobals x=some (some (.ref f)))
 (l:K.lookup f=some ⟨oc,od,.func (PySem.W.fnOf x x (dN st) (cf st) (aj st) .none kV doc pm an (.ref c0) ct),osl⟩) (c:PySem.W.codeIn K (.ref c0) x=true) (k:PySem.W.keepIn K (.ref f)=true) (d:PySem.W.codeHdIn K c0 p0=true) :
 LW K x st f (PySem.W.fnOf x x (dN st) (cf st) (aj st) .none kV doc pm an (.ref c0) ct) c0 p0:=⟨GZ l c k d,a⟩
structure Ng(K:bO)(x:Str):Prop where
 n:PySem.W.nsIn K mainGlobals x=some none
def Bn(x:Str)(st:Stmt)(ps:List Str)(us:List Value):Prop:=∀(kV doc pm:Value) (an:Option Addr) (cdv ct:Value),bindArgs (PySem.W.fnOf x x (dN st) (cf st) (aj st) .none kV doc pm an cdv ct) ⟨us,[]⟩=pure (ps.zip us)
theorem Ib(h:∀ us:List Value,us.length=ps.length->Bn x st ps us)(kV doc pm:Value)(an:Option Addr)(cdv ct:Value)(us:List Value)(hl:us.length=ps.length):
 bindArgs (PySem.W.fnOf x x (dN st) (cf st) (aj st) .none kV doc pm an cdv ct) ⟨us,[]⟩=pure (ps.zip us):=h us hl kV doc pm an cdv ct
theorem Dk.dn(X:K.In h)(G:h.Ns mainGlobals mg)(D:Dk K x st f fd)(hb:∀ us:List Value,us.length=ps.length->Bn x st ps us):Dn K mg x st f fd ps:=⟨D.F,PySem.W.mg_of X G D.n,D.F.kp,D.F.binds (Ib hb)⟩
theorem LW.dn(X:K.In h)(G:h.Ns mainGlobals mg)(D:LW K x st f fd c0 p0)(hb:∀ us:List Value,us.length=ps.length->Bn x st ps us):Ky K mg x st f fd ps c0 p0:=⟨D.F,PySem.W.mg_of X G D.n,D.F.kp,D.F.binds (Ib hb)⟩
theorem SI{y:Str}(h:∀ a,Bn x st [y] [a])(us:List Value)(hl:us.length=[y].length):Bn x st [y] us:=by obtain⟨_,rfl⟩:=Oj us hl;exact h _
theorem Qd{y z:Str}(h:∀ a b,Bn x st [y,z] [a,b])(us:List Value)(hl:us.length=[y,z].length):Bn x st [y,z] us:=by obtain⟨_,_,rfl⟩:=Ol us hl;exact h _ _
theorem SJ{y z u:Str}(h:∀ a b c,Bn x st [y,z,u] [a,b,c])(us:List Value)(hl:us.length=[y,z,u].length):Bn x st [y,z,u] us:=by obtain⟨_,_,_,rfl⟩:=Om us hl;exact h _ _ _
theorem SK{y z u v:Str}(h:∀ a b c d,Bn x st [y,z,u,v] [a,b,c,d])(us:List Value)(hl:us.length=[y,z,u,v].length):Bn x st [y,z,u,v] us:=by obtain⟨_,_,_,_,rfl⟩:=Oo us hl;exact h _ _ _ _
theorem A3{y:Str}(X:K.In h)(G:h.Ns mainGlobals mg)(D:Dk K x st f fd)(e:∀ a,Bn x st [y] [a]:=by intros;exact fun _ _ _ _ _ _=>rfl):Dn K mg x st f fd [y]:=D.dn X G (SI e)
theorem nA{y z:Str}(X:K.In h)(G:h.Ns mainGlobals mg)(D:Dk K x st f fd)(e:∀ a b,Bn x st [y,z] [a,b]:=by intros;exact fun _ _ _ _ _ _=>rfl):Dn K mg x st f fd [y,z]:=D.dn X G (Qd e)
theorem FY{y z u:Str}(X:K.In h)(G:h.Ns mainGlobals mg)(D:Dk K x st f fd)(e:∀ a b c,Bn x st [y,z,u] [a,b,c]:=by intros;exact fun _ _ _ _ _ _=>rfl):Dn K mg x st f fd [y,z,u]:=D.dn X G (SJ e)
theorem M8{y z u v:Str}(X:K.In h)(G:h.Ns mainGlobals mg)(D:Dk K x st f fd)(e:∀ a b c d,Bn x st [y,z,u,v] [a,b,c,d]:=by intros;exact fun _ _ _ _ _ _=>rfl):Dn K mg x st f fd [y,z,u,v]:=D.dn X G (SK e)
theorem SM{y z:Str}(X:K.In h)(G:h.Ns mainGlobals mg)(D:LW K x st f fd c0 p0)(e:∀ a b,Bn x st [y,z] [a,b]:=by intros;exact fun _ _ _ _ _ _=>rfl):Ky K mg x st f fd [y,z] c0 p0:=D.dn X G (Qd e)
theorem Dn.ok{P:Program}{w:World}{base:Heap}{N:List Str}{k:Nat}{sp:Sp}(D:Dn K mg x st f fd ps)(S:aE N ps (aj st))
 (hbody:∀(cdv:Value) (A:Around) (outer:List Env) (s:Shared) (H:Hp) (vs:List V) (Q:VK) (E:XK),gq k (A.deeper (envOfC x (aj st) s.heap.objs.size f cdv))->sp vs H Q E->
  ∃ t,qR (qe Ar P w K mg base N x (aj st) f cdv A outer s H E).yt (cf st) t/\t { nx:=fun _ H'=>Q .fL H',rt:=Q} (start N vs) H)
 (len:∀ vs H Q E,sp vs H Q E->vs.length=ps.length:=by
  intro vs H Q E h
  first
  | (obtain⟨_,rfl,_⟩:=h;rfl)
  | (obtain⟨_,_,rfl,_⟩:=h;rfl)
  | (obtain⟨_,_,_,rfl,_⟩:=h;rfl)
  | (obtain⟨_,_,_,_,rfl,_⟩:=h;rfl)
  | (obtain⟨_,_,_,_,_,rfl,_⟩:=h;rfl)
  | (obtain⟨_,_,_,_,_,_,rfl,_⟩:=h;rfl)
  | (obtain⟨_,_,_,_,_,_,_,rfl,_⟩:=h;rfl)
  | (obtain⟨_,_,_,_,_,_,_,_,rfl,_⟩:=h;rfl)
  | (obtain⟨_,_,_,_,_,_,_,_,_,rfl,_⟩:=h;rfl)):k7 P w K mg base Ar (k+1) f fd ps sp:=D.F.ok S len hbody
theorem Ky.ok{P:Program}{w:World}{base:Heap}{N:List Str}{k:Nat}{sp:Sp}(D:Ky K mg x st f fd ps c0 p0)(S:aE N ps (aj st))
 (hbody:∀(A:Around) (outer:List Env) (s:Shared) (H:Hp) (vs:List V) (Q:VK) (E:XK),gq k (A.deeper (envOfC x (aj st) s.heap.objs.size f (.ref c0)))->sp vs H Q E->
  ∃ t,qR (qe Ar P w K mg base N x (aj st) f (.ref c0) A outer s H E).yt (cf st) t/\t { nx:=fun _ H'=>Q .fL H',rt:=Q} (start N vs) H)
 (len:∀ vs H Q E,sp vs H Q E->vs.length=ps.length:=by
  intro vs H Q E h
  first
  | (obtain⟨_,rfl,_⟩:=h;rfl)
  | (obtain⟨_,_,rfl,_⟩:=h;rfl)
  | (obtain⟨_,_,_,rfl,_⟩:=h;rfl)
  | (obtain⟨_,_,_,_,rfl,_⟩:=h;rfl)
  | (obtain⟨_,_,_,_,_,rfl,_⟩:=h;rfl)
  | (obtain⟨_,_,_,_,_,_,rfl,_⟩:=h;rfl)
  | (obtain⟨_,_,_,_,_,_,_,rfl,_⟩:=h;rfl)
  | (obtain⟨_,_,_,_,_,_,_,_,rfl,_⟩:=h;rfl)
  | (obtain⟨_,_,_,_,_,_,_,_,_,rfl,_⟩:=h;rfl)):k7 P w K mg base Ar (k+1) f fd ps sp:=D.F.ok S len hbody
theorem Dn.yH{P:Program}{w:World}{base:Heap}{N:List Str}{k:Nat}{sp:Sp}(D:Dn K mg x st f fd ps)(S:aE N ps (aj st))
 (hbody:∀(cdv:Value) (A:Around) (outer:List Env) (s:Shared) (H:Hp) (vs:List V) (Q:VK) (E:XK),gq k (A.deeper (envOfC x (aj st) s.heap.objs.size f cdv))->sp vs H Q E->
  ∃ t,qR (qe (yu P w) P w K mg base N x (aj st) f cdv A outer s H E) (cf st) t/\t { nx:=fun _ H'=>Q .fL H',rt:=Q} (start N vs) H)
 (len:∀ vs H Q E,sp vs H Q E->vs.length=ps.length:=by
  intro vs H Q E h
  first
  | (obtain⟨_,rfl,_⟩:=h;rfl)
  | (obtain⟨_,_,rfl,_⟩:=h;rfl)
  | (obtain⟨_,_,_,rfl,_⟩:=h;rfl)
  | (obtain⟨_,_,_,_,rfl,_⟩:=h;rfl)
  | (obtain⟨_,_,_,_,_,rfl,_⟩:=h;rfl)
  | (obtain⟨_,_,_,_,_,_,rfl,_⟩:=h;rfl)
  | (obtain⟨_,_,_,_,_,_,_,rfl,_⟩:=h;rfl)
  | (obtain⟨_,_,_,_,_,_,_,_,rfl,_⟩:=h;rfl)
  | (obtain⟨_,_,_,_,_,_,_,_,_,rfl,_⟩:=h;rfl)):k7 P w K mg base (yu P w) (k+1) f fd ps sp:=D.F.yH S len hbody
theorem JH{y:Str}(D:Dk K x st f fd)(e:∀ a,Bn x st [y] [a]:=by intros;exact fun _ _ _ _ _ _=>rfl)(s:Shared)(v:Value):BindsTo s fd ⟨[v],[]⟩ [(y,v)]:=by
 obtain⟨oc,od,kV,doc,pm,an,cdv,ct,osl,rfl,lk,hcd⟩:=D.F.ex;exact .of_eq (e v kV doc pm an cdv ct)
end
section
variable {X:Cx}
theorem aC{CX:C3}{k r:Nat}{f:Addr}{fd:FuncData}{ps:List Str}{sp:Sp}{x:Str}{E:XK}{e:Expr}{es:List Expr}{t:TA}{p pos:Pos}
 (F:k7 X.prog X.w X.K X.mg X.base CX k f fd ps sp) (hr:gq r X.A) (D:Dc X.K X.mg x f fd ps) (hx:Passes CX X E) (ha:PA X (e::es) t) (hk:k<=r:=by decide) (hg:Gl X x:=by rfl)
 (hdb:(x==("__debug__":Str))=false:=by decide) (he:starEach (e::es) X.env=(false,eval e X.env)::starEach es X.env:=by rfl) (hpl:(backTo pos (starEach es X.env)).any (·.1)=false:=by rfl) :
 PE X (.Call (.Name x p) (e::es) [] pos) (HE sp [] E t):=Gh F (hr.mono hk) hg D.m D.k D.b .nil hx ha hdb he hpl
theorem l9(l:List Str)(h:l.Nodup:=by decide +kernel):l.Nodup:=h
theorem cg{p pos:Pos}{e:Expr}{es:List Expr}{t:TA}(K:bO)(hm:X.mg "len"=none)(ha:PA X (e::es) t)(hK:X.K=K:=by rfl)(hg:Gl X "len":=by rfl)
 (he:starEach (e::es) X.env=(false,eval e X.env)::starEach es X.env:=by rfl) (hpl:(backTo pos (starEach es X.env)).any (·.1)=false:=by rfl):PE X (.Call (.Name "len" p) (e::es) [] pos) (NT (Lr K) t) :=
 bj (N4 K hK) hg hm PySem.boot_len ha (by decide) (by decide) he hpl
theorem aM{a b:Expr}{ta tb:TE}{pos:Pos}{r:R2}(hr:Ko X r)(ha:PE X a ta)(hb:PE X b tb)(hs:Aq b:=by exact fun _ _=>rfl):PE X (.Subscript a b pos) (K4 r ta tb):=La hr ha hb hs
theorem bH{x:Str}{pos:Pos}(i:Nat)(hN:X.N.Nodup)(hi:X.N[i]?=some x:=by exact rfl)(hx:Loc X.env.scope x:=by exact Or.inl rfl)(hf:X.fn x=true\/X.env.scope.names.lookup x=some .local:=by first | exact .inl rfl | exact .inr rfl | assumption):PG X (.Name x pos) (Dl i):=qB hN hi hx hf
theorem zg:∀ bs:List Bool,((List.range bs.length).any fun i=>(bs[i]?).getD false)=bs.any id:=fun bs=>by
 rw[Bool.eq_iff_iff,List.any_eq_true,List.any_eq_true]
 constructor
 ·rintro⟨i,hi,h⟩;have hi:=List.mem_range.mp hi;rw[List.getElem?_eq_getElem hi]at h;exact⟨_,List.getElem_mem hi,h⟩
 ·rintro⟨b,hb,h⟩;obtain⟨i,hi,e⟩:=List.getElem_of_mem hb;refine⟨i,List.mem_range.mpr hi,?_⟩;rw[List.getElem?_eq_getElem hi,e];exact h
theorem OO(K:bO)(hc:X.calm=true)(hK:X.K=K:=by rfl):eZ X (.builtin "any") (fun xs H Q=>∃(p:Addr) (bs:List Bool),xs=[.ref p]/\aO K H p (bs.map V.bl)/\Q (.bl (bs.any id)) H):=by
 subst hK;intro pq s σ H xs us Q I r h;obtain⟨p,bs,rfl,hq,q⟩:=h;obtain⟨u,rfl,rx⟩:=vals1 r;cases rx;obtain⟨its,rv,pl,hz⟩:=I.list hq;obtain rfl:=vh rv;have lt:p<s.heap.objs.size:=by obtain⟨_,e,_⟩:=pl.isList;exact Heap.lt_size e
 refine call_any_walk (wpAny_pyIter_list pl.isList ⟨_,[_,p],[_],_,_,_,fun i=>(bs[i]?).getD false,rfl,Walks.list (A:=X.A.in1) (I.ok.hd hc) _ p (Nat.ne_of_lt lt) _,
  ⟨⟨_,Heap.get?_push_size _ rfl,rfl,rfl⟩,pl.isList.push _⟩,fun i v s' Q' E' hP hQ=>?_,fun h' tk hk=>?_⟩)
 ·have hP:(bs.map Value.bool)[i]?=some v:=by simpa using hP
  rw[List.getElem?_map]at hP;obtain⟨b,e,rfl⟩:=Ac.mp hP;simp only[e,Option.getD_some]at hQ;exact wpAny_truthy_bool hQ
 ·have z:(bs.map Value.bool).toArray.size=bs.length:=by simp
  rw[z,zg];refine⟨.bl _,H,I.kept fun b o e=>hk b o (fun hm=>?_) (Heap.get?_push_of_some _ e),rfl,q⟩
  rw[List.mem_singleton.mp hm]at e;exact Nat.lt_irrefl _ (Heap.lt_size e)
end
end L2
set_option maxHeartbeats 4000000
namespace K35
open PySem L2 Ring
local macro_rules | `(tactic| trivial)=>`(tactic| exact⟨rfl,rfl,rfl,by decide +kernel,rfl,by decide +kernel,by decide +kernel⟩)
def top(i:Nat):Stmt:=PySem.Challenge.pw_ringbase_k35_papers_of_rings.main.body.getD i (.Pass ⟨0,0,0,0⟩)
section
variable {gp gv g6 j4 qM A4 FZ Ic Ie M9 G6 G7 LX LY LZ L6:TS}{iJ wA FP Qe:TT}{nB Na:TI}{nC Nb:TG}{D:Ends}{σ:St}{H:Hp}
abbrev pD:Stmt:=top 7
theorem zh:aE ["tie_set","tie"] ["tie_set","tie"] (aj pD):=by trivial
abbrev mh:Stmt:=top 8
theorem zj:aE ["tie_set"] ["tie_set"] (aj mh):=by trivial
abbrev m6:Stmt:=top 9
theorem xC:aE ["web"] ["web"] (aj m6):=by trivial
abbrev sj:Stmt:=top 10
theorem Ca:aE ["web","number"] ["web","number"] (aj sj):=by trivial
abbrev lB:Stmt:=top 11
theorem vt:aE ["web","tie_set"] ["web","tie_set"] (aj lB):=by trivial
theorem kg(h:let ck:=gp;(bg iJ ck aP) D σ H):(bg iJ gp aP) D σ H:=h
abbrev iy:Stmt:=top 12
theorem tw:aE ["web","tie_set"] ["web","tie_set"] (aj iy):=by trivial
theorem dH(h:let ck:=gp;(ay gv ck) D σ H):(ay gv gp) D σ H:=h
abbrev jh:Stmt:=top 13
theorem vv:aE ["web","tie_set"] ["web","tie_set"] (aj jh):=by trivial
abbrev iz:Stmt:=top 14
theorem e8:aE ["web","tie_set","ends","one","other","length"] ["web","tie_set"] (aj iz):=by trivial
theorem mO(h:let ck:=gp;let cT:=gv;let dz:=(ay g6 cT);let eX:=(ay (dY nB nC dz) ck);(ay j4 eX) D σ H):(ay j4 (ay (dY nB nC (ay g6 gv)) gp)) D σ H:=h
abbrev eI:Stmt:=top 15
theorem fT:aE ["leasts","one","other","low","high"] ["leasts","one","other"] (aj eI):=by trivial
theorem ji(h:let ck:=gp;let cT:=(ay gv ck);(ay g6 cT) D σ H):(ay g6 (ay gv gp)) D σ H:=h
abbrev oh:Stmt:=top 16
theorem fG:aE ["web","tie_set","leasts","one","other","length","found","start"] ["web","tie_set"] (aj oh):=by trivial
theorem Cb(h:let ck:=gp;let cT:=gv;let dz:=(bg iJ cT aP);let eX:=(ay (dY nB nC dz) ck);let gF:=(ay g6 eX);let mP:=j4;let qa:=(ay (dY Na Nb mP) gF);(ay qM qa) D σ H):(ay qM (ay (dY Na Nb j4) (ay g6 (ay (dY nB nC (bg iJ gv aP)) gp)))) D σ H:=h
abbrev zk:Stmt:=top 17
theorem G8:aE ["web"] ["web"] (aj zk):=by trivial
abbrev pF:Stmt:=top 19
theorem zm:aE ["web","tie_set"] ["web","tie_set"] (aj pF):=by trivial
abbrev fg:Stmt:=top 20
theorem aZ:aE ["web","leasts","trails","tie","one","other","bridge","moved"] ["web"] (aj fg):=by trivial
theorem pG(h:let ck:=gp;let cT:=gv;let dz:=(ay g6 cT);let eX:=(ay j4 dz);let gF:=(ay qM eX);let mP:=(bg iJ gF aP);let qa:=(ay A4 mP);let uN:=(ay FZ qa);let A5:=(ay (dY nB nC uN) ck);let ER:=(ay Ic A5);(ay Ie ER) D σ H):(ay Ie (ay Ic (ay (dY nB nC (ay FZ (ay A4 (bg iJ (ay qM (ay j4 (ay g6 gv))) aP)))) gp))) D σ H:=h
abbrev sq:Stmt:=top 21
theorem mj:aE ["web","found","trail"] ["web"] (aj sq):=by trivial
theorem Cc(h:let ck:=gp;let cT:=gv;let dz:=(ay (dY nB nC cT) ck);(ay g6 dz) D σ H):(ay g6 (ay (dY nB nC gv) gp)) D σ H:=h
abbrev sr:Stmt:=top 22
theorem Cd:aE ["web"] ["web"] (aj sr):=by trivial
abbrev jy:Stmt:=top 23
theorem lC:aE ["web","trails","chord","tie"] ["web","trails","chord"] (aj jy):=by trivial
abbrev kh:Stmt:=top 24
theorem tD:aE ["web","tie"] ["web","tie"] (aj kh):=by trivial
theorem gR(h:let ck:=gp;let cT:=gv;(ay (bg iJ cT aP) ck) D σ H):(ay (bg iJ gv aP) gp) D σ H:=h
abbrev mq:Stmt:=top 26
theorem su:aE ["web","tie_set","touched"] ["web","tie_set"] (aj mq):=by trivial
theorem zo(h:let ck:=gp;let cT:=(ay gv ck);let dz:=g6;(ay (bg iJ dz aP) cT) D σ H):(ay (bg iJ g6 aP) (ay gv gp)) D σ H:=h
abbrev gG:Stmt:=top 27
theorem om:aE ["web","number"] ["web","number"] (aj gG):=by trivial
abbrev ki:Stmt:=top 28
theorem tE:aE ["web","ring"] ["web","ring"] (aj ki):=by trivial
abbrev jj:Stmt:=top 29
theorem vy:aE ["web","rings"] ["web","rings"] (aj jj):=by trivial
def bX:Pos:=⟨91,29,91,70⟩
abbrev sy:Stmt:=top 31
theorem Ce:aE ["one","other"] ["one","other"] (aj sy):=by trivial
abbrev jz:Stmt:=top 32
theorem sA:aE ["tie_set","marks"] ["tie_set","marks"] (aj jz):=by trivial
abbrev pH:Stmt:=top 34
theorem eB:aE ["rows","tie_set","left","used","lead","row","places"] ["rows","tie_set"] (aj pH):=by trivial
theorem zp(h:let ck:=gp;let cT:=gv;let dz:=(ay g6 cT);let eX:=(bg iJ dz aP);let gF:=(ay (dY nB nC eX) ck);let mP:=(ay j4 gF);(ay qM mP) D σ H):(ay qM (ay j4 (ay (dY nB nC (bg iJ (ay g6 gv) aP)) gp))) D σ H:=h
abbrev m7:Stmt:=top 35
theorem lD:aE ["rows","added","found","old"] ["rows","added"] (aj m7):=by trivial
theorem xD(h:let ck:=gp;let cT:=gv;let dz:=g6;let eX:=(bg iJ cT dz);let gF:=(ay (dY nB nC eX) ck);(ay j4 gF) D σ H):(ay j4 (ay (dY nB nC (bg iJ gv g6)) gp)) D σ H:=h
abbrev pI:Stmt:=top 36
theorem gH:aE ["sets","rows","place","tie_set","rest"] ["sets"] (aj pI):=by trivial
theorem zq(h:let ck:=gp;let cT:=gv;let dz:=(bg iJ cT aP);let eX:=(ay g6 dz);let gF:=(ay (dY nB nC eX) ck);(ay j4 gF) D σ H):(ay j4 (ay (dY nB nC (ay g6 (bg iJ gv aP))) gp)) D σ H:=h
abbrev kj:Stmt:=top 39
theorem tF:aE ["web"] ["web"] (aj kj):=by trivial
abbrev jk:Stmt:=top 40
theorem fU:aE ["web","found","chord","ring"] ["web"] (aj jk):=by trivial
abbrev jl:Stmt:=top 41
theorem vz:aE ["web"] ["web"] (aj jl):=by trivial
abbrev fh:Stmt:=top 43
theorem jS:aE ["web","ring","length"] ["web","ring"] (aj fh):=by trivial
abbrev gS:Stmt:=top 44
theorem lE:aE ["web","ring","length"] ["web","ring"] (aj gS):=by trivial
abbrev ko:Stmt:=top 45
theorem xE:aE ["rings","rows","ring"] ["rings","rows","ring"] (aj ko):=by trivial
abbrev h7:Stmt:=top 46
theorem bV:aE ["rows","ring","tie","marks","lead","row","places"] ["rows","ring"] (aj h7):=by trivial
theorem pJ(h:let ck:=gp;let cT:=gv;let dz:=(bg iJ cT aP);let eX:=(ay (dY nB nC dz) ck);let gF:=(ay g6 eX);(ay j4 gF) D σ H):(ay j4 (ay g6 (ay (dY nB nC (bg iJ gv aP)) gp))) D σ H:=h
abbrev kq:Stmt:=top 47
theorem fb:aE ["web","ring","shorter","rows","others","more_rows"] ["web","ring"] (aj kq):=by trivial
theorem tG(h:let ck:=gp;let cT:=gv;let dz:=(ay (bg iJ cT aP) ck);let eX:=(ay g6 dz);let gF:=(ay j4 eX);let mP:=qM;let qa:=(ay (bg wA mP aP) gF);let uN:=(ay A4 qa);let A5:=(ay FZ uN);let ER:=(ay Ic A5);(ay Ie ER) D σ H):(ay Ie (ay Ic (ay FZ (ay A4 (ay (bg wA qM aP) (ay j4 (ay g6 (ay (bg iJ gv aP) gp)))))))) D σ H:=h
abbrev lF:Stmt:=top 48
theorem fV:aE ["ring","rings","total","place","other"] ["ring","rings"] (aj lF):=by trivial
theorem vA(h:let ck:=gp;let cT:=gv;let dz:=g6;let eX:=(ay (bg iJ dz aP) cT);let gF:=(ay (dY nB nC eX) ck);(ay j4 gF) D σ H):(ay j4 (ay (dY nB nC (ay (bg iJ g6 aP) gv)) gp)) D σ H:=h
abbrev cW:Stmt:=top 49
theorem g5:aE ["web","ring","rings","length"] ["web","ring","rings"] (aj cW):=by trivial
abbrev dQ:Stmt:=top 50
theorem iX:aE ["web","ring","rings","length"] ["web","ring","rings"] (aj dQ):=by trivial
theorem iY(h:let ck:=gp;let cT:=gv;let dz:=(ay (bg iJ cT aP) ck);(ay g6 dz) D σ H):(ay g6 (ay (bg iJ gv aP) gp)) D σ H:=h
abbrev iA:Stmt:=top 51
theorem tH:aE ["web","marks","ring","rings"] ["web","marks","ring","rings"] (aj iA):=by trivial
abbrev iZ:Stmt:=top 52
theorem qi:aE ["web","ring","paper"] ["web","ring","paper"] (aj iZ):=by trivial
theorem qj(h:let ck:=gp;let cT:=gv;let dz:=(ay (bg iJ cT aP) ck);let eX:=g6;let gF:=(ay (bg wA eX aP) dz);let mP:=j4;let qa:=(ay (bg FP mP aP) gF);let uN:=(ay qM qa);(ay A4 uN) D σ H):(ay A4 (ay qM (ay (bg FP j4 aP) (ay (bg wA g6 aP) (ay (bg iJ gv aP) gp))))) D σ H:=h
abbrev jA:Stmt:=top 54
theorem sC:aE ["script","k"] ["script","k"] (aj jA):=by trivial
abbrev lG:Stmt:=top 55
theorem kr:aE ["cell","k","near","stir"] ["cell","k"] (aj lG):=by trivial
abbrev ku:Stmt:=top 56
theorem tI:aE ["cell","way"] ["cell","way"] (aj ku):=by trivial
theorem tJ(h:let ck:=gp;let cT:=gv;let dz:=(ay (bg iJ cT aP) ck);let eX:=g6;(ay (bg wA eX aP) dz) D σ H):(ay (bg wA g6 aP) (ay (bg iJ gv aP) gp)) D σ H:=h
abbrev pL:Stmt:=top 57
theorem kA:aE ["cell","points","way","one","other"] ["cell","points","way"] (aj pL):=by trivial
theorem zu(h:let ck:=gp;let cT:=(ay gv ck);let dz:=(ay g6 cT);(ay j4 dz) D σ H):(ay j4 (ay g6 (ay gv gp))) D σ H:=h
abbrev gI:Stmt:=top 58
theorem bA:aE ["script","most","ranked","head","points","way","cells","ties","marks","free","cell","tie","joined","old"] ["script","most","ranked"] (aj gI):=by trivial
theorem zw(h:let ck:=gp;let cT:=gv;let dz:=(ay g6 cT);let eX:=(ay j4 dz);let gF:=(ay qM eX);let mP:=(bg iJ gF aP);let qa:=(ay A4 mP);let uN:=(ay FZ qa);let A5:=(ay (dY nB nC uN) ck);let ER:=(ay Ic A5);let ES:=(ay Ie ER);let Cf:=(ay M9 ES);let ET:=G6;let EU:=(ay G7 ET);let EV:=(ay (bg wA EU aP) Cf);let EW:=(ay LX EV);let EX:=(ay LY EW);let L7:=(ay LZ EX);(ay L6 L7) D σ H):(ay L6 (ay LZ (ay LY (ay LX (ay (bg wA (ay G7 G6) aP) (ay M9 (ay Ie (ay Ic (ay (dY nB nC (ay FZ (ay A4 (bg iJ (ay qM (ay j4 (ay g6 gv))) aP)))) gp))))))))) D σ H:=h
abbrev lH:Stmt:=top 59
theorem vB:aE ["found"] ["found"] (aj lH):=by trivial
abbrev kB:Stmt:=top 60
theorem jB:aE ["web","some","counts","k"] ["web","some"] (aj kB):=by trivial
theorem mQ(h:let ck:=gp;let cT:=gv;let dz:=(ay g6 cT);let eX:=(bg iJ dz aP);let gF:=(ay (dY nB nC eX) ck);(ay j4 gF) D σ H):(ay j4 (ay (dY nB nC (bg iJ (ay g6 gv) aP)) gp)) D σ H:=h
abbrev fW:Stmt:=top 61
theorem fc:aE ["web","some","marks","k","old"] ["web","some"] (aj fW):=by trivial
abbrev kC:Stmt:=top 63
theorem xF:aE ["web","some"] ["web","some"] (aj kC):=by trivial
abbrev i0:Stmt:=top 64
theorem qb:aE ["web","some","counts"] ["web","some"] (aj i0):=by trivial
abbrev kD:Stmt:=top 65
theorem xG:aE ["web","some"] ["web","some"] (aj kD):=by trivial
abbrev pM:Stmt:=top 66
theorem i3:aE ["one","other","both","odd"] ["one","other"] (aj pM):=by trivial
theorem zx(h:let ck:=gp;let cT:=gv;let dz:=(ay g6 cT);let eX:=(ay (yw iJ dz) ck);let gF:=(ay j4 eX);(ay qM gF) D σ H):(ay qM (ay j4 (ay (yw iJ (ay g6 gv)) gp))) D σ H:=h
abbrev fj:Stmt:=top 67
theorem gJ:aE ["web","found","some"] ["web"] (aj fj):=by trivial
theorem pN(h:let ck:=gp;let cT:=gv;let dz:=(bg iJ cT aP);let eX:=(ay (dY nB nC dz) ck);(ay g6 eX) D σ H):(ay g6 (ay (dY nB nC (bg iJ gv aP)) gp)) D σ H:=h
abbrev fX:Stmt:=top 68
theorem bW:aE ["web","ring","told","far","total","last","one"] ["web","ring","told","far"] (aj fX):=by trivial
theorem m8(h:let ck:=gp;let cT:=gv;let dz:=(ay g6 cT);let eX:=j4;let gF:=(ay (bg iJ eX aP) dz);let mP:=qM;let qa:=(ay (bg wA mP aP) gF);let uN:=(ay (dY nB nC qa) ck);let A5:=(ay A4 uN);(ay FZ A5) D σ H):(ay FZ (ay A4 (ay (dY nB nC (ay (bg wA qM aP) (ay (bg iJ j4 aP) (ay g6 gv)))) gp))) D σ H:=h
abbrev dR:Stmt:=top 69
theorem m9:aE ["web","ring","marks","others"] ["web","ring","marks","others"] (aj dR):=by trivial
abbrev cP:Stmt:=top 70
theorem di:aE ["web","rings","ring","paper","far","shorter","others"] ["web","rings","ring","paper"] (aj cP):=by trivial
theorem nc(h:let ck:=gp;let cT:=(ay gv ck);let dz:=g6;let eX:=(ay (bg iJ dz aP) cT);let gF:=(ay j4 eX);let mP:=qM;let qa:=(ay (bg wA mP aP) gF);(ay A4 qa) D σ H):(ay A4 (ay (bg wA qM aP) (ay j4 (ay (bg iJ g6 aP) (ay gv gp))))) D σ H:=h
abbrev ng:Stmt:=top 71
theorem xH:aE ["paper"] ["paper"] (aj ng):=by trivial
theorem xJ(h:let ck:=gp;let cT:=gv;let dz:=(ay (bg iJ cT aP) ck);let eX:=g6;let gF:=(ay (bg wA eX aP) dz);let mP:=j4;(ay (bg FP mP aP) gF) D σ H):(ay (bg FP j4 aP) (ay (bg wA g6 aP) (ay (bg iJ gv aP) gp))) D σ H:=h
abbrev lI:Stmt:=top 72
theorem kE:aE ["web","rings","ring","turn","paper"] ["web","rings","ring"] (aj lI):=by trivial
theorem vC(h:let ck:=gp;let cT:=gv;let dz:=(bg iJ cT aP);let eX:=g6;let gF:=(ay (bg wA eX aP) dz);let mP:=j4;let qa:=(ay (bg FP mP aP) gF);let uN:=(ay qM qa);(ay (dY nB nC uN) ck) D σ H):(ay (dY nB nC (ay qM (ay (bg FP j4 aP) (ay (bg wA g6 aP) (bg iJ gv aP))))) gp) D σ H:=h
abbrev jC:Stmt:=top 73
theorem eE:aE ["web","some","way","caught","e","signs"] ["web","some","way"] (aj jC):=by trivial
theorem sD(h:let ck:=gp;let cT:=gv;let dz:=(ay (bg iJ cT aP) ck);let eX:=(ay g6 dz);let gF:=(ay j4 eX);(ay qM gF) D σ H):(ay qM (ay j4 (ay g6 (ay (bg iJ gv aP) gp)))) D σ H:=h
abbrev xK:Stmt:=top 74
theorem ia:aE ["script","web","rings","head","at","ring","far","some","due","heard"] ["script"] (aj xK):=by trivial
theorem JI(h:let ck:=gp;let cT:=gv;let dz:=(bg iJ cT aP);let eX:=(ay g6 dz);let gF:=qM;let mP:=j4;let qa:=(bg FP gF aP);let uN:=(ay (bg wA mP qa) eX);let A5:=(ay A4 uN);let ER:=(ay (dY nB nC A5) ck);let ES:=(ay FZ ER);let Cf:=Ic;let ET:=(bg Qe Cf aP);let EU:=(ay (dY Na Nb ET) ES);let EV:=(ay Ie EU);let EW:=(ay M9 EV);let EX:=(ay G6 EW);(ay G7 EX) D σ H):(ay G7 (ay G6 (ay M9 (ay Ie (ay (dY Na Nb (bg Qe Ic aP)) (ay FZ (ay (dY nB nC (ay A4 (ay (bg wA j4 (bg FP qM aP)) (ay g6 (bg iJ gv aP))))) gp))))))) D σ H:=h
end
set_option genInjectivity false
set_option genSizeOf false
structure OP where
 Cg:Addr
 Ci:FuncData
 Cj:Addr
 Ck:FuncData
 zy:Addr
 zz:FuncData
 EY:Addr
 EZ:FuncData
 xM:Addr
 xN:FuncData
 vD:Addr
 vE:FuncData
 xO:Addr
 xP:FuncData
 vF:Addr
 vG:FuncData
 pO:Addr
 pP:FuncData
 E2:Addr
 E3:FuncData
 JJ:Addr
 JK:FuncData
 Cm:Addr
 Cn:FuncData
 qk:Addr
 qm:FuncData
 E4:Addr
 E5:FuncData
 E6:Addr
 E7:FuncData
 tK:Addr
 tL:FuncData
 vH:Addr
 vI:FuncData
 Co:Addr
 Cp:FuncData
 pQ:Addr
 pR:FuncData
 vJ:Addr
 vK:FuncData
 xQ:Addr
 xR:FuncData
 E8:Addr
 E9:FuncData
 tM:Addr
 tN:FuncData
 Cq:Addr
 Cr:FuncData
 zA:Addr
 zB:FuncData
 Cs:Addr
 Ct:FuncData
 vL:Addr
 vM:FuncData
 xS:Addr
 xT:FuncData
 xU:Addr
 xV:FuncData
 qo:Addr
 qp:FuncData
 tO:Addr
 tP:FuncData
 zC:Addr
 zD:FuncData
 qt:Addr
 qu:FuncData
 vN:Addr
 vO:FuncData
 xW:Addr
 xX:FuncData
 mG:Addr
 mH:FuncData
 oq:Addr
 ou:FuncData
 vP:Addr
 vQ:FuncData
 sE:Addr
 sF:FuncData
 tQ:Addr
 tR:FuncData
 xY:Addr
 xZ:FuncData
 vR:Addr
 vS:FuncData
 Cu:Addr
 Cv:FuncData
 Cw:Addr
 Cy:FuncData
 x6:Addr
 x8:FuncData
 vU:Addr
 vV:FuncData
 vW:Addr
 vX:FuncData
 zE:Addr
 zF:FuncData
 zG:Addr
 zH:FuncData
 zI:Addr
 zJ:FuncData
 Cz:Addr
 CA:FuncData
 qv:Addr
 qw:FuncData
 oz:Addr
 oA:FuncData
 oB:Addr
 oE:FuncData
 oF:Addr
 oG:FuncData
 zK:Addr
 zL:FuncData
 x9:Addr
 ya:FuncData
 tS:Addr
 tT:FuncData
 L8:Addr
 Ma:FuncData
 lJ:Addr
 aR:Addr
 aV:Addr
 jT:Addr
 fH:Addr
 yb:Addr
 cA:Addr
structure Txt(P:Program)(w:World)(base:Heap)(K:bO)(mg:kX)(a:OP):Prop where
 iK:Dn K mg "has_tie" pD a.Cg a.Ci ["tie_set","tie"]
 fJ:Dn K mg "ties_in" mh a.Cj a.Ck ["tie_set"]
 i4:Dn K mg "all_ties" m6 a.zy a.zz ["web"]
 lK:Dn K mg "is_set" sj a.EY a.EZ ["web","number"]
 lM:Dn K mg "check_set" lB a.xM a.xN ["web","tie_set"]
 fY:Dn K mg "triples_in" iy a.vD a.vE ["web","tie_set"]
 b8:Dn K mg "length_of" jh a.xO a.xP ["web","tie_set"]
 kF:Dn K mg "odd_points" iz a.vF a.vG ["web","tie_set"]
 eJ:Dn K mg "drawn_together" eI a.pO a.pP ["leasts","one","other"]
 oH:Dn K mg "pieces" oh a.E2 a.E3 ["web","tie_set"]
 zM:Dn K mg "rank" zk a.JJ a.JK ["web"]
 pS:Dn K mg "is_even" pF a.Cm a.Cn ["web","tie_set"]
 fk:Dn K mg "forest_trails" fg a.qk a.qm ["web"]
 sG:Dn K mg "forest" sq a.E4 a.E5 ["web"]
 oJ:Dn K mg "chords" sr a.E6 a.E7 ["web"]
 jD:Dn K mg "ring_closed" jy a.tK a.tL ["web","trails","chord"]
 kG:Dn K mg "chord_ring" kh a.vH a.vI ["web","tie"]
 jU:Dn K mg "is_ring" mq a.Co a.Cp ["web","tie_set"]
 eK:Dn K mg "is_ring_number" gG a.pQ a.pR ["web","number"]
 iB:Dn K mg "check_ring" ki a.vJ a.vK ["web","ring"]
 jm:Ky K mg "by_length" jj a.xQ a.xR ["web","rings"] a.yb a.cA
 sH:Dn K mg "common" sy a.E8 a.E9 ["one","other"]
 gU:Dn K mg "bears_oddly" jz a.tM a.tN ["tie_set","marks"]
 gM:Dn K mg "reduced" pH a.Cq a.Cr ["rows","tie_set"]
 nh:Dn K mg "with_row" m7 a.zA a.zB ["rows","added"]
 mw:Dn K mg "rows_of" pI a.Cs a.Ct ["sets"]
 fZ:Dn K mg "check_rank" kj a.vL a.vM ["web"]
 lN:Dn K mg "even_sets" jk a.xS a.xT ["web"]
 jn:Dn K mg "all_rings" jl a.xU a.xV ["web"]
 fm:Dn K mg "shorter_rings" fh a.qo a.qp ["web","ring"]
 gV:Dn K mg "other_rings" gS a.tO a.tP ["web","ring"]
 kH:Dn K mg "parts_of" ko a.zC a.zD ["rings","rows","ring"]
 fu:Dn K mg "marks_against" h7 a.qt a.qu ["rows","ring"]
 iC:Dn K mg "ring_paper" kq a.vN a.vO ["web","ring"]
 jo:Dn K mg "is_sum_of" lF a.xW a.xX ["ring","rings"]
 eV:Dn K mg "all_rings_shorter" cW a.mG a.mH ["web","ring","rings"]
 gb:Dn K mg "all_rings_other" dQ a.oq a.ou ["web","ring","rings"]
 iD:Dn K mg "marks_part" iA a.vP a.vQ ["web","marks","ring","rings"]
 gf:Dn K mg "paper_judged" iZ a.sE a.sF ["web","ring","paper"]
 gW:Dn K mg "_law_cell_at" jA a.tQ a.tR ["script","k"]
 eF:Dn K mg "_law_mixed" lG a.xY a.xZ ["cell","k"]
 kI:Dn K mg "_law_length" ku a.vR a.vS ["cell","way"]
 pT:Dn K mg "_law_tie" pL a.Cu a.Cv ["cell","points","way"]
 pU:Dn K mg "_law_web" gI a.Cw a.Cy ["script","most","ranked"]
 jq:Dn K mg "_law_whole" lH a.x6 a.x8 ["found"]
 iE:Dn K mg "_law_counts" kB a.vU a.vV ["web","some"]
 kJ:Dn K mg "_law_pieces" fW a.vW a.vX ["web","some"]
 ni:Dn K mg "_law_even" kC a.zE a.zF ["web","some"]
 kK:Dn K mg "_law_ring" i0 a.zG a.zH ["web","some"]
 fC:Dn K mg "_law_long" kD a.zI a.zJ ["web","some"]
 my:Dn K mg "_law_odd" pM a.Cz a.CA ["one","other"]
 ic:Dn K mg "_law_all_rings" fj a.qv a.qw ["web"]
 dS:Dn K mg "_law_rings_right" fX a.oz a.oA ["web","ring","told","far"]
 dU:Dn K mg "_law_marks_right" dR a.oB a.oE ["web","ring","marks","others"]
 gi:Dn K mg "_law_paper_right" cP a.oF a.oG ["web","rings","ring","paper"]
 nj:Dn K mg "_law_form" ng a.zK a.zL ["paper"]
 lO:Dn K mg "_law_right" lI a.x9 a.ya ["web","rings","ring"]
 jE:Dn K mg "_law_refusal" jC a.tS a.tT ["web","some","way"]
 Ig:Dn K mg "law" xK a.L8 a.Ma ["script"]
 vY:mg "ValueError"=none
 Ih:mg "all"=none
 Mb:mg "any"=none
 JL:mg "bool"=none
 lP:mg "enumerate"=none
 yc:mg "int"=none
 bY:mg "isinstance"=none
 c9:mg "len"=none
 vZ:mg "list"=none
 Fb:mg "max"=none
 Mc:mg "min"=none
 cX:mg "range"=none
 Me:mg "set"=none
 sI:mg "sorted"=none
 Mf:mg "str"=none
 Ii:mg "sum"=none
 A6:mg "tuple"=none
 Mg:mg "zip"=none
 yd:∃ t,mg "MOST_RANK"=some (.int 8 t)
 ye:mg "RingError"=some (.ref a.lJ)
 Fc:mg "BadSet"=some (.ref a.aR)
 CC:mg "NotRing"=some (.ref a.aV)
 Kz:mg "NoChord"=some (.ref a.jT)
 CD:mg "TooMany"=some (.ref a.fH)
 Fd:∀ h:Heap,K.In h->h.Ns mainGlobals mg->PyProof.Rows.OwnCls "BadSet" a.aR [.type "ValueError",.type "Exception",.type "BaseException",.type "object"] "ValueError.__new__" mg h
 oM:rh K a.aR
 Fe:PySem.W.exmOne K (.ref a.aR) (.ref a.lJ)=some true
 CF:PySem.W.kitOne K (.ref a.aR) (.type "ValueError")=some true
 q_BadSet_BadSet:PySem.W.kitOne K (.ref a.aR) (.ref a.aR)=some true
 q_BadSet_NotRing:PySem.W.kitOne K (.ref a.aR) (.ref a.aV)=some false
 q_BadSet_NoChord:PySem.W.kitOne K (.ref a.aR) (.ref a.jT)=some false
 q_BadSet_TooMany:PySem.W.kitOne K (.ref a.aR) (.ref a.fH)=some false
 CG:∀ h:Heap,K.In h->h.Ns mainGlobals mg->PyProof.Rows.OwnCls "NotRing" a.aV [.type "ValueError",.type "Exception",.type "BaseException",.type "object"] "ValueError.__new__" mg h
 mz:rh K a.aV
 CH:PySem.W.exmOne K (.ref a.aV) (.ref a.lJ)=some true
 zN:PySem.W.kitOne K (.ref a.aV) (.type "ValueError")=some true
 q_NotRing_BadSet:PySem.W.kitOne K (.ref a.aV) (.ref a.aR)=some false
 q_NotRing_NotRing:PySem.W.kitOne K (.ref a.aV) (.ref a.aV)=some true
 q_NotRing_NoChord:PySem.W.kitOne K (.ref a.aV) (.ref a.jT)=some false
 q_NotRing_TooMany:PySem.W.kitOne K (.ref a.aV) (.ref a.fH)=some false
 CI:∀ h:Heap,K.In h->h.Ns mainGlobals mg->PyProof.Rows.OwnCls "NoChord" a.jT [.type "ValueError",.type "Exception",.type "BaseException",.type "object"] "ValueError.__new__" mg h
 CJ:∀ h:Heap,K.In h->h.Ns mainGlobals mg->PyProof.Rows.OwnCls "TooMany" a.fH [.type "ValueError",.type "Exception",.type "BaseException",.type "object"] "ValueError.__new__" mg h
section
variable {P:Program}{w:World}{K:bO}{mg:kX}{base:Heap}{a:OP}{x:Str}{st:Stmt}{f c0 p0:Addr}{fd:FuncData}{ps:List Str}
abbrev Ok(_:Txt P w base K mg a)(_:Dn K mg x st f fd ps)(k:Nat)(sp:Sp):=k7 P w K mg base Ar k f fd ps sp
abbrev CK(_:Txt P w base K mg a)(_:Dn K mg x st f fd ps)(k:Nat)(sp:Sp):=k7 P w K mg base (yu P w) k f fd ps sp
abbrev SN(_:Txt P w base K mg a)(_:Ky K mg x st f fd ps c0 p0)(k:Nat)(sp:Sp):=k7 P w K mg base Ar k f fd ps sp
end
def zO:Sp:=fun vs H Q _=>∃(S:Int) (k:Nat),vs=[.int S,.int (k:Int)]/\Q (.bl (bit S k)) H
def zP:Sp:=fun vs H Q _=>∃ m:Nat,vs=[.int (m:Int)]/\Builtin.Int.intBits (m:Int)<=1000/\∀ D H',H D=none->au H H'->H' D=some (.lst (aB (bF (m:Int))))->Q (.ref D) H'
def yf:Sp:=fun vs H Q _=>∃ w p ts,vs=[.ref w]/\bq H w p ts/\HQ p ts/\Q (.int (2^ts.length-1)) H
def CL:Sp:=fun vs H Q _=>∃ w p ts S,vs=[.ref w,.int S]/\bq H w p ts/\HQ p ts/\Q (.bl (decide (0<=S/\S<2^ts.length))) H
def mR(ts:List dF)(S:Int)(bad:Prop)(R:Nat->Prop):Prop:=(∃ m:Nat,S=(m:Int)/\m<2^ts.length/\R m)\/((S<0\/2^ts.length<=S)/\bad)
def wc(C:Addr):Sp:=fun vs H Q E=>∃ w p ts S,vs=[.ref w,.int S]/\bq H w p ts/\HQ p ts/\mR ts S (E (.ref C) none H) fun _=>Q .fL H
def tU(C:Addr):Sp:=fun vs H Q E=>∃ w p ts S,vs=[.ref w,.int S]/\bq H w p ts/\HQ p ts/\mR ts S (E (.ref C) none H) fun m =>
 ∀ D ys H',H D=none->au H H'->H' D=some (.lst ys)->Paired (TupAt H') ys ((bF (m:Int)).map (cI ts))->Q (.ref D) H'
def tV(C:Addr):Sp:=fun vs H Q E=>∃ w p ts S,vs=[.ref w,.int S]/\bq H w p ts/\HQ p ts/\mR ts S (∀ H',au H H'->E (.ref C) none H') fun m =>
 ∀ D H',au H H'->H' D=some (.lst (aB (rj p ts (m:Int))))->Q (.ref D) H'
def zQ(C:Addr):Sp:=fun vs H Q E=>∃ w p ts S,vs=[.ref w,.int S]/\bq H w p ts/\HQ p ts/\mR ts S (∀ H',au H H'->E (.ref C) none H') fun m=>∀ H',au H H'->Q (.bl (decide (rj p ts (m:Int)=[]))) H'
section
variable {P:Program}{w:World}{K:bO}{mg:kX}{base:Heap}{a:OP}(T:Txt P w base K mg a)
theorem cL:Ok T T.iK 1 zO:=by
 refine T.iK.ok zh fun _ A _ s H vs Q E hr h=>?_
 ·obtain⟨S,k,rfl,q⟩:=h;refine⟨_,(aq (aF (bI bZ (aK uS (aK uR (pv 0) (pv 1)) ah) ah (aH _)))),?_⟩;refine(ak rfl (ak rfl (bG ⟨(by lia),bG ⟨rfl,?_⟩⟩)))
  rw[Int.toNat_natCast,Jm];exact q
theorem bx:Ok T T.fJ 2 zP:=by
 have cL:=cL T;refine T.fJ.ok zj fun _ A _ s H vs Q E hr h=>?_
 ·obtain⟨m,rfl,hm,k⟩:=h;refine⟨_,(aq (aF (bw (own:=["tie"]) (fq:=["tie_set"]) (js:=[0]) (aI (aj mh) ["tie_set"]) rfl (cB (by rfl) T.cX (aa (DC PySem.F.plainAttrs_int PyProof.Rows.slot_int_bit_length PyProof.Rows.type_int_bit_length Av (pv 0)) ae)) (fun _ _ _ _=>(bH 0 (l9 ["tie","tie_set"]))) (fun _ _ _ _=>(dO (cF (aC cL hr T.iK.c aL (aa (pv 1) (aa (pv 0) ae)))))) (fun _ _ _ _=>(pv 0))))),?_⟩
  refine(ak rfl ⟨rfl,ak rfl ⟨rfl,ak rfl ⟨(by lia),(by lia),fun D hD=>dh (lo:=0) (m:=Builtin.Int.intBits (m:Int)) (nV (bit (m:Int)) H D) (.start hD) (fun i acc H2 _ p=>p.len) (dl (Nat.ble_eq.mpr hm)) ?_ ?_⟩⟩⟩)
  ·intro i acc H2 hi p;rw[Int.zero_add];refine⟨rfl,ak rfl (ak rfl ⟨(m:Int),i,rfl,ak rfl (?_)⟩)⟩;cases hb:bit (m:Int) i with
   | true=>exact(ak rfl (p.yes hD (au.refl _) hb))
   | false=>exact p.no (au.refl _) hb
  ·intro acc H2 p;exact k D H2 hD p.1 (by rw[p.2.1,p.2.2];rfl)
theorem dj:Ok T T.i4 1 yf:=by
 refine T.i4.ok xC fun _ A _ s H vs Q E hr h=>?_
 ·obtain⟨wb,p,ts,rfl,hw,W,q⟩:=h;refine⟨_,(aq (aF (aK iO (aK jv ah (cg K T.c9 (aa (aM (cu K) (pv 0) ah) ae))) ah))),?_⟩;obtain⟨b,xs,h1,h2,h3⟩:=hw.ex;have hl:=h3.length;have wl:=W.len;refine(ak rfl (bU (aY.of h1) (ao (j:=1) rfl) (m5 rfl (.inr (aY.of h2)) (bG ⟨⟨by lia,by lia,by decide⟩,bG (?_)⟩))))
  rw[Int.toNat_natCast,hl,Int.one_mul];exact q
theorem gj:Ok T T.lK 2 CL:=by
 have dj:=dj T;refine T.lK.ok Ca fun _ A _ s H vs Q E hr h=>?_
 ·obtain⟨wb,p,ts,S,rfl,hw,W,q⟩:=h;refine⟨_,(aq (aF (fO (bI Al (pv 1) ah (aH _)) (g7 (bI qW (pv 1) (aC dj hr T.i4.c aL (aa (pv 0) ae)) (aH _)))))),?_⟩;refine(ak rfl (bG (ak rfl (gr (fun hlt=>?_) (fun hlt=>?_)))))
  ·have hlt:0<=S:=i6 hlt;refine(ak rfl (ak rfl ⟨wb,p,ts,rfl,hw,W,_,_,rfl,rfl,?_⟩));have e:decide (S<=2^ts.length-1)=decide (0<=S/\S<2^ts.length):=decide_eq_decide.mpr ⟨fun z=>⟨hlt,by lia⟩,fun z=>by lia⟩
   rw[<-e]at q;exact q
  ·have hlt : ¬ 0<=S:=fun z=>hlt (cU z)
   rw[ff (fun z=>hlt z.1)]at q
   exact q
theorem lQ:CK T T.lM 3 (wc a.aR):=by
 have gj:=gj T;refine T.lM.yH vt fun _ A _ s H vs Q E hr h=>?_
 ·obtain⟨wb,p,ts,S,rfl,hw,W,q⟩:=h;refine⟨_,(aq (br (fN (cF (aC gj hr T.lK.c aL (aa (pv 0) (aa (pv 1) ae))))) (aq (nS eg.MW rfl (by rfl) T.Fd PySem.F.excBase_ValueError (aa cJ ae))) aQ)),?_⟩
  refine kg ?_;intro ck;refine(ak rfl (ak rfl ⟨wb,p,ts,S,rfl,hw,W,?_⟩));have h2:((2:Int)^ts.length)=((2^ts.length:Nat):Int):=by simp
  rcases q with⟨m,rfl,hm,q⟩|⟨hS,q⟩
  ·rw[cU ⟨by lia,by lia⟩]
   exact(ak rfl (bh q))
  ·rw[ff (by lia)]
   exact(ak rfl (bQ ⟨dl rfl,q⟩))
theorem cy:CK T T.fY 4 (tU a.aR):=by
 have lQ:=lQ T;have bx:=bx T;refine T.fY.yH tw fun _ A _ s H vs Q E hr h=>?_
 ·obtain⟨wb,p,ts,S,rfl,hw,W,q⟩:=h;refine⟨_,(ai (dc (aC lQ hr T.lM.c eg.passes (aa (pv 0) (aa (pv 1) ae))))
   (aq (aF (bw (own:=["tie"]) (fq:=["web"]) (js:=[0]) (aI (aj iy) ["web","tie_set"]) rfl (mE K (aC bx hr T.fJ.c aL (aa (pv 1) ae))) (fun _ _ _ _=>(bH 0 (l9 ["tie","web"]))) (fun _ _ _ _=>cH) (fun _ _ _ _=>(aM (cu K) (aM (cu K) (pv 1) ah) (pv 0))))))),?_⟩
  refine dH ?_;intro ck;refine(ak rfl (ak rfl ⟨wb,p,ts,S,rfl,hw,W,?_⟩));rcases q with⟨m,rfl,hm,q⟩|⟨hS,q⟩
  ·refine .inl ⟨m,rfl,hm,?_⟩;have wl:=W.len;have hb:Builtin.Int.intBits (m:Int)<=ts.length:=bits_le hm;refine(ak rfl ⟨m,rfl,by lia,fun L H1 _ s1 hL=>⟨L,rfl,⟨_,aO.of hL⟩,fun D hD=>?_⟩⟩)
   obtain⟨b,xs,h1,h2,h3⟩:=(hw.same s1).ex;have wd:=h3.length;refine aU (xs:=aB (bF (m:Int))) (fun i acc H2=>au H1 H2/\H2 D=some (.lst acc)/\Paired (TupAt H2) acc (((bF (m:Int)).take i).map (cI ts))/\acc.length=i) ⟨au.new hD,af,.nil,rfl⟩ ?_ ?_ ?_ ?_
   ·rintro i acc H2 _ ⟨s2,hd,pr,hac⟩;exact⟨aO.of (s2 _ _ hL),hd,Nat.le_of_eq hac⟩
   ·rw[aD];refine dl (Nat.ble_eq.mpr (Nat.le_trans (List.length_filter_le _ _) ?_));rw[List.length_range]
    lia
   ·rintro i x acc H2 hx ⟨s2,hd,pr,hac⟩;obtain⟨k,hk,rfl⟩:=bM hx;have oV:k<ts.length:=qC hm (nv hk);have hkx:k<xs.length:=by lia
    obtain⟨t,ht,c,hc,hct⟩:=Paired.rf h3 (i:=k) (x:=xs[k]) (by simp[hkx])
    have LK:cI ts k=t:=by
     unfold cI;rw[List.getD_eq_getElem?_getD,ht];rfl
    refine⟨rfl,ak rfl (bU (aY.of (s2 _ _ h1)) (ao (j:=1) rfl) (ak rfl (bU (v:=xs[k]) (aY.of (s2 _ _ h2)) (ao (j:=k) (by simp[hkx])) (?_))))⟩
    rw[hc];refine⟨hd,s2.put hD,af,?_,by rw[List.length_append,List.length_singleton,hac]⟩
    rw[List.take_add_one,hk,List.map_append];refine Paired.snoc (Paired.imp' (fun _ _ z=>z.tups (jJ.put hd)) pr) ?_
    rw[LK];exact⟨c,rfl,jJ.put hd _ _ (s2 _ _ hct)⟩
   ·rintro acc H2 ⟨s2,hd,pr,hac⟩;rw[aD,List.take_length]at pr;exact q D acc H2 (s1.free hD) (s1.trans s2) hd pr
  ·exact .inr ⟨hS,q⟩
theorem kL:CK T T.kF 5 (tV a.aR):=by
 have cy:=cy T;refine T.kF.yH e8 fun _ A _ s H vs Q E hr h=>?_
 ·obtain⟨wb,p,ts,S,rfl,hw,W,q⟩:=h;refine⟨_,(ai (aG (i:=2) e8.nd rfl (Or.inr rfl) (aK yF (ef (aa ah ae)) (aM (cu K) (pv 0) ah)))
   (ai (u5 rfl (mE K (aC cy hr T.fY.c eg.passes (aa (pv 0) (aa (pv 1) ae)))) (HJ K (n:=3) rfl (bB (bH 3 e8.nd) (bB (bH 4 e8.nd) (bB (bH 5 e8.nd) i8))))
   (ai (Ag (pv 2) (pv 3) (getL K) ah Ah set_list)
   (aq (Ag (pv 2) (pv 4) (getL K) ah Ah set_list))))
   (aq (aF (bw (own:=["point"]) (fq:=["ends"]) (js:=[2]) (aI (aj iz) ["web","tie_set","ends","one","other","length"]) rfl (cB (by rfl) T.cX (aa (aM (cu K) (pv 0) ah) ae)) (fun _ _ _ _=>(bH 0 (l9 ["point","ends"]))) (fun _ _ _ _=>(dO (aJ bZ (aK cR (aM (mW K) (pv 1) (pv 0)) ah) ah (aH _)))) (fun _ _ _ _=>(pv 0))))))),?_⟩
  refine mO ?_;intro ck cT dz eX;obtain⟨b,xs,h1,h2,h3⟩:=id hw.ex;have wp:=W.PK;refine⟨dl rfl,fun l0 IS=>?_⟩
  have s0:au H (upd H l0 (.lst [.int 0])):=au.new IS;refine(ak rfl (bU (aY.of (s0 _ _ h1)) (ao (j:=0) rfl) ⟨l0,(p:Int),ak rfl ⟨rfl,af,by lia,by lia,(by rw[Int.toNat_natCast];show 1*p<=sizeLine;exact dl (Nat.ble_eq.mpr (by lia))),fun e he=>?_⟩⟩))
  have s1:=s0.trans (au.new (o:=.lst (List.replicate (p:Int).toNat [V.int 0]).flatten) he);have Nc:upd (upd H l0 (.lst [.int 0])) e (.lst (List.replicate (p:Int).toNat [V.int 0]).flatten) e=some (.lst (k9 (List.replicate p 0))):=by
   rw[af,Int.toNat_natCast,DZ]
  generalize upd (upd H l0 (.lst [.int 0])) e (.lst (List.replicate (p:Int).toNat [V.int 0]).flatten)=H1 at s1 Nc;have Mh:H e=none:=s0.free he;refine(ak rfl (ak rfl ⟨wb,p,ts,S,rfl,hw.same s1,W,?_⟩));rcases q with⟨m,rfl,hm,q⟩|⟨hS,q⟩
  ·refine .inl ⟨m,rfl,hm,fun L ys H2 OQ s2 hL pr=>⟨L,rfl,⟨_,aO.of hL⟩,?_⟩⟩
   have s12:=s1.trans s2;have heL:e≠L:=bf Nc OQ;have Mi:ys.length<=24:=by
    rw[pr.length,List.length_map];have hb:Builtin.Int.intBits (m:Int)<=ts.length:=bits_le hm;have wl:=W.len;have:=List.length_filter_le (bit (m:Int)) (List.range (Builtin.Int.intBits (m:Int)));rw[List.length_range]at this;exact Nat.le_trans this (by lia)
   refine c7 (K:=K) (a:=L) (xs:=ys) (fun i σ H3=>∃ v1 v2 v3,σ=[some (.ref wb),some (.int (m:Int)),some (.ref e),v1,v2,v3]/\(∀ x o,H2 x=some o->x≠e->H3 x=some o)/\H3 e=some (.lst (k9 ((((bF (m:Int)).map (cI ts)).take i).foldl stepT (List.replicate p 0)))))
    ⟨none,none,none,rfl,fun _ _ z _=>z,s2 _ _ Nc⟩ (fun i σ H3 _ ⟨_,_,_,_,z,_⟩=>aO.of (z _ _ hL (Ne.symm heL))) ?_ ?_
   ·rintro i y D' σ H3 hi ⟨v1,v2,v3,rfl,z3,yg⟩;obtain⟨t,ht,c,rfl,hc⟩:=Paired.rf pr hi;have hce:c≠e:=dm hc (s2 _ _ Nc) (by intro z;cases z)
    have hc3:=z3 _ _ hc hce;have SO:t∈ts:=by
     obtain⟨k,hk,rfl⟩:=List.mem_map.mp (nv ht);unfold cI;have oV:=qC hm hk;rw[List.getD_eq_getElem?_getD];simp[oV]
    obtain⟨a0,a1,b0,b1⟩:=W.PJ.ends t SO;obtain⟨t1,t2,t3⟩:=t;dsimp only at a0 a1 b0 b1;obtain⟨j1,rfl⟩:=Int.eq_ofNat_of_zero_le a0;obtain⟨j2,rfl⟩:=Int.eq_ofNat_of_zero_le b0;generalize hE:(((bF (m:Int)).map (cI ts)).take i).foldl stepT (List.replicate p 0)=EE at yg;have Qf:EE.length=p:=by rw[<-hE,o7,List.length_replicate]
    have Qg:j1<EE.length:=by lia
    have Nd:j2<(bump EE (j1:Int)).length:=by rw[jK];lia
    refine⟨c,_,rfl,aY.of hc3,rfl,_,_,rfl,_,_,rfl,_,_,rfl,rfl,?_⟩;refine(ak rfl (ak rfl ⟨e,_,j1,_,rfl,rfl,aO.of yg,o8 Qg,_,_,rfl,rfl,e,_,_,j1,rfl,rfl,yg,qD (by rw[k9,List.length_map];exact Qg),?_⟩))
    rw[rq];refine(ak rfl (ak rfl ⟨e,_,j2,_,rfl,rfl,aO.of af,o8 Nd,_,_,rfl,rfl,e,_,_,j2,rfl,rfl,af,qD (by rw[k9,List.length_map];exact Nd),?_⟩))
    rw[rq];refine⟨_,_,_,rfl,fun x o z hx=>by rw[av hx,av hx];exact z3 x o z hx,?_⟩
    rw[af,List.take_add_one,ht,List.foldl_append,hE];rfl
   ·rintro σ H3 ⟨v1,v2,v3,rfl,z3,yg⟩;have VC:wb≠e:=bf h1 Mh;have i5:au H H3:=fun x o z=>z3 x o (s12 x o z) (bf z Mh)
    have hE:H3 e=some (.lst (k9 (jw p ts (m:Int)))):=by
     rw[yg,List.take_of_length_le (by rw[<-pr.length];exact Nat.le_refl _),uo hm]
    have Qf:(jw p ts (m:Int)).length=p:=by rw[uo hm,o7,List.length_replicate]
    refine(ak rfl (bU (aY.of (i5 _ _ h1)) (ao (j:=0) rfl) (ak rfl ⟨(by lia),(by lia),fun D hD=>dh (lo:=0) (m:=p) (nV (fun i=>decide ((jw p ts (m:Int)).getD i 0%2=1)) H3 D) (.start hD) (fun i acc H4 _ p=>p.len) (dl (Nat.ble_eq.mpr (by lia))) ?_ ?_⟩)))
    ·intro i acc H4 hi pk;rw[Int.zero_add];refine⟨rfl,ak rfl (ak rfl (mF (aO.of (pk.1 _ _ hE)) (ao (j:=i) (o8 (by rw[Qf];exact hi))) (bG ⟨(mV rfl),rfl,ak rfl (?_)⟩)))⟩
     rw[GC];cases hb:decide ((jw p ts (m:Int)).getD i 0%2=1) with
     | true=>exact(ak rfl (pk.yes hD (au.refl _) hb))
     | false=>exact pk.no (au.refl _) hb
    ·intro acc H4 pk;exact q D H4 (i5.trans pk.1) (by rw[pk.2.1,pk.2.2];rfl)
  ·exact .inr ⟨hS,q _ s1⟩
theorem pV:CK T T.pS 6 (zQ a.aR):=by
 have kL:=kL T;refine T.pS.yH zm fun _ A _ s H vs Q E hr h=>?_
 ·obtain⟨wb,p,ts,S,rfl,hw,W,q⟩:=h;refine⟨_,(aq (aF (bI (DK K hr.units) (aC kL hr T.kF.c eg.passes (aa (pv 0) (aa (pv 1) ae))) (ef ae) (aH _)))),?_⟩;refine(ak rfl (ak rfl ⟨wb,p,ts,S,rfl,hw,W,?_⟩));rcases q with⟨m,rfl,hm,q⟩|⟨hS,q⟩
  ·refine .inl ⟨m,rfl,hm,fun D H1 s1 hD=>⟨dl rfl,fun l hl=>?_⟩⟩
   have s2:au H1 (upd H1 l (.lst [])):=au.new hl;refine⟨_,_,.lst (aO.of (s2 _ _ hD)) (rz _),.lst (aO.of af) .nil,p5 _,rfl,?_⟩;rw[Az];exact q _ (s1.trans s2)
  ·exact .inr ⟨hS,q⟩
def Ff:Sp:=fun vs H Q _=>∃(l:Addr) (L:Nat->Nat) (p u v:Nat),vs=[.ref l,.int (u:Int),.int (v:Int)]/\H l=some (.lst (cj L p))/\p<=10/\u<p/\v<p/\
 ∀ D H',H D=none->au H H'->H' D=some (.lst (cj (RM.join L u v) p))->Q (.ref D) H'
def CM(C:Addr):Sp:=fun vs H Q E=>∃ w p ts,∃ g:aA p ts,∃ S,vs=[.ref w,.int S]/\bq H w p ts/\mR ts S (∀ H',au H H'->E (.ref C) none H') fun m =>
 ∀ D ys H',H D=none->au H H'->H' D=some (.lst ys)->Paired (HS D H H') ys ((eH (bD p ts g m) p).map (pieceOf (bD p ts g m) p))->Q (.ref D) H'
def G9:Sp:=fun vs H Q _=>∃ w p ts,∃ g:aA p ts,vs=[.ref w]/\bq H w p ts/\∀ H',au H H'->Q (.int (g.N.az.length:Int)) H'
theorem cC:Ok T T.eJ 1 Ff:=by
 refine T.eJ.ok fT fun _ A _ s H vs Q E hr h=>?_
 ·obtain⟨l,L,p,u,v,rfl,hl,hp,hu,hv,q⟩:=h;refine⟨_,(ai (aG (i:=3) fT.nd rfl (Or.inr rfl) (bj (Bm rfl) (by rfl) T.Mc PyProof.Rows.boot_min (aa (aM (mW K) (pv 0) (pv 1)) (aa (aM (mW K) (pv 0) (pv 2)) ae))))
   (ai (aG (i:=4) fT.nd rfl (Or.inr rfl) (bj (oY rfl) (by rfl) T.Fb PyProof.Rows.boot_max (aa (aM (mW K) (pv 0) (pv 1)) (aa (aM (mW K) (pv 0) (pv 2)) ae))))
   (aq (aF (bw (own:=["least"]) (fq:=["low","high"]) (js:=[3,4]) (aI (aj eI) ["leasts","one","other","low","high"]) rfl (mE K (pv 0)) (fun _ _ _ _=>(bH 0 (l9 ["least","low","high"]))) (fun _ _ _ _=>cH) (fun _ _ _ _=>(wD (aJ bZ (pv 0) (pv 2) (aH _)) (pv 1) (pv 0)))))))),?_⟩
  refine ji ?_;intro ck cT;refine(ak rfl (ak rfl (mF (aO.of hl) (ao (j:=u) (bL hu)) (ak rfl (ak rfl (mF (aO.of hl) (ao (j:=v) (bL hv)) ⟨_,_,rfl,?_⟩))))));refine(ak rfl (ak rfl (mF (aO.of hl) (ao (j:=u) (bL hu)) (ak rfl (ak rfl (mF (aO.of hl) (ao (j:=v) (bL hv)) ⟨_,_,rfl,?_⟩))))));refine(ak rfl ⟨l,rfl,⟨_,aO.of hl⟩,fun D hD=>aU (xs:=cj L p) (rF (RM.join L u v) H D) (.start hD) (fun i acc H2 _ pd=>⟨aO.of (pd.1 _ _ hl),pd.len⟩) (by rw[bK];exact dl (Nat.ble_eq.mpr (by lia))) ?_ ?_⟩)
  ·intro i x acc H2 hx pd;obtain⟨hi,rfl⟩:=je hx;refine⟨rfl,ak rfl (ak rfl ⟨rfl,ak rfl (?_)⟩)⟩;rw[AF,jf]
   by_cases hm:L i=max (L u) (L v)
   ·rw[cU hm];refine bQ (ak rfl (pd.next hD (au.refl _) ?_));rw[GI];unfold RM.join;rw[if_pos hm]
   ·rw[ff hm];refine bh (ak rfl (pd.next hD (au.refl _) ?_));unfold RM.join;rw[if_neg hm]
  ·intro acc H2 pd;rw[bK]at pd;exact q D H2 hD pd.1 (by rw[pd.2.1,pd.2.2])
theorem jV:CK T T.oH 5 (CM a.aR):=by
 have cy:=cy T;have cC:=cC T;refine T.oH.yH fG fun _ A _ s H vs Q E hr h=>?_
 ·obtain⟨wb,p,ts,g,S,rfl,hw,q⟩:=h;refine⟨_,(ai (aG (i:=2) fG.nd rfl (Or.inr rfl) (dD (HP rfl) (by rfl) T.vZ PyProof.Rows.boot_list (aa (dD wO (by rfl) T.cX PyProof.Rows.boot_range (aa (aM (cu K) (pv 0) ah) ae)) ae)))
   (ai (u5 rfl (mE K (aC cy hr T.fY.c eg.passes (aa (pv 0) (aa (pv 1) ae)))) (HJ K (n:=3) rfl (bB (bH 3 fG.nd) (bB (bH 4 fG.nd) (bB (bH 5 fG.nd) i8))))
   (aq (aG (i:=2) fG.nd rfl (Or.inr rfl) (aC cC hr T.eJ.c aL (aa (pv 2) (aa (pv 3) (aa (pv 4) ae)))))))
   (ai (aG (i:=6) fG.nd rfl (Or.inl rfl) (ef ae))
   (ai (u5 rfl (cB (by rfl) T.cX (aa (aM (cu K) (pv 0) ah) ae)) (qB (i:=7) fG.nd rfl (Or.inr rfl))
   (aq (br (aJ bZ (aM (mW K) (pv 2) (pv 7)) (pv 7) (aH _)) (aq (dc (G5 K (nN PySem.F.plainAttrs_list PySem.F.slot_list_append PySem.F.type_list_append gx (pv 6) (aa (bw (own:=["point"]) (fq:=["leasts","start"]) (js:=[2,7]) (aI (aj oh) ["web","tie_set","leasts","one","other","length","found","start"]) rfl (cB (by rfl) T.cX (aa (aM (cu K) (pv 0) ah) ae)) (fun _ _ _ _=>(bH 0 (l9 ["point","leasts","start"]))) (fun _ _ _ _=>(dO (aJ bZ (aM (mW K) (pv 1) (pv 0)) (pv 2) (aH _)))) (fun _ _ _ _=>(pv 0))) ae))))) aQ)))
   (aq (aF (pv 6))))))),?_⟩
  refine Cb ?_;intro ck cT dz eX gF mP qa;obtain⟨b,xs,h1,h2,h3⟩:=id hw.ex;have W:=g.C5;have wp:=W.PK;have wl:=W.len;refine(ak rfl (bU (aY.of h1) (ao (j:=0) rfl) (ak rfl (fun r hr=>⟨r,p,rfl,af,by lia,fun l hl=>?_⟩))))
  have s1:au H (upd (upd H r (.Bb 0 (p:Int))) l (.lst (sW p))):=(au.new hr).trans (au.new hl);have hl1:upd (upd H r (.Bb 0 (p:Int))) l (.lst (sW p)) l=some (.lst (cj (fun x=>x) p)):=af
  generalize upd (upd H r (.Bb 0 (p:Int))) l (.lst (sW p))=H1 at s1 hl1;refine(ak rfl (ak rfl ⟨wb,p,ts,S,rfl,hw.same s1,W,?_⟩));rcases q with⟨m,rfl,hm,q⟩|⟨hS,q⟩
  ·refine .inl ⟨m,rfl,hm,fun T0 ys H2 PB s2 hT pr=>⟨T0,rfl,⟨_,aO.of hT⟩,?_⟩⟩
   have Mi:ys.length<=24:=by
    rw[pr.length,List.length_map];have hb:Builtin.Int.intBits (m:Int)<=ts.length:=bits_le hm;have:=List.length_filter_le (bit (m:Int)) (List.range (Builtin.Int.intBits (m:Int)));rw[List.length_range]at this;exact Nat.le_trans this (by lia)
   refine c7 (K:=K) (a:=T0) (xs:=ys) (fun i σ H3=>∃ la v3 v4 v5,σ=[some (.ref wb),some (.int (m:Int)),some (.ref la),v3,v4,v5,none,none]/\au H2 H3/\H3 la=some (.lst (cj (p7 p ts g ((bF (m:Int)).take i)) p)))
    ⟨l,none,none,none,rfl,au.refl _,s2 _ _ hl1⟩ (fun i σ H3 _ ⟨_,_,_,_,_,z,_⟩=>aO.of (z _ _ hT)) ?_ ?_
   ·rintro i y D' σ H3 hi ⟨la,v3,v4,v5,rfl,s3,hla⟩;obtain⟨t,ht,c,rfl,hc⟩:=Paired.rf pr hi;have hc3:=s3 _ _ hc;rw[List.getElem?_map]at ht;obtain⟨k,hk,hkt⟩:=Ac.mp ht;have oV:=qC hm (nv hk);have ea:=AB (g:=g) oV;have eb:=AD (g:=g) oV;rw[hkt]at ea eb;have la':=g.N.al k oV;have lb':=g.N.bl k oV;refine⟨c,_,rfl,aY.of hc3,rfl,_,_,rfl,_,_,rfl,_,_,rfl,rfl,?_⟩;refine(ak rfl (ak rfl (ak rfl ⟨la,p7 p ts g ((bF (m:Int)).take i),p,g.N.a k,g.N.b k,?_,hla,wp,la',lb',fun D H4 KA s4 hD=>?_⟩)))
    ·rw[<-ea,<-eb];rfl
    ·refine⟨D,_,_,_,rfl,s3.trans s4,?_⟩;rw[hD,List.take_add_one,hk];show _=some (HO.lst (cj (p7 p ts g ((bF (m:Int)).take i++[k])) p));rw[yO]
   ·rintro σ H3 ⟨la,v3,v4,v5,rfl,s3,hla⟩;have hys:ys.length=(bF (m:Int)).length:=by rw[pr.length,List.length_map]
    rw[hys,List.take_length,yP hm]at hla;have i5:au H H3:=(s1.trans s2).trans s3;refine⟨dl rfl,fun D hD=>?_⟩
    have t0:rH (bD p ts g m) p H3 D 0 (upd H3 D (.lst [])):=rH.start hD;generalize upd H3 D (.lst [])=H4 at t0;refine(ak rfl (bU (aY.of (t0.1 _ _ (i5 _ _ h1))) (ao (j:=0) rfl) (ak rfl ⟨(by lia),(by lia),?_⟩)))
    refine gE (lo:=0) (n:=(p:Int).toNat) (fun i σ H5=>∃ v7,σ=[some (.ref wb),some (.int (m:Int)),some (.ref la),v3,v4,v5,some (.ref D),v7]/\rH (bD p ts g m) p H3 D i H5) ⟨none,rfl,t0⟩ ?_ ?_
    ·rintro i D' σ H5 hi ⟨v7,rfl,t5⟩;rw[Int.toNat_natCast]at hi;rw[Int.zero_add];have Mj:=t5.1 _ _ hla;refine(ak rfl (ak rfl (mF (aO.of Mj) (ao (j:=i) (bL hi)) (ak rfl ⟨rfl,ak rfl (?_)⟩))));rw[jf]
     by_cases hr:bD p ts g m i=i
     ·rw[cU hr];obtain⟨VD,Ij⟩:∃ ys,H5 D=some (.lst ys):=let⟨_,ys,z,_⟩:=t5;⟨ys,z⟩;refine bQ (ak rfl ⟨.inl ⟨rfl,_,aO.of Ij⟩,ak rfl (bU (aY.of (t5.1 _ _ (i5 _ _ h1))) (ao (j:=0) rfl) (ak rfl ⟨(by lia),(by lia),fun B hB=>dh (lo:=0) (m:=(p:Int).toNat) (nV (fun x=>decide (bD p ts g m x=i)) H5 B) (.start hB) (fun i acc H6 _ pk=>pk.len) (dl (Nat.ble_eq.mpr (by lia))) ?_ ?_⟩))⟩)
      ·intro x acc H6 hx pk;rw[Int.toNat_natCast]at hx;rw[Int.zero_add];refine⟨rfl,ak rfl (ak rfl (mF (aO.of (pk.1 _ _ Mj)) (ao (j:=x) (bL hx)) (ak rfl ⟨rfl,ak rfl (?_)⟩)))⟩;rw[jf];cases hb:decide (bD p ts g m x=i) with
       | true=>exact(ak rfl (pk.yes hB (au.refl _) hb))
       | false=>exact pk.no (au.refl _) hb
      ·intro acc H6 pk;have SQ:H6 B=some (.lst (aB (pieceOf (bD p ts g m) p i))):=by rw[pk.2.1,pk.2.2,Int.toNat_natCast];rfl
       obtain⟨SR,SS,hl1,t7⟩:=t5.push hD hr pk.1 hB SQ;exact⟨D,SR,_,rfl,rfl,SS,cK (by lia),ak rfl (t7)⟩
     ·rw[ff hr];exact bh (ak rfl (t5.skip hr))
    ·rintro σ H5 ⟨v7,rfl,t5⟩;rw[Int.toNat_natCast]at t5;obtain⟨s5,SV,Ij,SW,VE⟩:=t5;exact(ak rfl (q D SV H5 (i5.free hD) (i5.trans s5) Ij (Paired.imp' (fun _ _ ⟨e,he,hn,h0,z⟩=>⟨e,he,hn,i5.free h0,z⟩) SW)))
  ·exact .inr ⟨hS,q _ s1⟩
theorem zR:Ok T T.zM 6 G9:=by
 have jV:=jV T;have dj:=dj T;refine T.zM.ok G8 fun _ A _ s H vs Q E hr h=>?_
 ·obtain⟨wb,p,ts,g,rfl,hw,q⟩:=h;refine⟨_,(aq (aF (aK eU (aK iO (cg K T.c9 (aa (aM (cu K) (pv 0) ah) ae)) (aM (cu K) (pv 0) ah)) (cg K T.c9 (aa (aC jV hr T.oH.c gY (aa (pv 0) (aa (aC dj hr T.i4.c aL (aa (pv 0) ae)) ae))) ae))))),?_⟩;obtain⟨b,xs,h1,h2,h3⟩:=id hw.ex;have wd:=h3.length;have e2:((2:Int)^ts.length-1)=((2^ts.length-1:Nat):Int):=by
   have h:((2:Int)^ts.length)=((2^ts.length:Nat):Int):=by simp
   have:=Nat.two_pow_pos ts.length
   lia
  have hlt:2^ts.length-1<2^ts.length:=by have:=Nat.two_pow_pos ts.length;lia
  refine(ak rfl (bU (aY.of h1) (ao (j:=1) rfl) (m5 rfl (.inr (aY.of h2)) (ak rfl (bU (aY.of h1) (ao (j:=0) rfl) (bG (?_)))))));refine(ak rfl (ak rfl ⟨wb,p,ts,rfl,hw,g.C5,wb,p,ts,g,_,rfl,hw,.inl ⟨2^ts.length-1,e2,hlt,fun D ys H' KA s' hD pr=>(m5 rfl (.inl (aO.of hD)) (bG (?_)))⟩⟩))
  have hv:=GH (g:=g);have hy:ys.length=(eH (bD p ts g (2^ts.length-1)) p).length:=by rw[pr.length,List.length_map]
  show Q (.int ((xs.length:Int)-(p:Int)+(ys.length:Int))) H';rw[wd,hy,hv];exact q H' s'
def zS(C:Addr):Sp:=fun vs H Q E=>∃ w p ts,∃ g:aA p ts,∃ S,vs=[.ref w,.int S]/\bq H w p ts/\mR ts S (∀ H',au H H'->E (.ref C) none H') fun m=>∀ H',au H H'->Q (.bl (jN p ts g m)) H'
theorem eM:CK T T.jU 7 (zS a.aR):=by
 have pV:=pV T;have jV:=jV T;have bx:=bx T;refine T.jU.yH su fun _ A _ s H vs Q E hr h=>?_
 ·obtain⟨wb,p,ts,g,S,rfl,hw,q⟩:=h;refine⟨_,(ai (br (fN (cF (aC pV hr T.pS.c eg.passes (aa (pv 0) (aa (pv 1) ae))))) (aq (aF fM)) aQ)
   (ai (lW (i:=2) su.nd rfl rfl (own:=["piece"]) (fq:=[]) (js:=[]) (aI (aj mq) ["web","tie_set","touched"]) rfl (mE K (aC jV hr T.oH.c eg.passes (aa (pv 0) (aa (pv 1) ae)))) (fun _ _ _ _=>(bH 0 (l9 ["piece"]))) (fun _ _ _ _=>(dO (aJ pZ (cg K T.c9 (aa (pv 0) ae)) ah (aH _)))) (fun _ _ _ _=>(pv 0)))
   (aq (aF (fO (bI bZ (cg K T.c9 (aa (pv 2) ae)) ah (aH _)) (g7 (bI bZ (cg K T.c9 (aa (aM (mW K) (pv 2) ah) ae)) (cg K T.c9 (aa (aC bx hr T.fJ.c aL (aa (pv 1) ae)) ae)) (aH _)))))))),?_⟩
  refine zo ?_;intro ck cT dz;have W:=g.C5;have wp:=g.p2;have wl:=g.len;refine(ak rfl (ak rfl ⟨wb,p,ts,S,rfl,hw,W,?_⟩));rcases q with⟨m,rfl,hm,q⟩|⟨hS,q⟩
  ·refine .inl ⟨m,rfl,hm,fun H1 s1=>(ak rfl (?_))⟩
   by_cases ev:rj p ts (m:Int)=[]
   ·rw[cU ev];rw[yT ev]at q;refine bh (ak rfl (ak rfl ⟨wb,p,ts,g,_,rfl,hw.same s1,.inl ⟨m,rfl,hm,fun D ys H2 KA s2 hD pr=>⟨D,rfl,⟨_,aO.of hD⟩,fun C hC=>?_⟩⟩⟩))
    have Mi:ys.length<=10:=by
     rw[pr.length,List.length_map];unfold eH;have:=List.length_filter_le (fun x=>decide (bD p ts g m x=x)) (List.range p)
     rw[List.length_range]at this;exact Nat.le_trans this wp
    refine aU (xs:=ys) (rP (fun l=>decide (1<l.length)) ((eH (bD p ts g m) p).map (pieceOf (bD p ts g m) p)) H2 C) (.start hC) (fun i acc H3 _ sf=>⟨aO.of (sf.1 _ _ hD),sf.len⟩) (dP (by lia)) ?_ ?_
    ·intro i x acc H3 hx sf;obtain⟨l,hl,b,rfl,hbn,hb0,hb⟩:=Paired.rf pr hx;refine⟨rfl,ak rfl (m5 rfl (.inl (aO.of (sf.1 _ _ hb))) (bG (ak rfl (?_))))⟩;cases C6:decide (1<l.length) with
     | true =>
       have e:decide ((1:Int)<((aB l).length:Int))=true:=cU (by have:=i6 C6;rw[aD];lia)
       show if decide ((1:Int)<((aB l).length:Int))=true then _ else _
       rw[e];exact bQ (ak rfl (sf.yes hC hl C6 ⟨b,rfl,hb⟩))
     | false =>
       have e:decide ((1:Int)<((aB l).length:Int))=false:=ff (by have:=of_decide_eq_false C6;rw[aD];lia)
       show if decide ((1:Int)<((aB l).length:Int))=true then _ else _
       rw[e];exact bh (sf.no hl C6)
    ·intro acc H3 sf;have pa:Paired (Ju H2) acc ((dG (bD p ts g m) p).map (pieceOf (bD p ts g m) p)):=by
      have h:=sf.2.2;rw[pr.length,List.take_length,List.filter_map]at h;exact h
     have hal:=pa.length;rw[List.length_map]at hal;refine(ak rfl (m5 rfl (.inl (aO.of sf.2.1)) ⟨rfl,ak rfl (?_)⟩));have i5:=(s1.trans s2).trans sf.1;have SX:Builtin.Int.intBits (m:Int)<=ts.length:=bits_le hm;generalize dG (bD p ts g m) p=tl at q pa hal;cases tl with
     | nil =>
       have hal:acc.length=0:=hal;rw[hal];exact bh (q H3 i5)
     | cons s r =>
       cases r with
       | nil =>
         cases pa with
         | cons hy pn =>
           cases pn;obtain⟨b,rfl,hb⟩:=hy;refine bQ (ak rfl (mF (aO.of sf.2.1) (ao (j:=0) rfl) (m5 rfl (.inl (aO.of (sf.1 _ _ hb))) (ak rfl ⟨m,rfl,by lia,fun D4 H4 VF s4 uO=>(m5 rfl (.inl (aO.of uO)) ⟨rfl,?_⟩)⟩))))
           rw[aD,aD,jf];exact q H4 (i5.trans s4)
       | cons t r =>
         have hal:acc.length=r.length+2:=hal;have e:decide (V.int ((acc.length:Nat):Int)=V.int 1)=false:=ff fun z=>by
          have:=V.int.inj z
          lia
         rw[e];exact bh (q H3 i5)
   ·rw[ff ev];have er:jN p ts g m=false:=by
     unfold jN;rw[ff ev,Bool.false_and]
    rw[er]at q;exact bQ (q H1 s1)
  ·exact .inr ⟨hS,q⟩
def oN:Sp:=fun vs H Q _=>∃ w p ts,∃ g:aA p ts,∃ S:Int,vs=[.ref w,.int S]/\bq H w p ts/\∀ H' (d:Bool),au H H'->(d=true↔∃ m:Nat,S=(m:Int)/\m<2^ts.length/\g.N.Ring m)->Q (.bl d) H'
theorem cD:Ok T T.eK 8 oN:=by
 have gj:=gj T;have eM:=eM T;refine T.eK.ok om fun _ A _ s H vs Q E hr h=>?_
 ·obtain⟨wb,p,ts,g,S,rfl,hw,q⟩:=h;refine⟨_,(aq (aF (fO (aC gj hr T.lK.c aL (aa (pv 0) (aa (pv 1) ae))) (g7 (aC eM hr T.jU.c gY (aa (pv 0) (aa (pv 1) ae))))))),?_⟩;have VG:((2:Int)^ts.length)=((2^ts.length:Nat):Int):=by simp
  refine(ak rfl (ak rfl ⟨wb,p,ts,S,rfl,hw,g.C5,_,rfl,?_⟩))
  by_cases hs:0<=S/\S<2^ts.length
  ·rw[cU hs];obtain⟨m,rfl⟩:=Int.eq_ofNat_of_zero_le hs.1;have hm:m<2^ts.length:=by lia
   refine bQ (ak rfl (ak rfl ⟨wb,p,ts,g,_,rfl,hw,.inl ⟨m,rfl,hm,fun H1 s1=>q H1 _ s1 ?_⟩⟩))
   rw[jO g hm];exact⟨fun r=>⟨m,rfl,hm,r⟩,fun⟨m',e,_,r⟩=>by
    have:m=m':=by lia
    rw[this];exact r⟩
  ·rw[ff hs];refine bh (q H false (au.refl _) ⟨fun z=>(Bool.false_ne_true z).elim,fun⟨m',e,hm,_⟩=>absurd ⟨by lia,by lia⟩ hs⟩)
def CO:Sp:=fun vs H Q _=>∃ w p ts,∃ g:aA p ts,vs=[.ref w]/\bq H w p ts/\∀ D H',H D=none->au H H'->H' D=some (.lst (cj (g.N.trail ts.length) p))->Q (.ref D) H'
def CP:Sp:=fun vs H Q _=>∃ w p ts,∃ g:aA p ts,vs=[.ref w]/\bq H w p ts/\∀ H',au H H'->Q (.int ((jg p ts g:Nat):Int)) H'
def CQ:Sp:=fun vs H Q _=>∃ w p ts,∃ g:aA p ts,vs=[.ref w]/\bq H w p ts/\∀ D H',H D=none->au H H'->H' D=some (.lst (aB g.N.az))->Q (.ref D) H'
def sJ:Sp:=fun vs H Q _=>∃ w p ts,∃ g:aA p ts,∃(D:Addr) (c:Nat),vs=[.ref w,.ref D,.int (c:Int)]/\bq H w p ts/\H D=some (.lst (cj (g.N.trail ts.length) p))/\c<ts.length/\Q (.int ((g.N.ring c:Nat):Int)) H
theorem Fg{H:Hp}{xs:List V}{p:Nat}{ts:List dF}{g:aA p ts}{k:Nat}(h3:Paired (TupAt H) xs ts)(hk:k<ts.length):∃ c,xs[k]?=some (.ref c)/\H c=some (.tup [.int ((g.N.a k:Nat):Int),.int ((g.N.b k:Nat):Int),.int (cI ts k).2.2]):=by
 have hkx:k<xs.length:=by rw[h3.length];exact hk
 obtain⟨t,ht,c,hc,hct⟩:=Paired.rf h3 (i:=k) (x:=xs[k]) (by simp[hkx])
 have LK:t=cI ts k:=by
  have z:=o9 hk;rw[ht]at z;exact Option.some.inj z
 refine⟨c,by rw[<-hc];simp[hkx],?_⟩
 rw[hct,<-AB hk,<-AD hk,LK];rfl
theorem cM:Ok T T.fk 2 CO:=by
 have cC:=cC T;refine T.fk.ok aZ fun _ A _ s H vs Q E hr h=>?_
 ·obtain⟨wb,p,ts,g,rfl,hw,q⟩:=h;refine⟨_,(ai (aG (i:=1) aZ.nd rfl (Or.inl rfl) (dD (HP rfl) (by rfl) T.vZ PyProof.Rows.boot_list (aa (dD wO (by rfl) T.cX PyProof.Rows.boot_range (aa (aM (cu K) (pv 0) ah) ae)) ae)))
   (ai (aG (i:=2) aZ.nd rfl (Or.inl rfl) (aK yF (ef (aa ah ae)) (aM (cu K) (pv 0) ah)))
   (ai (eT PassesOwn.never rfl (cB (by rfl) T.cX (aa (cg K T.c9 (aa (aM (cu K) (pv 0) ah) ae)) ae)) (bH 3 aZ.nd)
   (ai (aG (i:=4) aZ.nd rfl (Or.inl rfl) (aM (cu K) (aM (cu K) (aM (cu K) (pv 0) ah) (pv 3)) ah))
   (ai (aG (i:=5) aZ.nd rfl (Or.inl rfl) (aM (cu K) (aM (cu K) (aM (cu K) (pv 0) ah) (pv 3)) ah))
   (aq (br (aJ qV (aM (mW K) (pv 1) (pv 4)) (aM (mW K) (pv 1) (pv 5)) (aH _)) (ai (aG (i:=6) aZ.nd rfl (Or.inr rfl) (aK iP (aK iP (aM (mW K) (pv 2) (pv 4)) (aM (mW K) (pv 2) (pv 5))) (aK jv ah (pv 3))))
   (ai (aG (i:=7) aZ.nd rfl (Or.inr rfl) (bj (oY rfl) (by rfl) T.Fb PyProof.Rows.boot_max (aa (aM (mW K) (pv 1) (pv 4)) (aa (aM (mW K) (pv 1) (pv 5)) ae))))
   (ai (lW (i:=2) aZ.nd rfl rfl (own:=["trail","least"]) (fq:=["bridge","moved"]) (js:=[6,7]) (aI (aj fg) ["web","leasts","trails","tie","one","other","bridge","moved"]) rfl (Jk K (by rfl) T.Mg (aa (pv 2) (aa (pv 1) ae))) (fun _ _ _ _=>(HJ K (n:=2) rfl (bB (bH 0 (l9 ["trail","least","bridge","moved"])) (bB (bH 1 (l9 ["trail","least","bridge","moved"])) i8)))) (fun _ _ _ _=>cH) (fun _ _ _ _=>(wD (aJ bZ (pv 1) (pv 3) (aH _)) (aK iP (pv 0) (pv 2)) (pv 0))))
   (aq (aG (i:=1) aZ.nd rfl (Or.inl rfl) (aC cC hr T.eJ.c aL (aa (pv 1) (aa (pv 4) (aa (pv 5) ae))))))))) aQ)))))
   (aq (aF (pv 2)))))),?_⟩
  refine pG ?_;intro ck cT dz eX gF mP qa uN A5 ER;obtain⟨bt,xs,h1,h2,h3⟩:=id hw.ex;have wp:=g.p2;have wl:=g.len;have wd:=h3.length;refine(ak rfl (bU (aY.of h1) (ao (j:=0) rfl) (ak rfl (fun r hr=>⟨r,p,rfl,af,by lia,fun l hl=>?_⟩))))
  have s1:au H (upd (upd H r (.Bb 0 (p:Int))) l (.lst (sW p))):=(au.new hr).trans (au.new hl);have hl1:upd (upd H r (.Bb 0 (p:Int))) l (.lst (sW p)) l=some (.lst (cj (g.N.dZ 0) p)):=af;generalize upd (upd H r (.Bb 0 (p:Int))) l (.lst (sW p))=H1 at s1 hl1;refine⟨dl rfl,fun l0 IS=>?_⟩
  have s0:au H1 (upd H1 l0 (.lst [.int 0])):=au.new IS;refine(ak rfl (bU (aY.of (s0 _ _ (s1 _ _ h1))) (ao (j:=0) rfl) ⟨l0,(p:Int),ak rfl ⟨rfl,af,by lia,by lia,(by rw[Int.toNat_natCast];show 1*p<=sizeLine;exact dl (Nat.ble_eq.mpr (by lia))),fun e he=>?_⟩⟩))
  have s2:=s0.trans (au.new (o:=.lst (List.replicate (p:Int).toNat [V.int 0]).flatten) he);have Jj:upd (upd H1 l0 (.lst [.int 0])) e (.lst (List.replicate (p:Int).toNat [V.int 0]).flatten) e=some (.lst (cj (g.N.trail 0) p)):=by
   rw[af,Int.toNat_natCast,w6];rfl
  generalize upd (upd H1 l0 (.lst [.int 0])) e (.lst (List.replicate (p:Int).toNat [V.int 0]).flatten)=H2 at s2 Jj;refine(ak rfl (bU (aY.of ((s1.trans s2) _ _ h1)) (ao (j:=1) rfl) (m5 rfl (.inr (aY.of ((s1.trans s2) _ _ h2))) (ak rfl ⟨(by lia),(by lia),?_⟩))))
  refine gE (lo:=0) (n:=(xs.length:Int).toNat) (fun k σ H3=>∃ la ta v3 v4 v5 v6 v7,σ=[some (.ref wb),some (.ref la),some (.ref ta),v3,v4,v5,v6,v7]/\au H H3/\H3 la=some (.lst (cj (g.N.dZ k) p))/\H3 ta=some (.lst (cj (g.N.trail k) p))/\H ta=none)
   ⟨l,e,none,none,none,none,none,rfl,s1.trans s2,s2 _ _ hl1,Jj,s1.free (s0.free he)⟩ ?_ ?_
  ·rintro k D' σ H3 hk ⟨la,ta,v3,v4,v5,v6,v7,rfl,s3,hla,Ik,LV⟩;rw[Int.toNat_natCast,wd]at hk;rw[Int.zero_add];obtain⟨c,hxc,hct⟩:=Fg (g:=g) h3 hk;have hA:=g.N.al k hk;have hB:=g.N.bl k hk;have hls:=RM.wW (N:=g.N) k;have Hf:g.N.kW k = !decide (g.N.dZ k (g.N.a k)=g.N.dZ k (g.N.b k)):=rfl;have htr:g.N.trail (k+1)=if g.N.kW k=true then fun v=>if g.N.dZ k v=max (g.N.dZ k (g.N.a k)) (g.N.dZ k (g.N.b k)) then g.N.trail k v^^^(g.N.trail k (g.N.a k)^^^g.N.trail k (g.N.b k)^^^2^k) else g.N.trail k v else g.N.trail k:=rfl
   generalize g.N.a k=A0 at *;generalize g.N.b k=B0 at *;refine(ak rfl (bU (aY.of (s3 _ _ h1)) (ao (j:=1) rfl) (ak rfl (bU (aY.of (s3 _ _ h2)) (ao (j:=k) hxc) (bU (aY.of (s3 _ _ hct)) (ao (j:=0) rfl) (?_))))));refine(ak rfl (bU (aY.of (s3 _ _ h1)) (ao (j:=1) rfl) (ak rfl (bU (aY.of (s3 _ _ h2)) (ao (j:=k) hxc) (bU (aY.of (s3 _ _ hct)) (ao (j:=1) rfl) (?_))))));refine(ak rfl (ak rfl (mF (aO.of hla) (ao (j:=A0) (bL hA)) (ak rfl (ak rfl (mF (aO.of hla) (ao (j:=B0) (bL hB)) ⟨rfl,ak rfl (?_)⟩))))));rw[jf]
   by_cases he:g.N.dZ k A0=g.N.dZ k B0
   ·rw[cU he]at Hf;rw[Hf,if_neg (by decide)]at hls htr
    rw[cU he];exact bh ⟨la,ta,_,_,_,_,_,rfl,s3,by rw[hls];exact hla,by rw[htr];exact Ik,LV⟩
   ·rw[ff he]at Hf;rw[Hf,if_pos (by rfl)]at hls htr
    rw[ff he];have SY:Builtin.bitXor (Builtin.bitXor ((g.N.trail k A0:Nat):Int) ((g.N.trail k B0:Nat):Int)) (1*2^(k:Int).toNat)=((g.N.trail k A0^^^g.N.trail k B0^^^2^k:Nat):Int):=by
     rw[ir,xor_int,xor_int]
    refine bQ (ak rfl (ak rfl (mF (aO.of Ik) (ao (j:=A0) (bL hA)) (ak rfl (ak rfl (mF (aO.of Ik) (ao (j:=B0) (bL hB)) (bG (ak rfl (bG ⟨⟨by lia,by lia,by decide⟩,bG (?_)⟩)))))))))
    refine(ak rfl (ak rfl (mF (aO.of hla) (ao (j:=A0) (bL hA)) (ak rfl (ak rfl (mF (aO.of hla) (ao (j:=B0) (bL hB)) ⟨_,_,rfl,?_⟩))))));refine(ak rfl (ak rfl ⟨ta,la,rfl,⟨_,aO.of Ik⟩,⟨_,aO.of hla⟩,fun D hD=>DU (xs:=cj (g.N.trail k) p) (ys:=cj (g.N.dZ k) p) (by rw[bK,bK]) (rF (g.N.trail (k+1)) H3 D) (.start hD) (fun i acc H4 _ pd=>⟨aO.of (pd.1 _ _ Ik),aO.of (pd.1 _ _ hla),pd.len⟩) (by rw[bK];exact dl (Nat.ble_eq.mpr (by lia))) ?_ ?_⟩))
    ·intro i x y T0 acc H4 hx hy pd hT;obtain⟨hi,rfl⟩:=je hx;obtain⟨_,rfl⟩:=je hy;refine⟨T0,_,rfl,aY.of af,rfl,_,_,rfl,_,_,rfl,rfl,rfl,ak rfl (ak rfl ⟨rfl,ak rfl (?_)⟩)⟩;rw[AF,jf]
     by_cases hm:g.N.dZ k i=max (g.N.dZ k A0) (g.N.dZ k B0)
     ·rw[cU hm];refine bQ (ak rfl (ak rfl (bG (pd.next hD (au.new hT) ?_))));show V.int (Builtin.bitXor _ (Builtin.bitXor (Builtin.bitXor _ _) _))=_;rw[SY,xor_int,htr];show _=V.int (((if _ then _ else _:Nat)):Int)
      rw[if_pos hm]
     ·rw[ff hm];refine bh (ak rfl (pd.next hD (au.new hT) ?_));rw[htr];show _=V.int (((if _ then _ else _:Nat)):Int)
      rw[if_neg hm]
    ·intro acc H4 pd;rw[bK]at pd;have uO:H4 D=some (.lst (cj (g.N.trail (k+1)) p)):=by rw[pd.2.1,pd.2.2]
     refine(ak rfl (ak rfl (ak rfl ⟨la,g.N.dZ k,p,A0,B0,rfl,pd.1 _ _ hla,wp,hA,hB,fun D2 H5 VH s5 jZ=>?_⟩)))
     exact⟨D2,D,_,_,_,_,_,rfl,(s3.trans pd.1).trans s5,by rw[hls];exact jZ,s5 _ _ uO,s3.free hD⟩
  ·rintro σ H3 ⟨la,ta,v3,v4,v5,v6,v7,rfl,s3,hla,Ik,LV⟩;rw[Int.toNat_natCast,wd]at Ik;exact(ak rfl (q ta H3 LV s3 Ik))
theorem sL:Ok T T.sG 3 CP:=by
 have cM:=cM T;refine T.sG.ok mj fun _ A _ s H vs Q E hr h=>?_
 ·obtain⟨wb,p,ts,g,rfl,hw,q⟩:=h;refine⟨_,(ai (aG (i:=1) mj.nd rfl (Or.inl rfl) ah)
   (ai (eT PassesOwn.never rfl (mE K (aC cM hr T.fk.c aL (aa (pv 0) ae))) (bH 2 mj.nd)
   (aq (qU (i:=1) mj.nd rfl (Or.inl rfl) (pv 2) Dy)))
   (aq (aF (pv 1))))),?_⟩
  refine Cc ?_;intro ck cT dz;refine(ak rfl ⟨wb,p,ts,g,rfl,hw,fun D H1 KA s1 hD=>⟨D,rfl,⟨_,aO.of hD⟩,?_⟩⟩)
  refine c7 (K:=K) (a:=D) (xs:=cj (g.N.trail ts.length) p) (fun i σ H2=>∃ v2,σ=[some (.ref wb),some (.int ((Kv (g.N.trail ts.length) i:Nat):Int)),v2]/\H2=H1) ⟨none,rfl,rfl⟩ (fun i σ H2 _ ⟨_,_,z⟩=>by rw[z];exact aO.of hD) ?_ ?_
  ·rintro i x D' σ H2 hx ⟨v2,rfl,rfl⟩;obtain⟨hi,rfl⟩:=je hx;refine(ak rfl (ak rfl (bG ⟨some (.int ((g.N.trail ts.length i:Nat):Int)),?_,rfl⟩)));show[_,some (V.int (Builtin.bitOr _ _)),_]=_;rw[or_int];rfl
  ·rintro σ H2 ⟨v2,rfl,rfl⟩;rw[bK,yQ];exact(ak rfl (q _ s1))
theorem jW:Ok T T.oJ 4 CQ:=by
 have sL:=sL T;have dj:=dj T;have bx:=bx T;refine T.oJ.ok Cd fun _ A _ s H vs Q E hr h=>?_
 ·obtain⟨wb,p,ts,g,rfl,hw,q⟩:=h;refine⟨_,(aq (aF (aC bx hr T.fJ.c aL (aa (aK iP (aC dj hr T.i4.c aL (aa (pv 0) ae)) (aC sL hr T.sG.c aL (aa (pv 0) ae))) ae)))),?_⟩;have wl:=g.len;refine(ak rfl ⟨wb,p,ts,rfl,hw,g.C5,_,rfl,wb,p,ts,g,rfl,hw,fun H1 s1=>(bG ⟨(2^ts.length-1)^^^jg p ts g,?_,?_,fun D H2 KA s2 hD=>?_⟩)⟩)
  ·show[V.int (Builtin.bitXor _ _)]=_;rw[GK,xor_int]
  ·exact Nat.le_trans (bits_le uA) (by lia)
  ·rw[w9]at hD;exact q D H2 (s1.free KA) (s1.trans s2) hD
theorem jF:Ok T T.jD 1 sJ:=by
 refine T.jD.ok lC fun _ A _ s H vs Q E hr h=>?_
 ·obtain⟨wb,p,ts,g,D,c,rfl,hw,hD,hc,q⟩:=h;refine⟨_,(ai (aG (i:=3) lC.nd rfl (Or.inl rfl) (aM (cu K) (aM (cu K) (pv 0) ah) (pv 2)))
   (aq (aF (aK iP (aK iP (aM (mW K) (pv 1) (aM (cu K) (pv 3) ah)) (aM (mW K) (pv 1) (aM (cu K) (pv 3) ah))) (aK jv ah (pv 2)))))),?_⟩
  refine dH ?_;intro ck;obtain⟨bt,xs,h1,h2,h3⟩:=id hw.ex;have wl:=g.len;obtain⟨b,hxc,hct⟩:=Fg (g:=g) h3 hc;have hA:=g.N.al c hc;have hB:=g.N.bl c hc;refine(ak rfl (bU (aY.of h1) (ao (j:=1) rfl) (ak rfl (bU (aY.of h2) (ao (j:=c) hxc) (?_)))));refine(ak rfl (ak rfl (bU (aY.of hct) (ao (j:=0) rfl) (mF (aO.of hD) (ao (j:=g.N.a c) (bL hA)) (ak rfl (ak rfl (bU (aY.of hct) (ao (j:=1) rfl) (mF (aO.of hD) (ao (j:=g.N.b c) (bL hB)) (bG (ak rfl (bG ⟨⟨by lia,by lia,by decide⟩,bG (?_)⟩)))))))))))
  show Q (V.int (Builtin.bitXor (Builtin.bitXor _ _) _)) H;rw[ir,xor_int,xor_int];exact q
def tW(C:Addr):Sp:=fun vs H Q E=>∃ w p ts,∃ g:aA p ts,∃ S,vs=[.ref w,.int S]/\bq H w p ts/\
 ((∃ c:Nat,S=(c:Int)/\c∈g.N.az/\∀ H',au H H'->Q (.int ((g.N.ring c:Nat):Int)) H')\/((∀ c∈g.N.az,S≠((c:Nat):Int))/\∀ H',au H H'->E (.ref C) none H'))
theorem kM:CK T T.kG 5 (tW a.jT):=by
 have jW:=jW T;have cM:=cM T;have jF:=jF T;refine T.kG.yH tD fun _ A _ s H vs Q E hr h=>?_
 ·obtain⟨wb,p,ts,g,S,rfl,hw,q⟩:=h;refine⟨_,(ai (br (aJ (u3 K) (pv 1) (aC jW hr T.oJ.c aL (aa (pv 0) ae)) (by with_unfolding_all rfl)) (aq (nS eg.MW rfl (by rfl) T.CI PySem.F.excBase_ValueError (aa cJ ae))) aQ)
   (aq (aF (aC jF hr T.jD.c aL (aa (pv 0) (aa (aC cM hr T.fk.c aL (aa (pv 0) ae)) (aa (pv 1) ae))))))),?_⟩
  refine gR ?_;intro ck cT;refine(ak rfl (ak rfl ⟨wb,p,ts,g,rfl,hw,fun D H1 KA s1 hD=>(m5 rfl (.inl (aO.of hD)) ⟨rfl,pe _,_,rfl,?_⟩)⟩))
  rcases q with⟨c,rfl,hc,q⟩|⟨hS,q⟩
  ·rw[n5,cU hc];refine bh (ak rfl (ak rfl ⟨wb,p,ts,g,rfl,hw.same s1,fun D2 H2 hn2 s2 jZ=>(ak rfl ⟨wb,p,ts,g,D2,c,rfl,hw.same (s1.trans s2),jZ,(RM.cS.mp hc).1,q _ (s1.trans s2)⟩)⟩))
  ·rw[Js hS];exact bQ ⟨dl rfl,q _ s1⟩
def CS:Sp:=fun vs H Q _=>∃ S1 S2,∃ a b:Nat,vs=[.int S1,.int S2]/\S1=(a:Int)/\S2=(b:Int)/\Builtin.Int.intBits ((a&&&b:Nat):Int)<=1000/\∀ H',au H H'->Q (.int (((bF ((a&&&b:Nat):Int)).length:Nat):Int)) H'
def Fi:Sp:=fun vs H Q _=>∃ S1 S2,∃ a b:Nat,vs=[.int S1,.int S2]/\S1=(a:Int)/\S2=(b:Int)/\Builtin.Int.intBits ((a&&&b:Nat):Int)<=1000/\∀ H',au H H'->Q (.bl (decide ((bF ((a&&&b:Nat):Int)).length%2=1))) H'
theorem Hg(n:Nat):decide (V.int (((n:Nat):Int)%2)=V.int 1)=decide (n%2=1):=decide_eq_decide.mpr ⟨fun z=>by have:=V.int.inj z;lia,fun z=>congrArg V.int (by lia)⟩
theorem sM:Ok T T.sH 3 CS:=by
 have bx:=bx T;refine T.sH.ok Ce fun _ A _ s H vs Q E hr h=>?_
 ·obtain⟨S1,S2,u,v,rfl,rfl,rfl,hb,q⟩:=h;refine⟨_,(aq (aF (cg K T.c9 (aa (aC bx hr T.fJ.c aL (aa (aK uS (pv 0) (pv 1)) ae)) ae)))),?_⟩;refine(ak rfl (ak rfl (bG ⟨u&&&v,?_,hb,fun D H1 hn s1 hD=>(m5 rfl (.inl (aO.of hD)) (?_))⟩)))
  ·show[V.int (Builtin.bitAnd _ _)]=_;rw[and_int]
  ·rw[aD];exact q H1 s1
theorem gX:Ok T T.gU 4 Fi:=by
 have sM:=sM T;refine T.gU.ok sA fun _ A _ s H vs Q E hr h=>?_
 ·obtain⟨S1,S2,u,v,rfl,rfl,rfl,hb,q⟩:=h;refine⟨_,(aq (aF (bI bZ (aK cR (aC sM hr T.sH.c aL (aa (pv 0) (aa (pv 1) ae))) ah) ah (aH _)))),?_⟩;refine(ak rfl (ak rfl ⟨_,_,u,v,rfl,rfl,rfl,hb,fun H1 s1=>(bG ⟨(mV rfl),rfl,?_⟩)⟩))
  rw[Hg];exact q H1 s1
def we(C:Addr):Sp:=fun vs H Q E=>∃ w p ts S,vs=[.ref w,.int S]/\bq H w p ts/\HQ p ts/\mR ts S (∀ H',au H H'->E (.ref C) none H') fun m=>∀ H',au H H'->Q (.int (lenOf ts m)) H'
theorem aS:CK T T.b8 5 (we a.aR):=by
 have cy:=cy T;refine T.b8.yH vv fun _ A _ s H vs Q E hr h=>?_
 ·obtain⟨wb,p,ts,S,rfl,hw,W,q⟩:=h;refine⟨_,(aq (aF (bj (sumK K rfl) (by rfl) T.Ii PyProof.Rows.boot_sum (aa (bw (own:=["tie"]) (fq:=[]) (js:=[]) (aI (aj jh) ["web","tie_set"]) rfl (mE K (aC cy hr T.fY.c eg.passes (aa (pv 0) (aa (pv 1) ae)))) (fun _ _ _ _=>(bH 0 (l9 ["tie"]))) (fun _ _ _ _=>cH) (fun _ _ _ _=>(aM (cu K) (pv 0) ah))) ae)))),?_⟩
  refine(ak rfl (ak rfl ⟨wb,p,ts,S,rfl,hw,W,?_⟩));rcases q with⟨m,rfl,hm,q⟩|⟨hS,q⟩
  ·refine .inl ⟨m,rfl,hm,fun L ys H1 OQ s1 hL pr=>⟨L,rfl,⟨_,aO.of hL⟩,fun D hD=>?_⟩⟩
   have wl:=W.len;have Mi:ys.length=(bF (m:Int)).length:=by rw[pr.length,List.length_map]
   have OR:ys.length<=24:=by
    rw[Mi];have hb:Builtin.Int.intBits (m:Int)<=ts.length:=bits_le hm;have:=List.length_filter_le (bit (m:Int)) (List.range (Builtin.Int.intBits (m:Int)));rw[List.length_range]at this;exact Nat.le_trans this (by lia)
   refine aU (xs:=ys) (sX (fun k=>(cI ts k).2.2) (bF (m:Int)) H1 D) (.start hD) (fun i acc H2 _ pm=>⟨aO.of (pm.1 _ _ hL),pm.len⟩) (dP OR) ?_ ?_
   ·intro i x acc H2 hx pm;obtain⟨t,ht,c,rfl,hc⟩:=Paired.rf pr hx;rw[List.getElem?_map]at ht;obtain⟨k,hk,rfl⟩:=Ac.mp ht;exact⟨rfl,ak rfl (bU (aY.of (pm.1 _ _ hc)) (ao (j:=2) rfl) (pm.next hD (au.refl _) hk rfl))⟩
   ·intro acc H2 pm;rw[Mi]at pm;exact⟨D,_,rfl,aO.of pm.fin,q H2 (s1.trans pm.1)⟩
  ·exact .inr ⟨hS,q _ (au.refl _)⟩
def oO(ts:List dF)(x y:Nat):Prop:=lenOf ts x<lenOf ts y\/(lenOf ts x=lenOf ts y/\x<=y)
def Fj(t:Addr)(lp:Pos):Sp:=fun vs H Q _=>∃ w p ts,∃ g:aA p ts,∃(l:Addr) (ms:List Nat),vs=[.ref w,.ref l]/\bq H w p ts/\H l=some (.lst (aB ms))/\ms.length<64/\(∀ m∈ms,m<2^ts.length)/\H t=some (.kQ (fS (tu "by_length") lp))/\
 ∀ D ms' H',H D=none->au H H'->H' D=some (.lst (aB ms'))->ms'.Perm ms->ms'.Pairwise (oO ts)->Q (.ref D) H'
theorem Fl:∀{l:List Int},(∀ x∈l,0<=x)->∃ ms:List Nat,l=ms.map (fun x=>((x:Nat):Int))
 | [],_=>⟨[],rfl⟩
 | x::r,h=>by
   obtain⟨ms,e⟩:=Fl (l:=r) fun y hy=>h y (lU _ hy)
   have hx:=h x List.mem_cons_self;refine⟨x.toNat::ms,?_⟩;rw[List.map_cons,<-e]
   congr 1
   lia
theorem lR:SN T T.jm 9 (Fj a.cA bX):=by
 have aS:=aS T;refine T.jm.ok vy fun A _ s H vs Q E hr h=>?_
 ·obtain⟨wb,p,ts,g,l,ms,rfl,hw,hl,h64,hms,htb,q⟩:=h;refine⟨_,(aq (aF (EI (x:="ring") (fq:=["web"]) (js:=[0]) hr (aI (aj jj) ["web","rings"]) rfl (by rfl) T.sI rfl T.jm.F.hd (aa (pv 1) ae) (fun _ _ _ _ hr=>(g8 (aa (aC aS hr T.b8.c gY (aa (pv 1) (aa (pv 0) ae))) (aa (pv 0) ae))))))),?_⟩
  have W:=g.C5;have wl:=g.len;have big:(2:Nat)^ts.length<=2^24:=Nat.pow_le_pow_right (by decide) wl
  have JM:∀ n,n∈ms.map (fun x=>((x:Nat):Int))->∃ m:Nat,n=(m:Int)/\m∈ms:=fun n hn=>by
   obtain⟨m,hm,rfl⟩:=List.mem_map.mp hn;exact⟨m,rfl,hm⟩
  refine(ak rfl ⟨l,ms.map (fun x=>((x:Nat):Int)),fun z=>(lenOf ts z.toNat,z),rfl,by rw[<-eA];exact hl,by rw[List.length_map];exact h64,fun n hn=>?_,htb,fun H3 hk n hn=>?_,fun D ns' H4 hD s4 uO hp hs=>?_⟩)
  ·obtain⟨m,rfl,hm⟩:=JM n hn;have:=hms m hm;exact⟨by show(0:Int)<=(m:Int);lia,by show(m:Int)<1073741824;lia⟩
  ·obtain⟨m,rfl,hm⟩:=JM n hn;have tp:jJ H H3:=fun b xs e=>hk b _ e (fun y z=>nomatch z) (fun y z=>nomatch z)
   refine(ak rfl (ak rfl ⟨wb,p,ts,_,rfl,hw.tups tp,W,.inl ⟨m,rfl,hms m hm,fun H4 s4=>(ak rfl ⟨dl rfl,fun d hd=>?_⟩)⟩⟩))
   exact⟨s4.trans (au.new hd),d,rfl,af⟩
  ·obtain⟨ms',rfl⟩:∃ ms' : List Nat,ns' = ms'.map (fun x=>((x:Nat):Int)):=by
    refine Fl fun x hx=>?_
    obtain⟨m,rfl,_⟩:=JM x (hp.mem_iff.mp hx)
    lia
   have OS:ms'.Perm ms:=by
    have:=hp.map Int.toNat;rw[List.map_map,List.map_map]at this;have e:∀ l:List Nat,l.map (Int.toNat∘fun x=>((x:Nat):Int))=l:=fun l=>by
     induction l with
     | nil=>rfl
     | cons x r ih=>rw[List.map_cons,ih];rfl
    rw[e,e]at this;exact this
   refine q D ms' H4 hD s4 (by rw[eA];exact uO) OS ?_
   rw[List.pairwise_map]at hs;refine List.Pairwise.imp_of_mem (fun {x y} hx hy h=>?_) hs
   have hx:=hms x (OS.mem_iff.mp hx);have hy:=hms y (OS.mem_iff.mp hy);have h:lenOf ts x*1073741824+(x:Int)<=lenOf ts y*1073741824+(y:Int):=h;unfold oO
   lia
structure oQ(p:Nat)(ts:List dF)(g:aA p ts)(l:List Nat):Prop where
 pw:l.Pairwise (oO ts)
 nd:l.Nodup
 all:∀ r,r∈l↔r<2^ts.length/\g.N.Ring r
theorem oQ.few{p:Nat}{ts:List dF}{g:aA p ts}{l:List Nat}(h:oQ p ts g l)(h9:ts.length<=9):l.length<64:=RM.sd (N:=g.N) h9 h.nd fun m hm=>(h.all m).mp hm
theorem zT{ts:List dF}{l l' : List Nat}(h9:ts.length<=24)(hp:l.Perm l')(lt:∀ r∈l,r<2^ts.length)(pw:l.Pairwise (oO ts))(S0:l'.Pairwise (oO ts)):l=l':=by
 have big:(2:Nat)^ts.length<=2^24:=Nat.pow_le_pow_right (by decide) h9
 have lt' : ∀ r∈l',r<2^ts.length:=fun r hr=>lt r (hp.mem_iff.mpr hr)
 have Qh:∀{rs:List Nat},(∀ r∈rs,r<2^ts.length)->rs.Pairwise (oO ts)->(rs.map fun r=>lenOf ts r*1073741824+(r:Int)).Pairwise (·<=·):=fun {rs} hlt zc=>by
  rw[List.pairwise_map];refine List.Pairwise.imp_of_mem (fun {x y} hx hy h=>?_) zc
  have hx:=hlt x hx;have hy:=hlt y hy;unfold oO at h
  lia
 have e:=PySem.W.lks_uniq (hp.map fun r=>lenOf ts r*1073741824+(r:Int)) (Qh lt pw) (Qh lt' S0)
 refine List.ext_getElem hp.length_eq fun i a b=>?_
 have e1:=congrArg (fun l=>l[i]?) e
 rw[List.getElem?_map,List.getElem?_map,List.getElem?_eq_getElem a,List.getElem?_eq_getElem b]at e1;have e1:lenOf ts l[i]*1073741824+(l[i]:Int)=lenOf ts l'[i]*1073741824+(l'[i]:Int):=Option.some.inj e1;have b1:=lt _ (List.getElem_mem a);have b2:=lt' _ (List.getElem_mem b)
 lia
theorem oQ.uniq{p:Nat}{ts:List dF}{g:aA p ts}{l l' : List Nat}(h:oQ p ts g l)(h' : oQ p ts g l'):l=l' :=
 zT g.len ((List.perm_ext_iff_of_nodup h.nd h'.nd).mpr fun r=>(h.all r).trans (h'.all r).symm) (fun r hr=>((h.all r).mp hr).1) h.pw h'.pw
def tX(C:Addr):Sp:=fun vs H Q E=>∃ w p ts,∃ g:aA p ts,vs=[.ref w]/\bq H w p ts/\((g.N.az.length<=8/\∀ H',au H H'->Q .fL H')\/(8<g.N.az.length/\∀ H',au H H'->E (.ref C) none H'))
def wg:Sp:=fun vs H Q _=>∃ w p ts,∃ g:aA p ts,vs=[.ref w]/\bq H w p ts/\g.N.az.length<=8/\∀ D H',H D=none->au H H'->H' D=some (.lst (aB (RM.se g.N g.N.az.length)))->Q (.ref D) H'
def wj(C t:Addr)(lp:Pos):Sp:=fun vs H Q E=>∃ w p ts,∃ g:aA p ts,vs=[.ref w]/\bq H w p ts/\H t=some (.kQ (fS (tu "by_length") lp))/\
 ((g.N.az.length<=8/\ts.length<=9/\∀ D l H',H D=none->au H H'->H' D=some (.lst (aB l))->oQ p ts g l->Q (.ref D) H')\/(8<g.N.az.length/\∀ H',au H H'->E (.ref C) none H'))
theorem cz:CK T T.fZ 7 (tX a.fH):=by
 have zR:=zR T;refine T.fZ.yH tF fun _ A _ s H vs Q E hr h=>?_
 ·obtain⟨wb,p,ts,g,rfl,hw,q⟩:=h;refine⟨_,(aq (br (aJ pZ (aC zR hr T.zM.c aL (aa (pv 0) ae)) (Gs (by rfl) T.yd) (aH _)) (aq (nS eg.MW rfl (by rfl) T.CJ PySem.F.excBase_ValueError (aa cJ ae))) aQ)),?_⟩
  refine kg ?_;intro ck;refine(ak rfl ⟨wb,p,ts,g,rfl,hw,fun H1 s1=>(bG (ak rfl (?_)))⟩)
  rcases q with⟨h8,q⟩|⟨h8,q⟩
  ·rw[ff (by lia)]
   exact bh (q H1 s1)
  ·rw[cU (by lia)]
   exact bQ ⟨dl rfl,q H1 s1⟩
theorem lS:Ok T T.lN 6 wg:=by
 have jW:=jW T;have kM:=kM T;refine T.lN.ok fU fun _ A _ s H vs Q E hr h=>?_
 ·obtain⟨wb,p,ts,g,rfl,hw,h8,q⟩:=h;refine⟨_,(ai (aG (i:=1) fU.nd rfl (Or.inl rfl) (ef (aa ah ae)))
   (ai (eT PassesOwn.never rfl (mE K (aC jW hr T.oJ.c aL (aa (pv 0) ae))) (bH 2 fU.nd)
   (ai (aG (i:=3) fU.nd rfl (Or.inr rfl) (aC kM hr T.kG.c gY (aa (pv 0) (aa (pv 2) ae))))
   (aq (aG (i:=1) fU.nd rfl (Or.inl rfl) (aK (LF K) (pv 1) (bw (own:=["even"]) (fq:=["ring"]) (js:=[3]) (aI (aj jk) ["web","found","chord","ring"]) rfl (mE K (pv 1)) (fun _ _ _ _=>(bH 0 (l9 ["even","ring"]))) (fun _ _ _ _=>cH) (fun _ _ _ _=>(aK iP (pv 0) (pv 1)))))))))
   (aq (aF (pv 1))))),?_⟩
  refine mO ?_;intro ck cT dz eX;have wl:=g.len;refine⟨dl rfl,fun F hF=>?_⟩
  have s1:au H (upd H F (.lst [.int 0])):=au.new hF;have Qi:upd H F (.lst [.int 0]) F=some (.lst (aB (RM.se g.N 0))):=by rw[RM.EK];exact af
  generalize upd H F (.lst [.int 0])=H1 at s1 Qi;refine(ak rfl ⟨wb,p,ts,g,rfl,hw.same s1,fun C H2 hC s2 zU=>?_⟩)
  refine⟨C,rfl,⟨_,aO.of zU⟩,c7 (K:=K) (a:=C) (xs:=aB g.N.az) (fun i σ H3=>∃ D v2 v3,σ=[some (.ref wb),some (.ref D),v2,v3]/\H D=none/\au H H3/\H3 C=some (.lst (aB g.N.az))/\H3 D=some (.lst (aB (RM.se g.N i)))) ⟨F,none,none,rfl,hF,s1.trans s2,zU,s2 _ _ Qi⟩ (fun i σ H3 _ ⟨_,_,_,_,_,_,z,_⟩=>aO.of z) ?_ ?_⟩
  ·rintro i y D' σ H3 hi ⟨D,v2,v3,rfl,hD,s3,Qj,uh⟩;obtain⟨c,mS,rfl⟩:=bM hi;have Od:=nv mS;have xj:=(ny.mp mS).1;have el:(RM.se g.N i).length=2^i:=by unfold RM.se;rw[List.length_map,List.length_range]
   have pw:(2:Nat)^i<=2^7:=Nat.pow_le_pow_right (by decide) (by lia)
   refine(ak rfl (ak rfl ⟨wb,p,ts,g,_,rfl,hw.same s3,.inl ⟨c,rfl,Od,fun H4 s4=>?_⟩⟩))
   have uO:=s4 _ _ uh;refine(ak rfl (ak rfl ⟨D,rfl,⟨_,aO.of uO⟩,fun X hX=>aU (K:=K) (a:=D) (xs:=aB (RM.se g.N i)) (fun k acc H5=>au H4 H5/\H5 X=some (.lst acc)/\acc=aB (((RM.se g.N i).take k).map fun e=>e^^^g.N.ring c)) ⟨au.new hX,af,rfl⟩ (fun k acc H5 _ z=>⟨aO.of (z.1 _ _ uO),z.2.1,by rw[z.2.2,aD,List.length_map,List.length_take];lia⟩) (Nat.le_of_lt (cK (by rw[aD];lia))) ?_ ?_⟩))
   ·rintro k x acc H5 hx ⟨s5,Nf,rfl⟩;obtain⟨e,S3,rfl⟩:=bM hx;refine⟨rfl,ak rfl (ak rfl (bG ⟨Nf,s5.put hX,af,?_⟩))⟩;rw[take3 S3,List.map_append,List.map_singleton,bR];show _++[V.int (Builtin.bitXor _ _)]=_;rw[xor_int]
   ·rintro acc H5 ⟨s5,Nf,rfl⟩;rw[aD,List.take_length]at Nf;have Qk:=s3.trans (s4.trans s5);refine⟨D,X,_,_,rfl,rfl,aO.of (s5 _ _ uO),aO.of Nf,?_,fun l hl=>?_⟩
    ·rw[aD,aD,List.length_map];exact Nat.le_of_lt (cK (by lia))
    ·refine⟨l,_,_,rfl,Qk.free hl,Qk.trans (au.new hl),?_,?_⟩
     ·exact au.new hl _ _ ((s4.trans s5) _ _ Qj)
     ·rw[af,RM.EL mS];unfold aB;rw[List.map_append]
  ·rintro σ H3 ⟨D,v2,v3,rfl,hD,s3,Qj,uh⟩;rw[aD]at uh;exact(ak rfl (q D H3 hD s3 uh))
theorem fK:CK T T.jn 10 (wj a.fH a.cA bX):=by
 have cz:=cz T;have lS:=lS T;have eM:=eM T;have lR:=lR T;refine T.jn.yH vz fun _ A _ s H vs Q E hr h=>?_
 ·obtain⟨wb,p,ts,g,rfl,hw,htb,q⟩:=h;refine⟨_,(ai (dc (aC cz hr T.fZ.c eg.passes (aa (pv 0) ae)))
   (aq (aF (aC lR hr T.jm.c aL (aa (pv 0) (aa (bw (own:=["even"]) (fq:=["web"]) (js:=[0]) (aI (aj jl) ["web"]) rfl (mE K (aC lS hr T.lN.c aL (aa (pv 0) ae))) (fun _ _ _ _=>(bH 0 (l9 ["even","web"]))) (fun _ _ _ _=>(dO (cF (aC eM hr T.jU.c gY (aa (pv 1) (aa (pv 0) ae)))))) (fun _ _ _ _=>(pv 0))) ae)))))),?_⟩
  refine dH ?_;intro ck;rcases q with⟨h8,h9,q⟩|⟨h8,q⟩
  ·refine(ak rfl ⟨wb,p,ts,g,rfl,hw,.inl ⟨h8,fun H1 s1=>?_⟩⟩)
   refine(ak rfl (ak rfl ⟨wb,p,ts,g,rfl,hw.same s1,h8,fun D H2 hD s2 jZ=>?_⟩))
   have el:(RM.se g.N g.N.az.length).length=2^g.N.az.length:=by unfold RM.se;rw[List.length_map,List.length_range]
   have pw:(2:Nat)^g.N.az.length<=2^8:=Nat.pow_le_pow_right (by decide) h8
   refine⟨D,rfl,⟨_,aO.of jZ⟩,fun X hX=>aU (K:=K) (a:=D) (xs:=aB (RM.se g.N g.N.az.length)) (fun i acc H3=>au H2 H3/\H3 X=some (.lst acc)/\acc=aB (((RM.se g.N g.N.az.length).take i).filter fun e=>jN p ts g e)) ⟨au.new hX,af,rfl⟩ (fun i acc H3 _ z=>⟨aO.of (z.1 _ _ jZ),z.2.1,?_⟩) (Nat.le_of_lt (cK (by rw[aD];lia))) ?_ ?_⟩
   ·rw[z.2.2,aD];exact Nat.le_trans (List.length_filter_le _ _) (by rw[List.length_take];lia)
   ·rintro i x acc H3 hx ⟨s3,iL,rfl⟩;obtain⟨e,hei,rfl⟩:=bM hx;have he:=RM.A2.mp (nv hei);refine⟨rfl,ak rfl (ak rfl ⟨wb,p,ts,g,_,rfl,hw.same ((s1.trans s2).trans s3),.inl ⟨e,rfl,he.2,fun H4 s4=>(ak rfl (?_))⟩⟩)⟩
    cases hb:jN p ts g e with
    | true =>
      refine bQ (ak rfl ⟨s4 _ _ iL,(s3.trans s4).put hX,af,?_⟩);rw[take3 hei,List.filter_append,List.filter_cons,if_pos hb];exact(bR _ _).symm
    | false =>
      refine bh ⟨s3.trans s4,s4 _ _ iL,?_⟩;rw[take3 hei,List.filter_append,List.filter_cons,if_neg (by rw[hb];decide),List.filter_nil,List.append_nil]
   ·rintro acc H3 ⟨s3,iL,rfl⟩;rw[aD,List.take_length]at iL;have i5:=(s1.trans s2).trans s3;have mem:∀ m,m∈((RM.se g.N g.N.az.length).filter fun e=>jN p ts g e)↔m<2^ts.length/\g.N.Ring m:=fun m=>by
     rw[List.mem_filter,RM.A2];exact⟨fun z=>⟨z.1.2,(jO g z.1.2).mp z.2⟩,fun z=>⟨⟨z.2.2.1,z.1⟩,(jO g z.1).mpr z.2⟩⟩
    have nd:((RM.se g.N g.N.az.length).filter fun e=>jN p ts g e).Nodup:=List.Pairwise.filter _ RM.B7
    refine⟨wb,p,ts,g,X,_,rfl,hw.same i5,iL,RM.sd (N:=g.N) h9 nd fun m hm=>(mem m).mp hm,fun m hm=>((mem m).mp hm).1,i5 _ _ htb,fun D2 l H4 OT s4 uO pm S4=>?_⟩
    exact q D2 l H4 (i5.free OT) (i5.trans s4) uO ⟨S4,pm.nodup_iff.mpr nd,fun r=>by rw[pm.mem_iff];exact mem r⟩
  ·exact(ak rfl ⟨wb,p,ts,g,rfl,hw,.inr ⟨h8,q⟩⟩)
def zV:Sp:=fun vs H Q _=>∃(l:Addr) (rows:List RM.Row3) (x:Nat),vs=[.ref l,.int (x:Int)]/\gQ H l rows/\∀ c H',au H H'->H' c=some (.tup [.int (((RM.bu rows x 0).1:Nat):Int),.int (((RM.bu rows x 0).2:Nat):Int)])->Q (.ref c) H'
def yh:Sp:=fun vs H Q _=>∃(l b:Addr) (rows:List RM.Row3) (a:RM.Row3),vs=[.ref l,.ref b]/\gQ H l rows/\H b=some (.tup (p8 a))/\rows.length<=200/\∀ l' H',au H H'->gQ H' l' (RM.sZ rows a)->Q (.ref l') H'
def zW:Sp:=fun vs H Q _=>∃(l:Addr) (B:List Nat),vs=[.ref l]/\H l=some (.lst (aB B))/\B.length<=200/\∀ l' rows H',au H H'->gQ H' l' rows->RM.Rw B rows->rows=RM.hU B B.length->Q (.ref l') H'
theorem cE:Ok T T.gM 2 zV:=by
 have cL:=cL T;refine T.gM.ok eB fun _ A _ s H vs Q E hr h=>?_
 ·obtain⟨l,rows,x,rfl,hR,q⟩:=h;refine⟨_,(ai (aG (i:=2) eB.nd rfl (Or.inl rfl) (pv 1))
   (ai (aG (i:=3) eB.nd rfl (Or.inl rfl) ah)
   (ai (eT PassesOwn.never rfl (mE K (pv 0)) (HJ K (n:=3) rfl (bB (bH 4 eB.nd) (bB (bH 5 eB.nd) (bB (bH 6 eB.nd) i8))))
   (aq (br (cF (aC cL hr T.iK.c aL (aa (pv 2) (aa (pv 4) ae)))) (ai (qU (i:=2) eB.nd rfl (Or.inl rfl) (pv 5) uT)
   (aq (qU (i:=3) eB.nd rfl (Or.inl rfl) (pv 6) uT))) aQ)))
   (aq (aF (g8 (aa (pv 2) (aa (pv 3) ae)))))))),?_⟩
  refine zp ?_;intro ck cT dz eX gF mP;obtain⟨xs,hl,pr⟩:=id hR;refine(ak rfl (ak rfl ⟨l,rfl,⟨_,aO.of hl⟩,c7 (K:=K) (a:=l) (xs:=xs) (fun i σ H2=>∃ v4 v5 v6,σ=[some (.ref l),some (.int (x:Int)),some (.int (((RM.bu (rows.take i) x 0).1:Nat):Int)),some (.int (((RM.bu (rows.take i) x 0).2:Nat):Int)),v4,v5,v6]/\H2=H) ⟨none,none,none,rfl,rfl⟩ (fun i σ H2 _ ⟨_,_,_,_,z⟩=>by rw[z];exact aO.of hl) ?_ ?_⟩))
  ·rintro i y D' σ H2 hi ⟨v4,v5,v6,rfl,rfl⟩;obtain⟨qq,hq,b,rfl,hb⟩:=Paired.rf pr hi;refine⟨b,_,rfl,aY.of hb,rfl,_,_,rfl,_,_,rfl,_,_,rfl,rfl,?_⟩;refine(ak rfl (ak rfl ⟨_,qq.1,rfl,ak rfl (?_)⟩));rw[ja];have e3:=BX (rows.take i) qq x 0;rw[<-take3 hq]at e3;cases oR:(RM.bu (rows.take i) x 0).1.testBit qq.1 with
   | true =>
     rw[oR,if_pos rfl]at e3;refine bQ (ak rfl (ak rfl (bG (ak rfl (ak rfl (bG ⟨some (.int (qq.1:Int)),some (.int (qq.2.1:Int)),some (.int (qq.2.2:Int)),?_,rfl⟩))))));rw[e3];show[_,_,some (V.int (Builtin.bitXor _ _)),some (V.int (Builtin.bitXor _ _)),_,_,_]=_;rw[xor_int,xor_int]
   | false =>
     rw[oR,if_neg (by decide)]at e3
     refine bh ⟨some (.int (qq.1:Int)),some (.int (qq.2.1:Int)),some (.int (qq.2.2:Int)),?_,rfl⟩;rw[e3];rfl
  ·rintro σ H2 ⟨v4,v5,v6,rfl,rfl⟩;rw[pr.length,List.take_length];exact(ak rfl (ak rfl ⟨dl rfl,fun c hc=>q c _ (au.new hc) af⟩))
theorem nk:Ok T T.nh 2 yh:=by
 have cL:=cL T;refine T.nh.ok lD fun _ A _ s H vs Q E hr h=>?_
 ·obtain⟨l,b,rows,ad,rfl,hR,hb,hlen,q⟩:=h;refine⟨_,(ai (aG (i:=2) lD.nd rfl (Or.inl rfl) (ef (aa (pv 1) ae)))
   (ai (eT PassesOwn.never rfl (mE K (pv 0)) (bH 3 lD.nd)
   (aq (br (cF (aC cL hr T.iK.c aL (aa (aM (cu K) (pv 3) ah) (aa (aM (cu K) (pv 1) ah) ae)))) (aq (dc (G5 K (nN PySem.F.plainAttrs_list PySem.F.slot_list_append PySem.F.type_list_append gx (pv 2) (aa (g8 (aa (aM (cu K) (pv 3) ah) (aa (aK iP (aM (cu K) (pv 3) ah) (aM (cu K) (pv 1) ah)) (aa (aK iP (aM (cu K) (pv 3) ah) (aM (cu K) (pv 1) ah)) ae)))) ae))))) (aq (dc (G5 K (nN PySem.F.plainAttrs_list PySem.F.slot_list_append PySem.F.type_list_append gx (pv 2) (aa (pv 3) ae))))))))
   (aq (aF (pv 2))))),?_⟩
  refine xD ?_;intro ck cT dz eX gF;obtain⟨xs,hl,pr⟩:=id hR;have S6:=pr.length;refine(ak rfl ⟨dl rfl,fun D hD=>?_⟩)
  have s1:au H (upd H D (.lst [.ref b])):=au.new hD;have p9:upd H D (.lst [.ref b]) D=some (.lst [.ref b]):=af;generalize upd H D (.lst [.ref b])=H1 at s1 p9;refine(ak rfl ⟨l,rfl,⟨_,aO.of (s1 _ _ hl)⟩,c7 (K:=K) (a:=l) (xs:=xs) (fun i σ H2=>∃ v3 acc,σ=[some (.ref l),some (.ref b),some (.ref D),v3]/\au H H2/\H2 D=some (.lst acc)/\acc.length=i+1/\Paired (rX H2) acc (RM.sZ (rows.take i) ad)) ⟨none,_,rfl,s1,p9,rfl,.cons ⟨b,rfl,s1 _ _ hb⟩ .nil⟩ (fun i σ H2 _ ⟨_,_,_,z,_⟩=>aO.of (z _ _ hl)) ?_ ?_⟩)
  ·rintro i y D' σ H2 hi ⟨v3,acc,rfl,s2,jZ,al,Mk⟩;obtain⟨qq,hq,c,rfl,hc⟩:=Paired.rf pr hi;have xj:=(ny.mp hi).1;have hc2:=s2 _ _ hc;have C6:=s2 _ _ hb;have put:RM.sZ (rows.take (i+1)) ad=RM.sZ (rows.take i) ad++[if qq.2.1.testBit ad.1=true then(qq.1,qq.2.1^^^ad.2.1,qq.2.2^^^ad.2.2) else qq]:=by
    unfold RM.sZ;rw[take3 hq,List.map_append];rfl
   refine(ak rfl (bU (aY.of hc2) (ao (j:=1) rfl) (ak rfl (bU (aY.of C6) (ao (j:=0) rfl) ⟨_,ad.1,rfl,ak rfl (?_)⟩))));rw[ja];cases oR:qq.2.1.testBit ad.1 with
   | true =>
     rw[oR,if_pos rfl]at put;refine bQ (ak rfl ⟨.inl ⟨rfl,_,aO.of jZ⟩,ak rfl (bU (aY.of hc2) (ao (j:=0) rfl) (ak rfl (bU (aY.of hc2) (ao (j:=1) rfl) (ak rfl (bU (aY.of C6) (ao (j:=1) rfl) (bG (ak rfl (bU (aY.of hc2) (ao (j:=2) rfl) (ak rfl (bU (aY.of C6) (ao (j:=2) rfl) (bG ⟨dl rfl,fun d hd=>?_⟩)))))))))))⟩)
     have s3:au H2 (upd H2 d (.tup (p8 (qq.1,qq.2.1^^^ad.2.1,qq.2.2^^^ad.2.2)))):=au.new hd;have HR:upd H2 d (.tup (p8 (qq.1,qq.2.1^^^ad.2.1,qq.2.2^^^ad.2.2))) d=some (.tup (p8 (qq.1,qq.2.1^^^ad.2.1,qq.2.2^^^ad.2.2))):=af;have ev:[V.int (qq.1:Int),V.int (Builtin.bitXor (qq.2.1:Int) (ad.2.1:Int)),V.int (Builtin.bitXor (qq.2.2:Int) (ad.2.2:Int))]=p8 (qq.1,qq.2.1^^^ad.2.1,qq.2.2^^^ad.2.2):=by
      rw[xor_int,xor_int];rfl
     dsimp only;rw[ev];generalize upd H2 d (.tup (p8 (qq.1,qq.2.1^^^ad.2.1,qq.2.2^^^ad.2.2)))=H3 at s3 HR;have uh:=s3 _ _ jZ;refine⟨D,_,_,rfl,rfl,uh,cK (by lia),_,acc++[.ref d],rfl,(s2.trans s3).put hD,af,by rw[List.length_append,al];rfl,?_⟩
     rw[put];exact Paired.snoc (Paired.imp' (fun _ _ z=>z.tups (s3.tups.trans (jJ.put uh))) Mk) ⟨d,rfl,jJ.put uh _ _ HR⟩
   | false =>
     rw[oR,if_neg (by decide)]at put
     refine bh (ak rfl ⟨.inl ⟨rfl,_,aO.of jZ⟩,ak rfl ⟨D,_,_,rfl,rfl,jZ,cK (by lia),_,acc++[.ref c],rfl,s2.put hD,af,by rw[List.length_append,al];rfl,?_⟩⟩)
     rw[put];exact Paired.snoc (Paired.imp' (fun _ _ z=>z.tups (jJ.put jZ)) Mk) ⟨c,rfl,jJ.put jZ _ _ hc2⟩
  ·rintro σ H2 ⟨v3,acc,rfl,s2,jZ,al,Mk⟩;rw[S6,List.take_length]at Mk;exact(ak rfl (q D H2 s2 ⟨acc,jZ,Mk⟩))
theorem mC:Ok T T.mw 3 zW:=by
 have cE:=cE T;have nk:=nk T;refine T.mw.ok gH fun _ A _ s H vs Q E hr h=>?_
 ·obtain⟨l,B,rfl,hl,hB,q⟩:=h;refine⟨_,(ai (aG (i:=1) gH.nd rfl (Or.inl rfl) (ef ae))
   (ai (eT PassesOwn.never rfl (u7 K (by rfl) T.lP (aa (pv 0) ae)) (HJ K (n:=2) rfl (bB (bH 2 gH.nd) (bB (bH 3 gH.nd) i8)))
   (ai (aG (i:=4) gH.nd rfl (Or.inl rfl) (aC cE hr T.gM.c aL (aa (pv 1) (aa (pv 3) ae))))
   (aq (br (aJ pZ (aM (cu K) (pv 4) ah) ah (aH _)) (aq (aG (i:=1) gH.nd rfl (Or.inl rfl) (aC nk hr T.nh.c aL (aa (pv 1) (aa (g8 (aa (aK iO (DC PySem.F.plainAttrs_int PyProof.Rows.slot_int_bit_length PyProof.Rows.type_int_bit_length Av (aM (cu K) (pv 4) ah)) ah) (aa (aM (cu K) (pv 4) ah) (aa (aK iP (aM (cu K) (pv 4) ah) (aK jv ah (pv 2))) ae)))) ae))))) aQ))))
   (aq (aF (pv 1))))),?_⟩
  refine zq ?_;intro ck cT dz eX gF;refine⟨dl rfl,fun D hD=>?_⟩
  have s1:au H (upd H D (.lst [])):=au.new hD;have p9:upd H D (.lst []) D=some (.lst []):=af;generalize upd H D (.lst [])=H1 at s1 p9;refine(ak rfl ⟨l,rfl,⟨_,aO.of (s1 _ _ hl)⟩,wN (K:=K) (a:=l) (xs:=aB B) (fun i σ H2=>∃ l2 rows v2 v3 v4,σ=[some (.ref l),some (.ref l2),v2,v3,v4]/\au H H2/\gQ H2 l2 rows/\RM.Rw (B.take i) rows/\rows=RM.hU B i) ⟨D,[],none,none,none,rfl,s1,⟨[],p9,.nil⟩,RM.Rw.start,rfl⟩ (fun i σ H2 _ ⟨_,_,_,_,_,_,z,_⟩=>aO.of (z _ _ hl)) ?_ ?_⟩)
  ·rintro i x T0 σ H2 hx ⟨l2,rows,v2,v3,v4,rfl,s2,JN,JO,Ml⟩ hT;obtain⟨b,hb,rfl⟩:=bM hx;have xj:=(ny.mp hb).1;have s3:au H2 (upd H2 T0 (.tup [.int (i:Int),.int (b:Int)])):=au.new hT;have Mm:upd H2 T0 (.tup [.int (i:Int),.int (b:Int)]) T0=some (.tup [.int (i:Int),.int (b:Int)]):=af;generalize upd H2 T0 (.tup [.int (i:Int),.int (b:Int)])=H3 at s3 Mm;refine⟨T0,_,rfl,aY.of Mm,rfl,_,_,rfl,_,_,rfl,rfl,?_⟩;refine(ak rfl (ak rfl ⟨l2,rows,b,rfl,JN.same s3,fun c H4 s4 hc=>?_⟩))
   have hlt:(B.take i).length=i:=by rw[List.length_take];lia
   refine(ak rfl (bU (aY.of hc) (ao (j:=0) rfl) (bG (ak rfl (gr (fun h0=>?_) (fun h0=>?_))))))
   ·have h0:(0:Int)<_:=i6 h0;have KC:(RM.bu rows b 0).1≠0:=by lia
    have Mn:=JO.put KC;rw[hlt,<-take3 hb]at Mn;have Nh:=(JN.same s3).same s4;have S7:rows.length<=200:=by have:=JO.le;lia
    refine(ak rfl (ak rfl (bU (aY.of hc) (ao (j:=0) rfl) ⟨rfl,ak rfl ⟨rfl,bG (ak rfl (bU (aY.of hc) (ao (j:=0) rfl) (ak rfl (bU (aY.of hc) (ao (j:=1) rfl) (ak rfl (bG ⟨⟨by lia,by lia,by decide⟩,bG ⟨dl rfl,fun d hd=>?_⟩⟩))))))⟩⟩)))
    have ev:[V.int (((Builtin.Int.intBits (((RM.bu rows b 0).1:Nat):Int):Nat):Int)-1),V.int (((RM.bu rows b 0).1:Nat):Int),V.int (Builtin.bitXor (((RM.bu rows b 0).2:Nat):Int) (1*2^((i:Nat):Int).toNat))]=p8 ((RM.bu rows b 0).1.log2,(RM.bu rows b 0).1,(RM.bu rows b 0).2^^^2^i):=by
     rw[Et KC,ir,xor_int];rfl
    dsimp only;rw[ev];refine⟨l2,d,rows,_,rfl,Nh.same (au.new hd),af,S7,fun l5 H5 s5 Ni=>?_⟩
    exact⟨l5,_,_,_,_,rfl,((s2.trans (s3.trans s4)).trans (au.new hd)).trans s5,Ni,Mn,RM.zd Ml hb KC⟩
   ·have KC:(RM.bu rows b 0).1=0:=by
     have : ¬(0:Int)<_:=fun z=>h0 (cU z)
     lia
    have Ql:=JO.skip ((JO.fF b 0).mp KC);rw[<-take3 hb]at Ql;exact⟨l2,rows,_,_,_,rfl,s2.trans (s3.trans s4),(JN.same s3).same s4,Ql,RM.xA Ml hb KC⟩
  ·rintro σ H2 ⟨l2,rows,v2,v3,v4,rfl,s2,JN,JO,Ml⟩;rw[aD]at Ml;rw[aD,List.take_length]at JO;exact(ak rfl (q l2 rows H2 s2 JN JO Ml))
def tY(C R:Addr):Sp:=fun vs H Q E=>∃ w p ts,∃ g:aA p ts,∃ S,vs=[.ref w,.int S]/\bq H w p ts/\mR ts S (∀ H',au H H'->E (.ref C) none H') fun m=>(g.N.Ring m->∀ H',au H H'->Q .fL H')/\(¬ g.N.Ring m->∀ H',au H H'->E (.ref R) none H')
theorem eN:CK T T.iB 8 (tY a.aR a.aV):=by
 have eM:=eM T;refine T.iB.yH tE fun _ A _ s H vs Q E hr h=>?_
 ·obtain⟨wb,p,ts,g,S,rfl,hw,q⟩:=h;refine⟨_,(aq (br (fN (cF (aC eM hr T.jU.c eg.passes (aa (pv 0) (aa (pv 1) ae))))) (aq (nS eg.MW rfl (by rfl) T.CG PySem.F.excBase_ValueError (aa cJ ae))) aQ)),?_⟩
  refine kg ?_;intro ck;refine(ak rfl (ak rfl ⟨wb,p,ts,g,S,rfl,hw,?_⟩));rcases q with⟨m,rfl,hm,q1,q2⟩|⟨hS,q⟩
  ·refine .inl ⟨m,rfl,hm,fun H1 s1=>?_⟩
   by_cases r:g.N.Ring m
   ·rw[(jO g hm).mpr r];exact(ak rfl (bh (q1 r H1 s1)))
   ·rw[show jN p ts g m=false from Hx.mpr fun z=>r ((jO g hm).mp z)]
    exact(ak rfl (bQ ⟨dl rfl,q2 r H1 s1⟩))
  ·exact .inr ⟨hS,q⟩
def sN(ts:List dF)(l:List Nat)(m:Nat):List Nat:=l.filter fun c=>decide (lenOf ts c<lenOf ts m)
def sO(ts:List dF)(l:List Nat)(m:Nat):List Nat:=l.filter fun c=>!decide (c=m)&&decide (lenOf ts c<=lenOf ts m)
def zX(t:Addr)(lp:Pos):Sp:=fun vs H Q _=>∃ w p ts,∃ g:aA p ts,∃ m:Nat,vs=[.ref w,.int (m:Int)]/\bq H w p ts/\m<2^ts.length/\H t=some (.kQ (fS (tu "by_length") lp))/\g.N.az.length<=8/\ts.length<=9/\
 ∀ D l H',H D=none->au H H'->H' D=some (.lst (aB (sN ts l m)))->oQ p ts g l->Q (.ref D) H'
def Fo(t:Addr)(lp:Pos):Sp:=fun vs H Q _=>∃ w p ts,∃ g:aA p ts,∃ m:Nat,vs=[.ref w,.int (m:Int)]/\bq H w p ts/\m<2^ts.length/\H t=some (.kQ (fS (tu "by_length") lp))/\g.N.az.length<=8/\ts.length<=9/\
 ∀ D l H',H D=none->au H H'->H' D=some (.lst (aB (sO ts l m)))->oQ p ts g l->Q (.ref D) H'
structure A7(B:List Nat)(m:Nat)(C:List Nat):Prop where
 up:C.Pairwise (· < ·)
 mem:∀ c∈C,c∈B
 sum:xorL C=m
def yi:Sp:=fun vs H Q _=>∃(l r:Addr) (B:List Nat) (rows:List RM.Row3) (m:Nat),vs=[.ref l,.ref r,.int (m:Int)]/\H l=some (.lst (aB B))/\gQ H r rows/\RM.Rw B rows/\B.length<64/\B.Nodup/\RM.Sp B m/\
 ∀ D C H',H D=none->au H H'->H' D=some (.lst (aB C))->A7 B m C->Q (.ref D) H'
def zY:Sp:=fun vs H Q _=>∃(r:Addr) (B:List Nat) (rows:List RM.Row3) (N:RM.Net) (m:Nat),vs=[.ref r,.int (m:Int)]/\gQ H r rows/\RM.Rw B rows/\B.length<64/\N.n<=24/\(∀ b∈B,b<2^N.n)/\m<2^N.n/\¬ RM.Sp B m/\
 ∀(M:Nat) H',au H H'->M<2^N.n->N.par m M=true->(∀ b∈B,N.par b M=false)->Q (.int (M:Int)) H'
def A8(p:Nat)(ts:List dF)(g:aA p ts)(l:List Nat)(m:Nat)(H0 H:Hp)(c:Addr):Prop :=
 (∃ D C,H c=some (.tup [.str "none",.ref D])/\H0 D=none/\H D=some (.lst (aB C))/\RM.Sp (sN ts l m) m/\A7 (sN ts l m) m C)\/
 (∃ M:Nat,H c=some (.tup [.str "every",.int (M:Int)])/\¬ RM.Sp (sO ts l m) m/\M<2^ts.length/\g.N.par m M=true/\∀ b∈sO ts l m,g.N.par b M=false)\/
 (∃ D C,∃ M:Nat,H c=some (.tup [.str "some",.int (M:Int),.ref D])/\H0 D=none/\H D=some (.lst (aB C))/\¬ RM.Sp (sN ts l m) m/\RM.Sp (sO ts l m) m/\M<2^ts.length/\g.N.par m M=true/\(∀ b∈sN ts l m,g.N.par b M=false)/\A7 (sO ts l m) m C)
def Fp(CT CB CN t:Addr)(lp:Pos):Sp:=fun vs H Q E=>∃ w p ts,∃ g:aA p ts,∃ S:Int,vs=[.ref w,.int S]/\bq H w p ts/\H t=some (.kQ (fS (tu "by_length") lp))/\
 ((8<g.N.az.length/\∀ H',au H H'->E (.ref CT) none H')\/(g.N.az.length<=8/\ts.length<=9/\mR ts S (∀ H',au H H'->E (.ref CB) none H') fun m=>(g.N.Ring m->∀ c l H',au H H'->oQ p ts g l->A8 p ts g l m H H' c->Q (.ref c) H')/\(¬ g.N.Ring m->∀ H',au H H'->E (.ref CN) none H')))
theorem cN:Ok T T.fm 11 (zX a.cA bX):=by
 have aS:=aS T;have fK:=fK T;refine T.fm.ok jS fun _ A _ s H vs Q E hr h=>?_
 ·obtain⟨wb,p,ts,g,m,rfl,hw,hm,htb,h8,h9,q⟩:=h;refine⟨_,(ai (aG (i:=2) jS.nd rfl (Or.inr rfl) (aC aS hr T.b8.c gY (aa (pv 0) (aa (pv 1) ae))))
   (aq (aF (bw (own:=["other"]) (fq:=["web","length"]) (js:=[0,2]) (aI (aj fh) ["web","ring","length"]) rfl (mE K (aC fK hr T.jn.c gY (aa (pv 0) ae))) (fun _ _ _ _=>(bH 0 (l9 ["other","web","length"]))) (fun _ _ _ _=>(dO (aJ nJ (aC aS hr T.b8.c gY (aa (pv 1) (aa (pv 0) ae))) (pv 2) (aH _)))) (fun _ _ _ _=>(pv 0)))))),?_⟩
  refine dH ?_;intro ck;have W:=g.C5;refine(ak rfl (ak rfl ⟨wb,p,ts,_,rfl,hw,W,.inl ⟨m,rfl,hm,fun H1 s1=>?_⟩⟩))
  refine(ak rfl ⟨wb,p,ts,g,rfl,hw.same s1,s1 _ _ htb,.inl ⟨h8,h9,fun D l H2 hD s2 jZ R=>?_⟩⟩)
  have F0:=R.few h9;refine⟨D,rfl,⟨_,aO.of jZ⟩,fun X hX=>aU (K:=K) (a:=D) (xs:=aB l) (fun i acc H3=>au H2 H3/\H3 X=some (.lst acc)/\acc=aB (sN ts (l.take i) m)) ⟨au.new hX,af,rfl⟩ (fun i acc H3 _ z=>⟨aO.of (z.1 _ _ jZ),z.2.1,?_⟩) (Nat.le_of_lt (cK (by rw[aD];lia))) ?_ ?_⟩
  ·rw[z.2.2,aD];exact Nat.le_trans (List.length_filter_le _ _) (by rw[List.length_take];lia)
  ·rintro i x acc H3 hx ⟨s3,iL,rfl⟩;obtain⟨c,mS,rfl⟩:=bM hx;have hc:=((R.all c).mp (nv mS)).1;refine⟨rfl,ak rfl (ak rfl ⟨wb,p,ts,_,rfl,hw.same ((s1.trans s2).trans s3),W,.inl ⟨c,rfl,hc,fun H4 s4=>(ak rfl (bG (ak rfl (gr (fun h=>?_) (fun h=>?_)))))⟩⟩)⟩
   ·refine(ak rfl ⟨s4 _ _ iL,(s3.trans s4).put hX,af,?_⟩);unfold sN;rw[take3 mS,List.filter_append,List.filter_cons,if_pos h];exact(bR _ _).symm
   ·refine⟨s3.trans s4,s4 _ _ iL,?_⟩;unfold sN;rw[take3 mS,List.filter_append,List.filter_cons,if_neg h,List.filter_nil,List.append_nil]
  ·rintro acc H3 ⟨s3,iL,rfl⟩;rw[aD,List.take_length]at iL;exact q X l H3 ((s1.trans s2).free hX) ((s1.trans s2).trans s3) iL R
theorem dI:Ok T T.gV 11 (Fo a.cA bX):=by
 have aS:=aS T;have fK:=fK T;refine T.gV.ok lE fun _ A _ s H vs Q E hr h=>?_
 ·obtain⟨wb,p,ts,g,m,rfl,hw,hm,htb,h8,h9,q⟩:=h;refine⟨_,(ai (aG (i:=2) lE.nd rfl (Or.inr rfl) (aC aS hr T.b8.c gY (aa (pv 0) (aa (pv 1) ae))))
   (aq (aF (bw (own:=["other"]) (fq:=["web","ring","length"]) (js:=[0,1,2]) (aI (aj gS) ["web","ring","length"]) rfl (mE K (aC fK hr T.jn.c gY (aa (pv 0) ae))) (fun _ _ _ _=>(bH 0 (l9 ["other","web","ring","length"]))) (fun _ _ _ _=>(dO (PW.pt (qS (aJ qV (pv 0) (pv 2) (aH _)) (nG (aJ qW (aC aS hr T.b8.c gY (aa (pv 1) (aa (pv 0) ae))) (pv 3) (aH _))))))) (fun _ _ _ _=>(pv 0)))))),?_⟩
  refine dH ?_;intro ck;have W:=g.C5;refine(ak rfl (ak rfl ⟨wb,p,ts,_,rfl,hw,W,.inl ⟨m,rfl,hm,fun H1 s1=>?_⟩⟩))
  refine(ak rfl ⟨wb,p,ts,g,rfl,hw.same s1,s1 _ _ htb,.inl ⟨h8,h9,fun D l H2 hD s2 jZ R=>?_⟩⟩)
  have F0:=R.few h9;refine⟨D,rfl,⟨_,aO.of jZ⟩,fun X hX=>aU (K:=K) (a:=D) (xs:=aB l) (fun i acc H3=>au H2 H3/\H3 X=some (.lst acc)/\acc=aB (sO ts (l.take i) m)) ⟨au.new hX,af,rfl⟩ (fun i acc H3 _ z=>⟨aO.of (z.1 _ _ jZ),z.2.1,?_⟩) (Nat.le_of_lt (cK (by rw[aD];lia))) ?_ ?_⟩
  ·rw[z.2.2,aD];exact Nat.le_trans (List.length_filter_le _ _) (by rw[List.length_take];lia)
  ·rintro i x acc H3 hx ⟨s3,iL,rfl⟩;obtain⟨c,mS,rfl⟩:=bM hx;have hc:=((R.all c).mp (nv mS)).1;refine⟨rfl,ak rfl (ak rfl ⟨rfl,ak rfl (?_)⟩)⟩;have tk:sO ts (l.take (i+1)) m=sO ts (l.take i) m++(if(!decide (c=m)&&decide (lenOf ts c<=lenOf ts m))=true then[c] else[]):=by
    unfold sO;rw[take3 mS,List.filter_append,List.filter_cons,List.filter_nil]
   by_cases e:c=m
   ·rw[cU (show V.int (c:Int)=V.int (m:Int) by rw[e])]
    refine bh (bh ⟨s3,iL,?_⟩);rw[tk,cU e,Bool.not_true,Bool.false_and,if_neg Bool.false_ne_true,List.append_nil]
   ·rw[ff (show ¬ V.int (c:Int)=V.int (m:Int) from fun z=>e (by have:=V.int.inj z;lia))]
    refine bQ (ak rfl (ak rfl ⟨wb,p,ts,_,rfl,hw.same ((s1.trans s2).trans s3),W,.inl ⟨c,rfl,hc,fun H4 s4=>(ak rfl (bG (ak rfl (gr (fun h=>?_) (fun h=>?_)))))⟩⟩))
    ·refine(ak rfl ⟨s4 _ _ iL,(s3.trans s4).put hX,af,?_⟩);rw[tk,ff e,h];exact(bR _ _).symm
    ·refine⟨s3.trans s4,s4 _ _ iL,?_⟩;rw[tk,Hx.mpr h,Bool.and_false,if_neg Bool.false_ne_true,List.append_nil]
  ·rintro acc H3 ⟨s3,iL,rfl⟩;rw[aD,List.take_length]at iL;exact q X l H3 ((s1.trans s2).free hX) ((s1.trans s2).trans s3) iL R
theorem kN:Ok T T.kH 3 yi:=by
 have cE:=cE T;have bx:=bx T;refine T.kH.ok xE fun _ A _ s H vs Q E hr h=>?_
 ·obtain⟨l,r,B,rows,m,rfl,hl,hR,JP,S8,nd,hs,q⟩:=h;refine⟨_,(aq (aF (bj (sortedK K) (by rfl) T.sI PyProof.Rows.boot_sorted (aa (bw (own:=["place"]) (fq:=["rings"]) (js:=[0]) (aI (aj ko) ["rings","rows","ring"]) rfl (mE K (aC bx hr T.fJ.c aL (aa (aM (cu K) (aC cE hr T.gM.c aL (aa (pv 1) (aa (pv 2) ae))) ah) ae))) (fun _ _ _ _=>(bH 0 (l9 ["place","rings"]))) (fun _ _ _ _=>cH) (fun _ _ _ _=>(aM (mW K) (pv 1) (pv 0)))) ae)))),?_⟩
  obtain⟨u1,u2⟩:=JP.parts hs;refine(ak rfl (ak rfl ⟨r,rows,m,rfl,hR,fun c H1 s1 hc=>(bU (aY.of hc) (ao (j:=1) rfl) (ak rfl ⟨Nat.le_trans (bits_le u1) (by lia),fun D H2 hD s2 jZ=>?_⟩))⟩))
  rw[fQ u1]at jZ;generalize (RM.bu rows m 0).2=u at u1 u2 jZ;have hl2:=(s1.trans s2) _ _ hl;have fl:((List.range B.length).filter fun k=>u.testBit k).length<=B.length:=by
   have:=List.length_filter_le (fun k=>u.testBit k) (List.range B.length)
   rwa [List.length_range]at this
  refine⟨D,rfl,⟨_,aO.of jZ⟩,fun X hX=>aU (K:=K) (a:=D) (xs:=aB ((List.range B.length).filter fun k=>u.testBit k)) (fun i acc H3=>au H2 H3/\H3 X=some (.lst acc)/\acc=aB ((((List.range B.length).filter fun k=>u.testBit k).take i).map fun k=>B.getD k 0)) ⟨au.new hX,af,rfl⟩ (fun i acc H3 _ z=>⟨aO.of (z.1 _ _ jZ),z.2.1,by rw[z.2.2,aD,List.length_map,List.length_take];lia⟩) (Nat.le_of_lt (cK (by rw[aD];lia))) ?_ ?_⟩
  ·rintro i x acc H3 hx ⟨s3,iL,rfl⟩;obtain⟨k,hki,rfl⟩:=bM hx;have hk:=List.mem_range.mp (List.mem_filter.mp (nv hki)).1;have S9:(aB B)[k]?=some (.int ((B.getD k 0:Nat):Int)):=by
    unfold aB;rw[List.getElem?_map,List.getD_eq_getElem?_getD,List.getElem?_eq_getElem hk];rfl
   refine⟨rfl,ak rfl (ak rfl (mF (aO.of (s3 _ _ hl2)) (ao (j:=k) S9) ⟨iL,s3.put hX,af,?_⟩))⟩;rw[take3 hki,List.map_append,List.map_singleton];exact(bR _ _).symm
  ·rintro acc H3 ⟨s3,iL,rfl⟩;rw[aD,List.take_length]at iL;have iL:H3 X=some (.lst (aB (RM.pick B u))):=iL;have pl:(RM.pick B u).length<=B.length:=by unfold RM.pick;rw[List.length_map];exact fl
   rw[eA]at iL;refine⟨X,_,rfl,aO.of iL,by rw[List.length_map];lia,fun Y ns' hY pm pw=>?_⟩
   obtain⟨C,rfl⟩:=Fl (l:=ns') fun x hx=>by
    obtain⟨c,_,rfl⟩:=List.mem_map.mp (pm.mem_iff.mp hx)
    lia
   have OU:C.Perm (RM.pick B u):=by
    have:=pm.map Int.toNat;have e:∀ l:List Nat,(l.map fun x=>((x:Nat):Int)).map Int.toNat=l:=fun l=>by
     rw[List.map_map];exact(List.map_congr_left fun x _=>Int.toNat_natCast x).trans (List.map_id _)
    rwa [e,e]at this
   have Tc:C.Nodup:=OU.nodup_iff.mpr (RM.zf nd u);have s4:au H3 (upd H3 Y (.lst ((C.map fun x=>((x:Nat):Int)).map V.int))):=au.new hY
   have i5:=(s1.trans s2).trans s3;refine q Y C _ (i5.free hY) (i5.trans s4) (by rw[eA];exact af) ⟨?_,fun c hc=>RM.EO (OU.mem_iff.mp hc),by rw[BO OU];exact u2⟩
   rw[List.pairwise_map]at pw;exact(pw.and Tc).imp fun {x y} h=>by lia
theorem fB:Ok T T.fu 3 zY:=by
 have cE:=cE T;have bx:=bx T;have cL:=cL T;refine T.fu.ok bV fun _ A _ s H vs Q E hr h=>?_
 ·obtain⟨r,B,rows,N,m,rfl,hR,JP,S8,VI,hb',hm,hs,q⟩:=h;refine⟨_,(ai (aG (i:=2) bV.nd rfl (Or.inl rfl) (aM (mW K) (aC bx hr T.fJ.c aL (aa (aM (cu K) (aC cE hr T.gM.c aL (aa (pv 0) (aa (pv 1) ae))) ah) ae)) ah))
   (ai (aG (i:=3) bV.nd rfl (Or.inl rfl) (aK jv ah (pv 2)))
   (ai (eT PassesOwn.never rfl (mE K (pv 0)) (HJ K (n:=3) rfl (bB (bH 4 bV.nd) (bB (bH 5 bV.nd) (bB (bH 6 bV.nd) i8))))
   (aq (br (cF (aC cL hr T.iK.c aL (aa (pv 5) (aa (pv 2) ae)))) (aq (qU (i:=3) bV.nd rfl (Or.inl rfl) (aK jv ah (pv 4)) Dy)) aQ)))
   (aq (aF (pv 3)))))),?_⟩
  refine pJ ?_;intro ck cT dz eX gF;refine(ak rfl (ak rfl ⟨r,rows,m,rfl,hR,fun c H1 s1 hc=>(bU (aY.of hc) (ao (j:=0) rfl) (?_))⟩))
  have lz:(RM.bu rows m 0).1≠0:=fun z=>hs ((JP.fF m 0).mp z)
  have JG:(RM.bu rows m 0).1<2^N.n:=by
   have M7:RM.Sp (rows.map fun q=>q.2.1) (m^^^(RM.bu rows m 0).1):=by
    have:=RM.qL (rows.map RM.two) m
    rwa [RM.map_two,<-RM.iW rows m 0]at this
   have:=Nat.xor_lt_two_pow hm (M7.lt fun y hy=>by
    obtain⟨q,hq,rfl⟩:=List.mem_map.mp hy;exact RM.yY JP hb' q hq)
   rwa [<-Nat.xor_assoc,Nat.xor_self,Nat.zero_xor]at this
  refine(ak rfl ⟨Nat.le_trans (bits_le JG) (by lia),fun D H2 hD s2 jZ=>?_⟩)
  obtain⟨t,r0,et⟩:∃ t r0,bF (((RM.bu rows m 0).1:Nat):Int)=t::r0:=by
   cases h:bF (((RM.bu rows m 0).1:Nat):Int) with
   | cons t r0=>exact⟨t,r0,rfl⟩
   | nil =>
     exfalso
     rw[fQ JG]at h;refine lz (Nat.eq_of_testBit_eq fun k=>?_)
     rw[Nat.zero_testBit];cases hk:(RM.bu rows m 0).1.testBit k with
     | false=>rfl
     | true =>
       have:=List.mem_filter.mpr ⟨List.mem_range.mpr (RM.cV JG hk),hk⟩;rw[h]at this;cases this
  have ht:(RM.bu rows m 0).1.testBit t=true:=by
   have:t∈bF (((RM.bu rows m 0).1:Nat):Int):=by rw[et];exact List.mem_cons_self
   rw[fQ JG]at this;exact(List.mem_filter.mp this).2
  rw[et]at jZ;refine(mF (aO.of jZ) (ao (j:=0) rfl) (?_));obtain⟨M1,M2,M3⟩:=RM.B9 JP hb' hm ht;have tn:=RM.cV JG ht;have JN:=(hR.same s1).same s2;obtain⟨xs,hl,pr⟩:=id JN;have s12:=s1.trans s2;refine(ak rfl (bG ⟨⟨by lia,by lia,by decide⟩,?_⟩))
  refine(ak rfl ⟨r,rfl,⟨_,aO.of hl⟩,c7 (K:=K) (a:=r) (xs:=xs) (fun i σ H3=>∃(z:Int) (v4 v5 v6:Option V),σ=[some (.ref r),some (.int (m:Int)),some (.int (t:Int)),some (.int z),v4,v5,v6]/\z=(((rows.take i).foldl (fun M q=>if q.2.1.testBit t=true then M ||| 2^q.1 else M) (Ring.orM [t]):Nat):Int)/\H3=H2) ⟨_,none,none,none,rfl,?_,rfl⟩ (fun i σ H3 _ ⟨_,_,_,_,_,_,z⟩=>by rw[z];exact aO.of hl) ?_ ?_⟩)
  ·rw[ir];show _=((Ring.orM [t]:Nat):Int)
   congr 1
   unfold Ring.orM;rw[List.foldl_cons,List.foldl_nil,Nat.zero_or]
  ·rintro i y D' σ H3 hi ⟨z,v4,v5,v6,rfl,ez,rfl⟩;obtain⟨qq,hq,b,rfl,hb⟩:=Paired.rf pr hi;refine⟨b,_,rfl,aY.of hb,rfl,_,_,rfl,_,_,rfl,_,_,rfl,rfl,?_⟩;refine(ak rfl (ak rfl ⟨_,t,rfl,ak rfl (?_)⟩));rw[ja];have e3:(rows.take (i+1)).foldl (fun M q=>if q.2.1.testBit t=true then M ||| 2^q.1 else M) (Ring.orM [t])=(fun M=>if qq.2.1.testBit t=true then M ||| 2^qq.1 else M) ((rows.take i).foldl (fun M q=>if q.2.1.testBit t=true then M ||| 2^q.1 else M) (Ring.orM [t])):=by
    rw[take3 hq,List.foldl_append];rfl
   have ql:qq.1<N.n:=RM.cV (RM.yY JP hb' qq (nv hq)) (JP.own qq (nv hq));cases oR:qq.2.1.testBit t with
   | true =>
     refine bQ (ak rfl (ak rfl (bG ⟨⟨by lia,by lia,by decide⟩,bG ⟨_,some (.int (qq.1:Int)),some (.int (qq.2.1:Int)),some (.int (qq.2.2:Int)),rfl,?_,rfl⟩⟩)))
     rw[e3,ez];dsimp only;rw[if_pos oR,ir,or_int]
   | false =>
     refine bh ⟨z,some (.int (qq.1:Int)),some (.int (qq.2.1:Int)),some (.int (qq.2.2:Int)),rfl,?_,rfl⟩;rw[e3,ez];dsimp only;rw[if_neg (by rw[oR];decide)]
  ·rintro σ H3 ⟨z,v4,v5,v6,rfl,ez,rfl⟩;rw[pr.length,List.take_length,RM.m4]at ez;subst ez;exact(ak rfl (q _ _ s12 M1 M2 M3))
theorem eO:CK T T.iC 12 (Fp a.fH a.aR a.aV a.cA bX):=by
 have cz:=cz T;have eN:=eN T;have cN:=cN T;have mC:=mC T;have cE:=cE T;have kN:=kN T;have dI:=dI T;have fB:=fB T;refine T.iC.yH fb fun _ A _ s H vs Q E hr h=>?_
 ·obtain⟨wb,p,ts,g,S,rfl,hw,htb,q⟩:=h;refine⟨_,(ai (dc (aC cz hr T.fZ.c eg.passes (aa (pv 0) ae)))
   (ai (dc (aC eN hr T.iB.c eg.passes (aa (pv 0) (aa (pv 1) ae))))
   (ai (aG (i:=2) fb.nd rfl (Or.inl rfl) (aC cN hr T.fm.c aL (aa (pv 0) (aa (pv 1) ae))))
   (ai (aG (i:=3) fb.nd rfl (Or.inl rfl) (aC mC hr T.mw.c aL (aa (pv 2) ae)))
   (ai (br (aJ bZ (aM (cu K) (aC cE hr T.gM.c aL (aa (pv 3) (aa (pv 1) ae))) ah) ah (aH _)) (aq (aF (g8 (aa cJ (aa (aC kN hr T.kH.c aL (aa (pv 2) (aa (pv 3) (aa (pv 1) ae)))) ae))))) aQ)
   (ai (aG (i:=4) fb.nd rfl (Or.inl rfl) (aC dI hr T.gV.c aL (aa (pv 0) (aa (pv 1) ae))))
   (ai (aG (i:=5) fb.nd rfl (Or.inl rfl) (aC mC hr T.mw.c aL (aa (pv 4) ae)))
   (ai (br (aJ pZ (aM (cu K) (aC cE hr T.gM.c aL (aa (pv 5) (aa (pv 1) ae))) ah) ah (aH _)) (aq (aF (g8 (aa cJ (aa (aC fB hr T.fu.c aL (aa (pv 5) (aa (pv 1) ae))) ae))))) aQ)
   (aq (aF (g8 (aa cJ (aa (aC fB hr T.fu.c aL (aa (pv 3) (aa (pv 1) ae))) (aa (aC kN hr T.kH.c aL (aa (pv 4) (aa (pv 5) (aa (pv 1) ae)))) ae)))))))))))))),?_⟩
  refine tG ?_;intro ck cT dz eX gF mP qa uN A5 ER;rcases q with⟨h8,q⟩|⟨h8,h9,q⟩
  ·exact(ak rfl ⟨wb,p,ts,g,rfl,hw,.inr ⟨h8,q⟩⟩)
  refine(ak rfl ⟨wb,p,ts,g,rfl,hw,.inl ⟨h8,fun H1 s1=>?_⟩⟩)
  refine(ak rfl (ak rfl ⟨wb,p,ts,g,S,rfl,hw.same s1,?_⟩));rcases q with⟨m,rfl,hm,q1,q2⟩|⟨hS,q⟩
  case inr=>exact .inr ⟨hS,fun H' s'=>q H' (s1.trans s')⟩
  refine .inl ⟨m,rfl,hm,fun r H2 s2=>?_,fun r H2 s2=>q2 r H2 (s1.trans s2)⟩
  have q:=q1 r;clear q1 q2;have s12:=s1.trans s2;refine(ak rfl (ak rfl ⟨wb,p,ts,g,m,rfl,hw.same s12,hm,s12 _ _ htb,h8,h9,fun D l H3 hD s3 uh R=>?_⟩))
  have F0:=R.few h9;have shl:(sN ts l m).length<=l.length:=List.length_filter_le _ _;have OV:(sO ts l m).length<=l.length:=List.length_filter_le _ _;have Td:(sN ts l m).Nodup:=List.Pairwise.filter _ R.nd;have Tf:(sO ts l m).Nodup:=List.Pairwise.filter _ R.nd;have slt:∀ b∈sN ts l m,b<2^ts.length:=fun b hb=>((R.all b).mp (List.mem_filter.mp hb).1).1
  have OW:∀ b∈sO ts l m,b<2^ts.length:=fun b hb=>((R.all b).mp (List.mem_filter.mp hb).1).1
  refine(ak rfl ⟨D,_,rfl,uh,by lia,fun l4 rows H4 s4 Nh Nj _=>?_⟩)
  refine(ak rfl (ak rfl ⟨l4,rows,m,rfl,Nh,fun c H5 s5 hc=>?_⟩))
  have F1:=((s12.trans s3).trans s4).trans s5;have Ij:=(s4.trans s5) _ _ uh;have Ni:=Nh.same s5;refine(bU (aY.of hc) (ao (j:=0) rfl) ⟨rfl,ak rfl (?_)⟩)
  by_cases h0:(RM.bu rows m 0).1=0
  ·have qX:=(Nj.fF m 0).mp h0;rw[h0];refine bQ (ak rfl (ak rfl (ak rfl ⟨D,l4,_,rows,m,rfl,Ij,Ni,Nj,by lia,Td,qX,fun X C H6 hX s6 Tg PL=>?_⟩)))
   refine⟨dl rfl,fun e he=>q e l _ ((F1.trans s6).trans (au.new he)) R (.inl ⟨X,C,af,F1.free hX,au.new he _ _ Tg,qX,PL⟩)⟩
  have hns : ¬ RM.Sp (sN ts l m) m:=fun z=>h0 ((Nj.fF m 0).mpr z)
  rw[ff (show ¬ V.int (((RM.bu rows m 0).1:Nat):Int)=V.int 0 from fun z=>h0 (by have:=V.int.inj z;lia))]
  refine bh ?_;refine(ak rfl (ak rfl ⟨wb,p,ts,g,m,rfl,hw.same F1,hm,F1 _ _ htb,h8,h9,fun D2 l2 H6 jZ s6 Mp R2=>?_⟩))
  obtain rfl:l2=l:=R2.uniq R;refine(ak rfl ⟨D2,_,rfl,Mp,by lia,fun l7 yj H7 s7 Qm Nk _=>?_⟩)
  refine(ak rfl (ak rfl ⟨l7,yj,m,rfl,Qm,fun c2 H8 s8 hc2=>?_⟩))
  have Qn:=(s6.trans s7).trans s8;have Qo:=F1.trans Qn;have OX:=(s7.trans s8) _ _ Mp;have Qp:=Qm.same s8;have wl:g.N.n<=24:=g.len;refine(bU (aY.of hc2) (ao (j:=0) rfl) (bG (ak rfl (gr (fun h1=>?_) (fun h1=>?_)))))
  ·have h1:(0:Int)<(((RM.bu yj m 0).1:Nat):Int):=i6 h1;have hno : ¬ RM.Sp (sO ts l2 m) m:=fun z=>by have:=(Nk.fF m 0).mpr z;lia
   refine(ak rfl (ak rfl ⟨l7,_,yj,g.N,m,rfl,Qp,Nk,by lia,wl,OW,hm,hno,fun M H9 s9 M1 M2 M3=>⟨dl rfl,fun e he=>?_⟩⟩))
   exact q e l2 _ ((Qo.trans s9).trans (au.new he)) R (.inr (.inl ⟨M,af,hno,M1,M2,M3⟩))
  ·have h1 : ¬(0:Int)<(((RM.bu yj m 0).1:Nat):Int):=fun z=>h1 (cU z)
   have hso:RM.Sp (sO ts l2 m) m:=(Nk.fF m 0).mp (by lia)
   refine(ak rfl (ak rfl ⟨l4,_,rows,g.N,m,rfl,Ni.same Qn,Nj,by lia,wl,slt,hm,hns,fun M H9 s9 M1 M2 M3=>?_⟩))
   refine(ak rfl (ak rfl (ak rfl ⟨D2,l7,_,yj,m,rfl,s9 _ _ OX,Qp.same s9,Nk,by lia,Tf,hso,fun X C Mq hX Oi OY PL=>⟨dl rfl,fun e he=>?_⟩⟩)))
   have Qq:=Qo.trans s9;exact q e l2 _ ((Qq.trans Oi).trans (au.new he)) R (.inr (.inr ⟨X,C,M,af,Qq.free hX,au.new he _ _ OY,hns,hso,M1,M2,M3,PL⟩))
inductive PP
 | nn (zs:List Int)
 | ss (z:Int) (zs:List Int)
 | ee (z:Int)
def zZ(H:Hp)(v:V):PP->Prop
 | .nn zs=>∃ c D,v = .ref c/\H c=some (.tup [.str "none",.ref D])/\H D=some (.lst (zs.map V.int))/\zs.length<=200
 | .ss z zs=>∃ c D,v = .ref c/\H c=some (.tup [.str "some",.int z,.ref D])/\H D=some (.lst (zs.map V.int))/\zs.length<=200
 | .ee z=>∃ c,v = .ref c/\H c=some (.tup [.str "every",.int z])
def sP(p:Nat)(ts:List dF)(g:aA p ts)(ok:Nat->Prop)(zs:List Int):Prop:=∀ z∈zs,∃ c:Nat,z=(c:Int)/\c<2^ts.length/\g.N.Ring c/\ok c
theorem sP.cast{p:Nat}{ts:List dF}{g:aA p ts}{ok:Nat->Prop}:∀{zs:List Int},sP p ts g ok zs->∃ C:List Nat,zs=C.map (fun x=>((x:Nat):Int))/\∀ c∈C,c<2^ts.length/\g.N.Ring c/\ok c
 | [],_=>⟨[],rfl,(fun c hc=>nomatch hc)⟩
 | z::zs,h=>by
   obtain⟨C,e,hC⟩:=sP.cast (zs:=zs) fun x hx=>h x (lU _ hx)
   obtain⟨c,rfl,hc⟩:=h z List.mem_cons_self;refine⟨c::C,by rw[e];rfl,fun x hx=>?_⟩
   rcases List.mem_cons.mp hx with rfl|hx
   ·exact hc
   ·exact hC x hx
def tZ(p:Nat)(ts:List dF)(g:aA p ts)(m:Nat)(ok:Nat->Prop)(zs:List Int):Prop:=∃ C:List Nat,zs=C.map (fun x=>((x:Nat):Int))/\C.Pairwise (· < ·)/\(∀ c∈C,c<2^ts.length/\g.N.Ring c/\c≠m/\ok c)/\xorL C=m
def wk(p:Nat)(ts:List dF)(g:aA p ts)(m:Nat)(B:List Nat)(z:Int):Prop:=∃ M:Nat,z=(M:Int)/\M<2^ts.length/\g.N.par m M=true/\∀ b∈B,g.N.par b M=false
def z5(p:Nat)(ts:List dF)(g:aA p ts)(l:List Nat)(m:Nat):PP->Prop
 | .nn zs=>tZ p ts g m (fun c=>lenOf ts c<lenOf ts m) zs
 | .ss z zs=>wk p ts g m (sN ts l m) z/\tZ p ts g m (fun c=>lenOf ts c<=lenOf ts m) zs
 | .ee z=>wk p ts g m (sO ts l m) z
theorem CU:∀{C C' : List Nat},C.map (fun x=>((x:Nat):Int))=C'.map (fun x=>((x:Nat):Int))->C=C':=fun {C C'} h=>by
 have:=congrArg (List.map Int.toNat) h;have e:∀ l:List Nat,(l.map fun x=>((x:Nat):Int)).map Int.toNat=l:=fun l=>by
  rw[List.map_map];exact(List.map_congr_left fun x _=>Int.toNat_natCast x).trans (List.map_id _)
 rwa [e,e]at this
theorem wm{C:List Nat}{i c:Nat}(h:C[i]?=some c):(C.take (i+1)).Pairwise (· < ·)↔(C.take i).Pairwise (· < ·)/\∀ b,0<i->C[i-1]?=some b->b<c:=by
 rw[take3 h,List.pairwise_append];have xj:=(ny.mp h).1
 constructor
 ·rintro⟨h1,_,h3⟩;refine⟨h1,fun b h0 hb=>h3 b (nv (i:=i-1) ?_) c (by simp)⟩
  rw[List.getElem?_take,if_pos (by lia)]
  exact hb
 ·rintro⟨h1,h2⟩;refine⟨h1,List.pairwise_singleton _ _,fun x hx y hy=>?_⟩
  rw[List.mem_singleton.mp hy];obtain⟨j,hj⟩:=List.getElem?_of_mem hx;have Nd:=hj;rw[List.getElem?_take]at hj
  split at hj
  ·rename_i hji
   have hl:C[i-1]?=some C[i-1]:=List.getElem?_eq_getElem (by lia)
   have:=h2 _ (by lia) hl
   by_cases e:j=i-1
   ·subst e;rw[hl]at hj;rw[<-Option.some.inj hj];exact this
   ·have hb:(C.take i)[i-1]?=some C[i-1]:=by rw[List.getElem?_take,if_pos (by lia)];exact hl
    obtain⟨a1,a2⟩:=ny.mp Nd;obtain⟨b1,b2⟩:=ny.mp hb;have:=List.pairwise_iff_getElem.mp h1 j (i-1) a1 b1 (by lia)
    lia
  ·cases hj
theorem CV(u:Int)(l:List Int):FO (.int u) (l.map V.int)=decide (u∈l):=by
 unfold FO;rw[List.any_map,Bool.eq_iff_iff,List.any_eq_true];simp only[Function.comp,decide_eq_true_eq]
 constructor
 ·rintro⟨x,hx,h⟩;have e:x=u:=eq_of_beq h;exact e▸hx
 ·intro h;exact⟨u,h,by simp[Br]⟩
theorem z7(l:List Int):(l.map V.int).all ik=true:=by
 rw[List.all_eq_true];intro x hx;obtain⟨y,_,rfl⟩:=List.mem_map.mp hx;rfl
theorem yk{p:Nat}{ts:List dF}{g:aA p ts}{m:Nat}{ok:Nat->Prop}{zs:List Int}(h:tZ p ts g m ok zs):sP p ts g (fun c=>c≠m/\ok c) zs:=by
 obtain⟨C,rfl,_,hC,_⟩:=h;intro z hz;obtain⟨c,hc,rfl⟩:=List.mem_map.mp hz;exact⟨c,rfl,(hC c hc).1,(hC c hc).2.1,(hC c hc).2.2⟩
theorem wo{p:Nat}{ts:List dF}{g:aA p ts}{m:Nat}{ok:Nat->Prop}{C:List Nat}(hC:∀ c∈C,c<2^ts.length/\g.N.Ring c/\c≠m/\ok c):(C.Pairwise (· < ·)/\xorL C=m)↔tZ p ts g m ok (C.map fun x=>((x:Nat):Int)) :=
 ⟨fun h=>⟨C,rfl,h.1,hC,h.2⟩,fun⟨C',e,h1,_,h2⟩=>by rw[CU e];exact⟨h1,h2⟩⟩
def Fq:Sp:=fun vs H Q _=>∃(m:Nat) (D:Addr) (C:List Nat),vs=[.int (m:Int),.ref D]/\H D=some (.lst (aB C))/\C.length<=200/\∀ H' (d:Bool),au H H'->(d=true↔C.Pairwise (· < ·)/\xorL C=m)->Q (.bl d) H'
def Ft:Sp:=fun vs H Q _=>∃ w p ts,∃ g:aA p ts,∃(m:Nat) (D:Addr) (zs:List Int),vs=[.ref w,.int (m:Int),.ref D]/\bq H w p ts/\m<2^ts.length/\H D=some (.lst (zs.map V.int))/\zs.length<=200/\∀ H' (d:Bool),au H H'->(d=true↔sP p ts g (fun c=>lenOf ts c<lenOf ts m) zs)->Q (.bl d) H'
def Fv:Sp:=fun vs H Q _=>∃ w p ts,∃ g:aA p ts,∃(m:Nat) (D:Addr) (zs:List Int),vs=[.ref w,.int (m:Int),.ref D]/\bq H w p ts/\m<2^ts.length/\H D=some (.lst (zs.map V.int))/\zs.length<=200/\∀ H' (d:Bool),au H H'->(d=true↔sP p ts g (fun c=>c≠m/\lenOf ts c<=lenOf ts m) zs)->Q (.bl d) H'
def Fw:Sp:=fun vs H Q _=>∃ w p ts,∃ g:aA p ts,∃(z:Int) (m:Nat) (D:Addr) (B:List Nat),vs=[.ref w,.int z,.int (m:Int),.ref D]/\bq H w p ts/\m<2^ts.length/\H D=some (.lst (aB B))/\B.length<=200/\∀ H' (d:Bool),au H H'->(d=true↔wk p ts g m B z)->Q (.bl d) H'
def Mr(CT CB CN t:Addr)(lp:Pos):Sp:=fun vs H Q E=>∃ w p ts,∃ g:aA p ts,∃(S:Int) (v:V),vs=[.ref w,.int S,v]/\bq H w p ts/\H t=some (.kQ (fS (tu "by_length") lp))/\g.N.az.length<=8/\ts.length<=9/\
 mR ts S (∀ H',au H H'->E (.ref CB) none H') fun m=>(g.N.Ring m->∃ pp l,zZ H v pp/\oQ p ts g l/\∀ H' (d:Bool),au H H'->(d=true↔z5 p ts g l m pp)->Q (.bl d) H')/\(¬ g.N.Ring m->∀ H',au H H'->E (.ref CN) none H')
theorem yl{p:Nat}{ts:List dF}{g:aA p ts}{ok:Nat->Prop}{zs:List Int}{bs:List Bool}(hl:bs.length=zs.length)(h:∀(i:Nat) (z:Int) (b:Bool),zs[i]?=some z->bs[i]?=some b->(b=true↔∃ c:Nat,z=(c:Int)/\c<2^ts.length/\g.N.Ring c/\ok c)):bs.all id=true↔sP p ts g ok zs:=by
 rw[List.all_eq_true]
 constructor
 ·intro hb z hz;obtain⟨i,hi⟩:=List.getElem?_of_mem hz;have xj:=(ny.mp hi).1;have e:bs[i]?=some bs[i]:=List.getElem?_eq_getElem (by lia)
  exact(h i z _ hi e).mp (hb _ (nv e))
 ·intro hz b hb;obtain⟨i,hi⟩:=List.getElem?_of_mem hb;have xj:=(ny.mp hi).1;have e:zs[i]?=some zs[i]:=List.getElem?_eq_getElem (by lia)
  exact(h i _ b e hi).mpr (hz _ (nv e))
theorem jr:Ok T T.jo 1 Fq:=by
 refine T.jo.ok fV fun _ A _ s H vs Q E hr h=>?_
 ·obtain⟨m,D,C,rfl,hD,Cl,q⟩:=h;refine⟨_,(ai (aG (i:=2) fV.nd rfl (Or.inl rfl) ah)
   (ai (eT PassesOwn.never rfl (u7 K (by rfl) T.lP (aa (pv 1) ae)) (HJ K (n:=2) rfl (bB (bH 3 fV.nd) (bB (bH 4 fV.nd) i8)))
   (ai (br (PW.pt (qS (aJ pZ (pv 3) ah (aH _)) (nG (aJ qW (pv 4) (aM (mW K) (pv 1) (aK iO (pv 3) ah)) (aH _))))) (aq (aF fM)) aQ)
   (aq (qU (i:=2) fV.nd rfl (Or.inl rfl) (pv 4) uT))))
   (aq (aF (bI bZ (pv 2) (pv 0) (aH _)))))),?_⟩
  refine vA ?_;intro ck cT dz eX gF;refine(ak rfl ⟨D,rfl,⟨_,aO.of hD⟩,wN (K:=K) (a:=D) (xs:=aB C) (fun i σ H2=>∃ v3 v4,σ=[some (.int (m:Int)),some (.ref D),some (.int ((xorL (C.take i):Nat):Int)),v3,v4]/\au H H2/\(C.take i).Pairwise (· < ·)) ⟨none,none,rfl,au.refl _,.nil⟩ (fun i σ H2 _ ⟨_,_,_,z,_⟩=>aO.of (z _ _ hD)) ?_ ?_⟩)
  ·rintro i x T0 σ H2 hx ⟨v3,v4,rfl,s2,up⟩ hT;obtain⟨c,mS,rfl⟩:=bM hx;have xj:=(ny.mp mS).1;have s3:au H2 (upd H2 T0 (.tup [.int (i:Int),.int (c:Int)])):=au.new hT;have Mm:upd H2 T0 (.tup [.int (i:Int),.int (c:Int)]) T0=some (.tup [.int (i:Int),.int (c:Int)]):=af;generalize upd H2 T0 (.tup [.int (i:Int),.int (c:Int)])=H3 at s3 Mm;have C7:=s2.trans s3;refine⟨T0,_,rfl,aY.of Mm,rfl,_,_,rfl,_,_,rfl,rfl,?_⟩;have next:(C.take (i+1)).Pairwise (· < ·)->∃ v3 v4,[some (V.int (m:Int)),some (V.ref D),some (V.int (Builtin.bitXor ((xorL (C.take i):Nat):Int) (c:Int))),some (V.int (i:Int)),some (V.int (c:Int))]=[some (.int (m:Int)),some (.ref D),some (.int ((xorL (C.take (i+1)):Nat):Int)),v3,v4]/\au H H3/\(C.take (i+1)).Pairwise (· < ·):=fun h=>by
    refine⟨some (V.int (i:Int)),some (V.int (c:Int)),?_,C7,h⟩;rw[xor_int,take3 mS,xorL_snoc]
   refine(ak rfl (bG (ak rfl (gr (fun h0=>?_) (fun h0=>?_)))))
   ·have h0:(0:Int)<(i:Int):=i6 h0;have hp:C[i-1]?=some C[i-1]:=List.getElem?_eq_getElem (by lia)
    have hv:(aB C)[i-1]?=some (.int ((C[i-1]:Nat):Int)):=by unfold aB;rw[List.getElem?_map,hp];rfl
    have hat:Am (aB C) ((i:Int)-1)=some (.int ((C[i-1]:Nat):Int)):=by
     rw[show(i:Int)-1=((i-1:Nat):Int) by lia]
     exact ao (j:=i-1) hv
    refine(ak rfl (ak rfl (ak rfl (bG (mF (aO.of (C7 _ _ hD)) (hat) (bG (ak rfl (gr (fun h1=>?_) (fun h1=>?_)))))))))
    ·have h1:(c:Int)<=(C[i-1]:Int):=i6 h1;refine q H3 false C7 ⟨(fun z=>nomatch z),fun⟨z,_⟩=>?_⟩
     have:=((wm mS).mp (z.sublist (List.take_sublist _ _))).2 _ (by lia) hp
     lia
    ·have h1 : ¬(c:Int)<=(C[i-1]:Int):=fun z=>h1 (cU z)
     refine(ak rfl (ak rfl (bG (next ((wm mS).mpr ⟨up,fun b _ hb=>?_⟩)))))
     rw[hp]at hb;rw[<-Option.some.inj hb]
     lia
   ·have h0 : ¬(0:Int)<(i:Int):=fun z=>h0 (cU z)
    exact bh (ak rfl (ak rfl (bG (next ((wm mS).mpr ⟨up,fun b h _=>by lia⟩)))))
  ·rintro σ H2 ⟨v3,v4,rfl,s2,up⟩;rw[aD,List.take_length]at up ⊢;refine(ak rfl (ak rfl ⟨rfl,?_⟩));refine q H2 _ s2 ?_;rw[decide_eq_true_iff];exact⟨fun e=>⟨up,by have:=V.int.inj e;lia⟩,fun e=>by rw[e.2]⟩
theorem eW:Ok T T.eV 9 Ft:=by
 have aS:=aS T;have cD:=cD T;refine T.eV.ok g5 fun _ A _ s H vs Q E hr h=>?_
 ·obtain⟨wb,p,ts,g,m,D,zs,rfl,hw,hm,hD,zl,q⟩:=h;refine⟨_,(ai (aG (i:=3) g5.nd rfl (Or.inr rfl) (aC aS hr T.b8.c gY (aa (pv 0) (aa (pv 1) ae))))
   (aq (aF (bj (LN K rfl) (by rfl) T.Ih PyProof.Rows.boot_all (aa (bw (own:=["other"]) (fq:=["web","length"]) (js:=[0,3]) (aI (aj cW) ["web","ring","rings","length"]) rfl (mE K (pv 2)) (fun _ _ _ _=>(bH 0 (l9 ["other","web","length"]))) (fun _ _ _ _=>cH) (fun _ _ _ _=>(fO (aC cD hr T.eK.c aL (aa (pv 1) (aa (pv 0) ae))) (g7 (bI nJ (aC aS hr T.b8.c gY (aa (pv 1) (aa (pv 0) ae))) (pv 2) (aH _)))))) ae))))),?_⟩
  refine dH ?_;intro ck;have W:=g.C5;refine(ak rfl (ak rfl ⟨wb,p,ts,_,rfl,hw,W,.inl ⟨m,rfl,hm,fun H1 s1=>?_⟩⟩))
  have p9:=s1 _ _ hD;refine(ak rfl ⟨D,rfl,⟨_,aO.of p9⟩,fun X hX=>aU (K:=K) (a:=D) (xs:=zs.map V.int) (fun i acc H2=>au H1 H2/\H2 X=some (.lst acc)/\∃ bs:List Bool,acc=bs.map V.bl/\bs.length=i/\∀(j:Nat) (z:Int) (b:Bool),zs[j]?=some z->bs[j]?=some b->(b=true↔∃ c:Nat,z=(c:Int)/\c<2^ts.length/\g.N.Ring c/\lenOf ts c<lenOf ts m)) ⟨au.new hX,af,[],rfl,rfl,fun j z b _ h=>by simp at h⟩ (fun i acc H2 _ z=>⟨aO.of (z.1 _ _ p9),z.2.1,?_⟩) (Nat.le_of_lt (cK (by rw[List.length_map];lia))) ?_ ?_⟩)
  ·obtain⟨bs,e,e2,_⟩:=z.2.2;rw[e,List.length_map,e2];exact Nat.le_refl _
  ·rintro i x acc H2 hx ⟨s2,hX2,bs,rfl,bl,hb⟩;rw[List.getElem?_map]at hx;obtain⟨z,hz,rfl⟩:=Ac.mp hx;have put:∀(b:Bool) H3,au H2 H3->(b=true↔∃ c:Nat,z=(c:Int)/\c<2^ts.length/\g.N.Ring c/\lenOf ts c<lenOf ts m)->H3 X=some (.lst (bs.map V.bl))/\au H1 (upd H3 X (.lst (bs.map V.bl++[V.bl b])))/\upd H3 X (.lst (bs.map V.bl++[V.bl b])) X=some (.lst (bs.map V.bl++[V.bl b]))/\∃ bs2:List Bool,bs.map V.bl++[V.bl b]=bs2.map V.bl/\bs2.length=i+1/\∀(j:Nat) (z:Int) (b:Bool),zs[j]?=some z->bs2[j]?=some b->(b=true↔∃ c:Nat,z=(c:Int)/\c<2^ts.length/\g.N.Ring c/\lenOf ts c<lenOf ts m):=fun b H3 s3 h=>by
    refine⟨s3 _ _ hX2,(s2.trans s3).put hX,af,bs++[b],by rw[List.map_append];rfl,by rw[List.length_append,bl];rfl,fun j y b' hy hb'=>?_⟩
    by_cases hj:j<bs.length
    ·rw[List.getElem?_append_left hj]at hb';exact hb j y b' hy hb'
    ·have e:j=i:=by
      have:=(ny.mp hb').1;rw[List.length_append,List.length_singleton]at this
      lia
     subst e;rw[hz]at hy;rw[List.getElem?_append_right (by lia),bl,Nat.sub_self]at hb'
     rw[<-Option.some.inj hy,<-Option.some.inj hb'];exact h
   refine⟨rfl,ak rfl (ak rfl ⟨wb,p,ts,g,z,rfl,hw.same (s1.trans s2),fun H3 d s3 hd=>(ak rfl (?_))⟩)⟩
   cases d with
   | false =>
     refine bh (put false H3 s3 ⟨(fun z=>nomatch z),fun⟨c,h1,h2,h3,_⟩=>?_⟩)
     exact absurd (hd.mpr ⟨c,h1,h2,h3⟩) (by decide)
   | true =>
     obtain⟨c,rfl,c1,c2⟩:=hd.mp rfl;refine bQ (ak rfl (ak rfl ⟨wb,p,ts,_,rfl,hw.same ((s1.trans s2).trans s3),W,.inl ⟨c,rfl,c1,fun H4 s4=>(ak rfl (bG (?_)))⟩⟩))
     refine put _ H4 (s3.trans s4) ?_;rw[decide_eq_true_iff];refine⟨fun h=>⟨c,rfl,c1,c2,h⟩,fun⟨c',e,_,_,h⟩=>?_⟩
     have:c=c':=by lia
     subst this;exact h
  ·rintro acc H2 ⟨s2,hX2,bs,rfl,bl,hb⟩;rw[List.length_map]at bl;exact⟨X,bs,rfl,aO.of hX2,q H2 _ (s1.trans s2) (yl bl hb)⟩
theorem gm:Ok T T.gb 9 Fv:=by
 have aS:=aS T;have cD:=cD T;refine T.gb.ok iX fun _ A _ s H vs Q E hr h=>?_
 ·obtain⟨wb,p,ts,g,m,D,zs,rfl,hw,hm,hD,zl,q⟩:=h;refine⟨_,(ai (aG (i:=3) iX.nd rfl (Or.inr rfl) (aC aS hr T.b8.c gY (aa (pv 0) (aa (pv 1) ae))))
   (ai (br (aJ (RK K) (pv 1) (pv 2) (by with_unfolding_all rfl)) (aq (aF fM)) aQ)
   (aq (aF (bj (LN K rfl) (by rfl) T.Ih PyProof.Rows.boot_all (aa (bw (own:=["other"]) (fq:=["web","length"]) (js:=[0,3]) (aI (aj dQ) ["web","ring","rings","length"]) rfl (mE K (pv 2)) (fun _ _ _ _=>(bH 0 (l9 ["other","web","length"]))) (fun _ _ _ _=>cH) (fun _ _ _ _=>(fO (aC cD hr T.eK.c aL (aa (pv 1) (aa (pv 0) ae))) (g7 (bI qW (aC aS hr T.b8.c gY (aa (pv 1) (aa (pv 0) ae))) (pv 2) (aH _)))))) ae)))))),?_⟩
  refine iY ?_;intro ck cT dz;have W:=g.C5;refine(ak rfl (ak rfl ⟨wb,p,ts,_,rfl,hw,W,.inl ⟨m,rfl,hm,fun H1 s1=>?_⟩⟩))
  have p9:=s1 _ _ hD;refine(ak rfl (ak rfl (m5 rfl (.inl (aO.of p9)) ⟨rfl,z7 zs,_,rfl,?_⟩)));rw[if_neg Bool.false_ne_true,CV]
  by_cases hin:(m:Int)∈zs
  ·rw[cU hin];refine bQ (q H1 false s1 ⟨(fun z=>nomatch z),fun h=>?_⟩)
   obtain⟨c,e,_,_,h2,_⟩:=h _ hin
   lia
  rw[ff hin];refine bh ?_;refine(ak rfl ⟨D,rfl,⟨_,aO.of p9⟩,fun X hX=>aU (K:=K) (a:=D) (xs:=zs.map V.int) (fun i acc H2=>au H1 H2/\H2 X=some (.lst acc)/\∃ bs:List Bool,acc=bs.map V.bl/\bs.length=i/\∀(j:Nat) (z:Int) (b:Bool),zs[j]?=some z->bs[j]?=some b->(b=true↔∃ c:Nat,z=(c:Int)/\c<2^ts.length/\g.N.Ring c/\lenOf ts c<=lenOf ts m)) ⟨au.new hX,af,[],rfl,rfl,fun j z b _ h=>by simp at h⟩ (fun i acc H2 _ z=>⟨aO.of (z.1 _ _ p9),z.2.1,?_⟩) (Nat.le_of_lt (cK (by rw[List.length_map];lia))) ?_ ?_⟩)
  ·obtain⟨bs,e,e2,_⟩:=z.2.2;rw[e,List.length_map,e2];exact Nat.le_refl _
  ·rintro i x acc H2 hx ⟨s2,hX2,bs,rfl,bl,hb⟩;rw[List.getElem?_map]at hx;obtain⟨z,hz,rfl⟩:=Ac.mp hx;have put:∀(b:Bool) H3,au H2 H3->(b=true↔∃ c:Nat,z=(c:Int)/\c<2^ts.length/\g.N.Ring c/\lenOf ts c<=lenOf ts m)->H3 X=some (.lst (bs.map V.bl))/\au H1 (upd H3 X (.lst (bs.map V.bl++[V.bl b])))/\upd H3 X (.lst (bs.map V.bl++[V.bl b])) X=some (.lst (bs.map V.bl++[V.bl b]))/\∃ bs2:List Bool,bs.map V.bl++[V.bl b]=bs2.map V.bl/\bs2.length=i+1/\∀(j:Nat) (z:Int) (b:Bool),zs[j]?=some z->bs2[j]?=some b->(b=true↔∃ c:Nat,z=(c:Int)/\c<2^ts.length/\g.N.Ring c/\lenOf ts c<=lenOf ts m):=fun b H3 s3 h=>by
    refine⟨s3 _ _ hX2,(s2.trans s3).put hX,af,bs++[b],by rw[List.map_append];rfl,by rw[List.length_append,bl];rfl,fun j y b' hy hb'=>?_⟩
    by_cases hj:j<bs.length
    ·rw[List.getElem?_append_left hj]at hb';exact hb j y b' hy hb'
    ·have e:j=i:=by
      have:=(ny.mp hb').1;rw[List.length_append,List.length_singleton]at this
      lia
     subst e;rw[hz]at hy;rw[List.getElem?_append_right (by lia),bl,Nat.sub_self]at hb'
     rw[<-Option.some.inj hy,<-Option.some.inj hb'];exact h
   refine⟨rfl,ak rfl (ak rfl ⟨wb,p,ts,g,z,rfl,hw.same (s1.trans s2),fun H3 d s3 hd=>(ak rfl (?_))⟩)⟩
   cases d with
   | false =>
     refine bh (put false H3 s3 ⟨(fun z=>nomatch z),fun⟨c,h1,h2,h3,_⟩=>?_⟩)
     exact absurd (hd.mpr ⟨c,h1,h2,h3⟩) (by decide)
   | true =>
     obtain⟨c,rfl,c1,c2⟩:=hd.mp rfl;refine bQ (ak rfl (ak rfl ⟨wb,p,ts,_,rfl,hw.same ((s1.trans s2).trans s3),W,.inl ⟨c,rfl,c1,fun H4 s4=>(ak rfl (bG (?_)))⟩⟩))
     refine put _ H4 (s3.trans s4) ?_;rw[decide_eq_true_iff];refine⟨fun h=>⟨c,rfl,c1,c2,h⟩,fun⟨c',e,_,_,h⟩=>?_⟩
     have:c=c':=by lia
     subst this;exact h
  ·rintro acc H2 ⟨s2,hX2,bs,rfl,bl,hb⟩;rw[List.length_map]at bl;refine⟨X,bs,rfl,aO.of hX2,q H2 _ (s1.trans s2) ((yl bl hb).trans ⟨fun h z hz=>?_,fun h z hz=>?_⟩)⟩
   ·obtain⟨c,e,h1,h2,h3⟩:=h z hz;exact⟨c,e,h1,h2,fun z=>hin (by rw[<-z,<-e];exact hz),h3⟩
   ·obtain⟨c,e,h1,h2,_,h3⟩:=h z hz;exact⟨c,e,h1,h2,h3⟩
theorem iF:Ok T T.iD 5 Fw:=by
 have gj:=gj T;have gX:=gX T;refine T.iD.ok tH fun _ A _ s H vs Q E hr h=>?_
 ·obtain⟨wb,p,ts,g,z,m,D,B,rfl,hw,hm,hD,Bl,q⟩:=h;refine⟨_,(ai (br (PW.pt (i7 (fN (cF (aC gj hr T.lK.c aL (aa (pv 0) (aa (pv 1) ae))))) (j6 (fN (cF (aC gX hr T.gU.c aL (aa (pv 2) (aa (pv 1) ae)))))))) (aq (aF fM)) aQ)
   (aq (aF (yv (bj (OO K rfl) (by rfl) T.Mb PyProof.Rows.boot_any (aa (bw (own:=["other"]) (fq:=["marks"]) (js:=[1]) (aI (aj iA) ["web","marks","ring","rings"]) rfl (mE K (pv 3)) (fun _ _ _ _=>(bH 0 (l9 ["other","marks"]))) (fun _ _ _ _=>cH) (fun _ _ _ _=>(aC gX hr T.gU.c aL (aa (pv 0) (aa (pv 1) ae))))) ae)))))),?_⟩
  refine gR ?_;intro ck cT;have W:=g.C5;have wl:=g.len;have h2:((2:Int)^ts.length)=((2^ts.length:Nat):Int):=by simp
  refine(ak rfl (ak rfl ⟨wb,p,ts,z,rfl,hw,W,_,rfl,?_⟩))
  by_cases hz:0<=z/\z<2^ts.length
  case neg =>
   rw[ff hz];refine bQ (q H false (au.refl _) ⟨(fun z=>nomatch z),fun⟨M,e,hM,_⟩=>absurd ⟨by lia,by lia⟩ hz⟩)
  rw[cU hz];obtain⟨M,rfl⟩:∃ M:Nat,z=(M:Int):=⟨z.toNat,by lia⟩
  have hM:M<2^ts.length:=by lia
  have Il:∀ e:Nat,Builtin.Int.intBits ((e&&&M:Nat):Int)<=1000:=fun e=>Nat.le_trans (bits_le (Nat.and_lt_two_pow _ hM)) (by lia)
  refine bh (ak rfl (ak rfl ⟨_,_,m,M,rfl,rfl,rfl,Il m,fun H1 s1=>(ak rfl (?_))⟩))
  rw[AO (g:=g) hM];cases hb:g.N.par m M with
  | false =>
    refine bQ (q H1 false s1 ⟨(fun z=>nomatch z),fun⟨M',e,_,h,_⟩=>?_⟩)
    have:M=M':=by lia
    rw[<-this,hb]at h;cases h
  | true =>
    refine bh ?_;have p9:=s1 _ _ hD;refine(ak rfl ⟨D,rfl,⟨_,aO.of p9⟩,fun X hX=>aU (K:=K) (a:=D) (xs:=aB B) (fun i acc H2=>au H1 H2/\H2 X=some (.lst acc)/\acc=((B.take i).map fun b=>g.N.par b M).map V.bl) ⟨au.new hX,af,rfl⟩ (fun i acc H2 _ z=>⟨aO.of (z.1 _ _ p9),z.2.1,by rw[z.2.2,List.length_map,List.length_map,List.length_take];lia⟩) (Nat.le_of_lt (cK (by rw[aD];lia))) ?_ ?_⟩)
    ·rintro i x acc H2 hx ⟨s2,hX2,rfl⟩;obtain⟨c,mS,rfl⟩:=bM hx;refine⟨rfl,ak rfl (ak rfl ⟨_,_,c,M,rfl,rfl,rfl,Il c,fun H3 s3=>⟨s3 _ _ hX2,(s2.trans s3).put hX,af,?_⟩⟩)⟩
     rw[AO (g:=g) hM,take3 mS,List.map_append,List.map_append];rfl
    ·rintro acc H2 ⟨s2,hX2,rfl⟩;rw[aD,List.take_length]at hX2;refine⟨X,_,rfl,aO.of hX2,?_⟩;refine(ak rfl (q H2 _ (s1.trans s2) ?_));rw[Bool.not_eq_true',List.any_eq_false]
     constructor
     ·intro h;refine⟨M,rfl,hM,hb,fun b C6=>?_⟩
      have:=h _ (List.mem_map.mpr ⟨b,C6,rfl⟩);exact Hx.mpr this
     ·rintro⟨M',e,_,_,h⟩ x hx;obtain⟨b,C6,rfl⟩:=List.mem_map.mp hx;have:M=M':=by lia
      subst this;rw[h b C6]
      decide
theorem c8:CK T T.gf 12 (Mr a.fH a.aR a.aV a.cA bX):=by
 have cz:=cz T;have eN:=eN T;have cN:=cN T;have dI:=dI T;have jr:=jr T;have eW:=eW T;have gm:=gm T;have iF:=iF T;refine T.gf.yH qi fun _ A _ s H vs Q E hr h=>?_
 ·obtain⟨wb,p,ts,g,S,v,rfl,hw,htb,h8,h9,q⟩:=h;refine⟨_,(ai (dc (aC cz hr T.fZ.c eg.passes (aa (pv 0) ae)))
   (ai (dc (aC eN hr T.iB.c eg.passes (aa (pv 0) (aa (pv 1) ae))))
   (ai (br (aJ bZ (aM (cu K) (pv 2) ah) cJ (aH _)) (aq (aF (fO (aC eW hr T.eV.c aL (aa (pv 0) (aa (pv 1) (aa (aM (cu K) (pv 2) ah) ae)))) (g7 (aC jr hr T.jo.c aL (aa (pv 1) (aa (aM (cu K) (pv 2) ah) ae))))))) aQ)
   (ai (br (aJ bZ (aM (cu K) (pv 2) ah) cJ (aH _)) (aq (aF (aC iF hr T.iD.c aL (aa (pv 0) (aa (aM (cu K) (pv 2) ah) (aa (pv 1) (aa (aC dI hr T.gV.c aL (aa (pv 0) (aa (pv 1) ae))) ae))))))) aQ)
   (ai (br (fN (cF (aC iF hr T.iD.c aL (aa (pv 0) (aa (aM (cu K) (pv 2) ah) (aa (pv 1) (aa (aC cN hr T.fm.c aL (aa (pv 0) (aa (pv 1) ae))) ae))))))) (aq (aF fM)) aQ)
   (aq (aF (fO (aC gm hr T.gb.c aL (aa (pv 0) (aa (pv 1) (aa (aM (cu K) (pv 2) ah) ae)))) (g7 (aC jr hr T.jo.c aL (aa (pv 1) (aa (aM (cu K) (pv 2) ah) ae)))))))))))),?_⟩
  refine qj ?_;intro ck cT dz eX gF mP qa uN;refine(ak rfl ⟨wb,p,ts,g,rfl,hw,.inl ⟨h8,fun H1 s1=>?_⟩⟩)
  refine(ak rfl (ak rfl ⟨wb,p,ts,g,S,rfl,hw.same s1,?_⟩));rcases q with⟨m,rfl,hm,q1,q2⟩|⟨hS,q⟩
  case inr=>exact .inr ⟨hS,fun H' s'=>q H' (s1.trans s')⟩
  refine .inl ⟨m,rfl,hm,fun r H2 s2=>?_,fun r H2 s2=>q2 r H2 (s1.trans s2)⟩
  have s12:=s1.trans s2;obtain⟨pp,l,hv,R,q⟩:=q1 r;clear q1 q2;cases pp with
  | nn zs =>
    obtain⟨c,D,rfl,hc,hD,zl⟩:=hv;refine(ak rfl (bU (aY.of (s12 _ _ hc)) (ao (j:=0) rfl) ⟨rfl,ak rfl (bQ ?_)⟩));refine(ak rfl (ak rfl (ak rfl (bU (aY.of (s12 _ _ hc)) (ao (j:=1) rfl) ⟨wb,p,ts,g,m,D,zs,rfl,hw.same s12,hm,s12 _ _ hD,zl,fun H3 d s3 hd=>(ak rfl (?_))⟩))))
    have i5:=s12.trans s3;cases d with
    | false =>
      refine bh (q H3 false i5 ⟨(fun z=>nomatch z),fun h=>absurd (hd.mpr fun z hz=>?_) (by decide)⟩)
      obtain⟨c,e,h1,h2,_,h3⟩:=yk h z hz;exact⟨c,e,h1,h2,h3⟩
    | true =>
      obtain⟨C,rfl,hC⟩:=(hd.mp rfl).cast;rw[List.length_map]at zl;refine bQ (ak rfl (ak rfl (bU (aY.of (i5 _ _ hc)) (ao (j:=1) rfl) ⟨m,D,C,rfl,by rw[eA];exact i5 _ _ hD,zl,fun H4 d2 s4 hd2=>q H4 d2 (i5.trans s4) (hd2.trans (wo fun c hc=>?_))⟩)))
      obtain⟨h1,h2,h3⟩:=hC c hc;exact⟨h1,h2,fun e=>by rw[e]at h3;lia,h3⟩
  | ss z zs =>
    obtain⟨c,D,rfl,hc,hD,zl⟩:=hv;refine(ak rfl (bU (aY.of (s12 _ _ hc)) (ao (j:=0) rfl) ⟨rfl,ak rfl (bh ?_)⟩));refine(ak rfl (bU (aY.of (s12 _ _ hc)) (ao (j:=0) rfl) ⟨rfl,ak rfl (bh ?_)⟩));refine(ak rfl (ak rfl (bU (aY.of (s12 _ _ hc)) (ao (j:=1) rfl) (ak rfl (ak rfl (ak rfl ⟨wb,p,ts,g,m,rfl,hw.same s12,hm,s12 _ _ htb,h8,h9,fun X l' H3 hX s3 iL R'=>?_⟩))))))
    obtain rfl:l' = l:=R'.uniq R;have F0:=R.few h9;have shl:(sN ts l' m).length<=l'.length:=List.length_filter_le _ _;have i5:=s12.trans s3;refine⟨wb,p,ts,g,z,m,X,_,rfl,hw.same i5,hm,iL,by lia,fun H4 d s4 hd=>(ak rfl (?_))⟩
    have z8:=i5.trans s4;cases d with
    | false=>exact bQ (q H4 false z8 ⟨(fun z=>nomatch z),fun h=>absurd (hd.mpr h.1) (by decide)⟩)
    | true =>
      have OZ:=hd.mp rfl;refine bh (ak rfl (ak rfl (ak rfl (bU (aY.of (z8 _ _ hc)) (ao (j:=2) rfl) ⟨wb,p,ts,g,m,D,zs,rfl,hw.same z8,hm,z8 _ _ hD,zl,fun H5 d s5 hd=>(ak rfl (?_))⟩))))
      have F1:=z8.trans s5;cases d with
      | false=>exact bh (q H5 false F1 ⟨(fun z=>nomatch z),fun h=>absurd (hd.mpr (yk h.2)) (by decide)⟩)
      | true =>
        obtain⟨C,rfl,hC⟩:=(hd.mp rfl).cast;rw[List.length_map]at zl;exact bQ (ak rfl (ak rfl (bU (aY.of (F1 _ _ hc)) (ao (j:=2) rfl) ⟨m,D,C,rfl,by rw[eA];exact F1 _ _ hD,zl,fun H6 d2 s6 hd2=>q H6 d2 (F1.trans s6) ((hd2.trans (wo hC)).trans ⟨fun h=>⟨OZ,h⟩,fun h=>h.2⟩)⟩)))
  | ee z =>
    obtain⟨c,rfl,hc⟩:=hv;refine(ak rfl (bU (aY.of (s12 _ _ hc)) (ao (j:=0) rfl) ⟨rfl,ak rfl (bh ?_)⟩));refine(ak rfl (bU (aY.of (s12 _ _ hc)) (ao (j:=0) rfl) ⟨rfl,ak rfl (bQ ?_)⟩));refine(ak rfl (ak rfl (bU (aY.of (s12 _ _ hc)) (ao (j:=1) rfl) (ak rfl (ak rfl (ak rfl ⟨wb,p,ts,g,m,rfl,hw.same s12,hm,s12 _ _ htb,h8,h9,fun X l' H3 hX s3 iL R'=>?_⟩))))))
    obtain rfl:l' = l:=R'.uniq R;have F0:=R.few h9;have OV:(sO ts l' m).length<=l'.length:=List.length_filter_le _ _;have i5:=s12.trans s3;exact⟨wb,p,ts,g,z,m,X,_,rfl,hw.same i5,hm,iL,by lia,fun H4 d s4 hd=>q H4 d (i5.trans s4) hd⟩
def Hh(K:bO):Sp:=fun vs H Q _=>∃(a:Addr) (ns:List Int) (k:Int),vs=[.ref a,.int k]/\0<=k/\aO K H a (ns.map V.int)/\∀ z,Q (.int z) H
def Fx:Sp:=fun vs H Q _=>∃(c k:Int),vs=[.int c,.int k]/\0<=k/\k<=1000/\∀ z,0<=z->z<1000000007->Q (.int z) H
def Hi:Sp:=fun vs H Q _=>∃(c:Int) (k:Nat),vs=[.int c,.int (k:Int)]/\∀ z,1<=z->z<=1000000000000000000000000000000->Q (.int z) H
def JQ:Sp:=fun vs H Q _=>∃(c:Int) (p m:Nat),vs=[.int c,.int (p:Int),.int (m:Int)]/\2<=p/\p<=10/\∀ t b H',au H H'->nW (p:Int) t->H' b=some (.tup (GB t))->Q (.ref b) H'
def JR(K:bO):Sp:=fun vs H Q _=>∃(a:Addr) (ns:List Int) (mt rk:Nat),vs=[.ref a,.int (mt:Int),.int (rk:Int)]/\aO K H a (ns.map V.int)/\ns.length<=63/\mt<=24/\
 ∀ w p ts H',au H H'->aA p ts->2<=p->p<=6->ts.length<=mt->bq H' w p ts->Q (.ref w) H'
def Ms(H:Hp)(D:Addr)(n p:Nat):Prop:=∃ ks:List Nat,H D=some (.lst (aB ks))/\ks.length=n/\∀ k∈ks,k<p
theorem dJ:Ok T T.gW 1 (Hh K):=by
 refine T.gW.ok sC fun _ A _ s H vs Q E hr h=>?_
 ·obtain⟨b,ns,k,rfl,hk0,hS,q⟩:=h;refine⟨_,(ai (br (aJ nJ (pv 1) (cg K T.c9 (aa (pv 0) ae)) (aH _)) (aq (aF (aM (mW K) (pv 0) (pv 1)))) aQ)
   (aq (aF ah))),?_⟩
  refine gR ?_;intro ck cT;refine(ak rfl (ak rfl ⟨b,_,rfl,.inl hS,_,_,rfl,rfl,ak rfl (gr (fun hlt=>?_) (fun _=>q 0))⟩))
  have hlt:=i6 hlt;rw[List.length_map]at hlt;obtain⟨k,rfl⟩:=Int.eq_ofNat_of_zero_le hk0;exact(ak rfl (ak rfl ⟨b,_,_,_,rfl,rfl,hS,ao (j:=k) (GD (by lia)),q _⟩))
theorem cQ:Ok T T.eF 1 Fx:=by
 refine T.eF.ok kr fun _ A _ s H vs Q E hr h=>?_
 ·obtain⟨c,k,rfl,hk,hk2,q⟩:=h;refine⟨_,(ai (aG (i:=2) kr.nd rfl (Or.inl rfl) (aK eU (aK cR (pv 0) ah) (aK uQ ah (pv 1))))
   (ai (aG (i:=3) kr.nd rfl (Or.inl rfl) (aK cR (aK uQ (aK eU (pv 2) ah) (aK eU (pv 2) ah)) ah))
   (aq (aF (aK nI (aK cR (aK uQ (pv 3) (pv 3)) ah) ah))))),?_⟩
  refine ji ?_;intro ck cT;have h1:=mK c 1000000007 (by decide)
  refine(ak rfl (bG ⟨(mV rfl),ak rfl (bG ⟨.inl ⟨by decide,by decide⟩,bG (?_)⟩)⟩))
  refine(ak rfl (bG (ak rfl (bG (bG ⟨.inl ⟨by lia,by lia⟩,bG ⟨(mV rfl),?_⟩⟩)))))
  have h2:=mK ((c%1000000007+7919*k+11)*(c%1000000007+7919*k+48271)) 998244353 (by decide)
  dsimp only;generalize (c%1000000007+7919*k+11)*(c%1000000007+7919*k+48271)%998244353=st at h2;refine(ak rfl (ak rfl (bG ⟨.inl ⟨by lia,by lia⟩,bG ⟨(mV rfl),bG ⟨⟨by decide,by decide⟩,?_⟩⟩⟩)))
  have h3:=mK (st*st) 1000000007 (by decide)
  dsimp only;generalize st*st%1000000007=y at h3;exact q _ (by lia) (by lia)
theorem kO:Ok T T.kI 1 Hi:=by
 refine T.kI.ok tI fun _ A _ s H vs Q E hr h=>?_
 ·obtain⟨c,k,rfl,q⟩:=h;refine⟨_,(ai (br (aJ bZ (pv 1) ah (aH _)) (aq (aF (aK eU ah (aK cR (pv 0) ah)))) aQ)
   (ai (br (aJ bZ (pv 1) ah (aH _)) (aq (aF (aK eU ah (aK cR (pv 0) ah)))) aQ)
   (aq (aF (aK eU ah (aK cR (pv 0) (aK Dw ah ah))))))),?_⟩
  refine tJ ?_;intro ck cT dz eX;have h9:=mK c 9 (by decide)
  have h3:=mK c 3 (by decide)
  have VJ:=mK c (10^(30:Int).toNat) (by decide)
  have e:(10:Int)^(30:Int).toNat=1000000000000000000000000000000:=by decide
  refine(ak rfl ⟨rfl,ak rfl (gr (fun _=>(ak rfl (bG ⟨(mV rfl),bG (q _ (by lia) (by lia))⟩))) (fun _=>(ak rfl ⟨rfl,ak rfl (gr (fun _=>(ak rfl (bG ⟨(mV rfl),bG (q _ (by lia) (by lia))⟩))) (fun _=>(ak rfl (bG ⟨⟨by decide,by decide,by decide⟩,bG ⟨(mV (by decide)),bG (q _ (by lia) (by lia))⟩⟩))))⟩)))⟩)
theorem pW:Ok T T.pT 2 JQ:=by
 have kO:=kO T;refine T.pT.ok kA fun _ A _ s H vs Q E hr h=>?_
 ·obtain⟨c,p,m,rfl,hp,Pp,q⟩:=h;refine⟨_,(ai (aG (i:=3) kA.nd rfl (Or.inl rfl) (aK cR (pv 0) (pv 1)))
   (ai (aG (i:=0) kA.nd rfl (Or.inl rfl) (aK nI (pv 0) (pv 1)))
   (ai (aG (i:=4) kA.nd rfl (Or.inl rfl) (aK cR (aK eU (aK eU (pv 3) ah) (aK cR (pv 0) (aK iO (pv 1) ah))) (pv 1)))
   (aq (aF (g8 (aa (pv 3) (aa (pv 4) (aa (aC kO hr T.kI.c aL (aa (aK nI (pv 0) (aK iO (pv 1) ah)) (aa (pv 2) ae))) ae))))))))),?_⟩
  refine zu ?_;intro ck cT dz;obtain⟨h1,h2⟩:=mK c (p:Int) (by lia)
  obtain⟨h3,h4⟩:=mK (c/(p:Int)) ((p:Int)-1) (by lia)
  obtain⟨g1,g2,g3⟩:=D0 h1 h2 h3 h4;refine(ak rfl (ak rfl (bG ⟨(by lia),?_⟩)))
  refine(ak rfl (ak rfl (bG ⟨⟨by lia,by lia⟩,?_⟩)))
  refine(ak rfl (bG (ak rfl (ak rfl (bG (bG ⟨(by lia),bG (ak rfl (bG ⟨(by lia),?_⟩))⟩))))))
  refine(ak rfl (ak rfl (ak rfl (ak rfl (bG (bG ⟨⟨by lia,by lia⟩,ak rfl ⟨_,m,rfl,fun z hz hz2=>⟨dl rfl,fun b hb=>?_⟩⟩⟩))))))
  exact q (_,_,z) b _ (au.new hb) ⟨h1,h2,g1,g2,g3,hz,hz2⟩ af
theorem pX:Ok T T.pU 3 (JR K):=by
 have dJ:=dJ T;have cQ:=cQ T;have pW:=pW T;refine T.pU.ok bA fun _ A _ s H vs Q E hr h=>?_
 ·obtain⟨b,ns,mt,rk,rfl,hS,hn,hmt,q⟩:=h;refine⟨_,(ai (aG (i:=3) bA.nd rfl (Or.inr rfl) (aC dJ hr T.gW.c aL (aa (pv 0) (aa ah ae))))
   (ai (aG (i:=4) bA.nd rfl (Or.inl rfl) (aK eU ah (aK cR (pv 3) ah)))
   (ai (aG (i:=5) bA.nd rfl (Or.inl rfl) (aK cR (aK nI (pv 3) ah) ah))
   (ai (aG (i:=6) bA.nd rfl (Or.inl rfl) (k8 (Lv K) (pv 0) (nL ah) nK))
   (ai (br (aJ bZ (aK cR (aK nI (pv 3) ah) ah) ah (aH _)) (ai (lW (i:=6) bA.nd rfl rfl (own:=["k","cell"]) (fq:=[]) (js:=[]) (aI (aj gI) ["script","most","ranked","head","points","way","cells","ties","marks","free","cell","tie","joined","old"]) rfl (u7 K (by rfl) T.lP (aa (k8 (Lv K) (pv 0) (nL ah) nK) ae)) (fun _ _ _ _=>(HJ K (n:=2) rfl (bB (bH 0 (l9 ["k","cell"])) (bB (bH 1 (l9 ["k","cell"])) i8)))) (fun _ _ _ _=>cH) (fun _ _ _ _=>(aC cQ hr T.eF.c aL (aa (pv 1) (aa (pv 0) ae)))))
   (aq (dc (G5 K (nN PySem.F.plainAttrs_list PySem.F.slot_list_extend PySem.F.type_list_extend Bu (pv 6) (aa (bw (own:=["k"]) (fq:=["head"]) (js:=[3]) (aI (aj gI) ["script","most","ranked","head","points","way","cells","ties","marks","free","cell","tie","joined","old"]) rfl (cB (by rfl) T.cX (aa ah ae)) (fun _ _ _ _=>(bH 0 (l9 ["k","head"]))) (fun _ _ _ _=>cH) (fun _ _ _ _=>(aC cQ hr T.eF.c aL (aa (pv 1) (aa (aK eU ah (pv 0)) ae))))) ae)))))) aQ)
   (ai (aG (i:=7) bA.nd rfl (Or.inl rfl) (ef ae))
   (ai (aG (i:=8) bA.nd rfl (Or.inr rfl) (bw (own:=["point"]) (fq:=[]) (js:=[]) (aI (aj gI) ["script","most","ranked","head","points","way","cells","ties","marks","free","cell","tie","joined","old"]) rfl (cB (by rfl) T.cX (aa (pv 4) ae)) (fun _ _ _ _=>(bH 0 (l9 ["point"]))) (fun _ _ _ _=>cH) (fun _ _ _ _=>(pv 0))))
   (ai (aG (i:=9) bA.nd rfl (Or.inl rfl) ah)
   (ai (eT PassesOwn.never rfl (mE K (pv 6)) (bH 10 bA.nd)
   (ai (aG (i:=11) bA.nd rfl (Or.inr rfl) (aC pW hr T.pT.c aL (aa (pv 10) (aa (pv 4) (aa (pv 5) ae)))))
   (ai (aG (i:=12) bA.nd rfl (Or.inl rfl) (bI qV (aM (mW K) (pv 8) (aM (cu K) (pv 11) ah)) (aM (mW K) (pv 8) (aM (cu K) (pv 11) ah)) (aH _)))
   (aq (br (PW.pt (qS (aJ nJ (cg K T.c9 (aa (pv 7) ae)) (pv 1) (aH _)) (nG (PW.pt (i7 (cF (pv 12)) (j6 (aJ nJ (pv 9) (pv 2) (aH _)))))))) (ai (dc (G5 K (nN PySem.F.plainAttrs_list PySem.F.slot_list_append PySem.F.type_list_append gx (pv 7) (aa (pv 11) ae))))
   (ai (aG (i:=9) bA.nd rfl (Or.inl rfl) (aK eU (pv 9) (dD lV (by rfl) T.yc PyProof.Rows.boot_int (aa (yv (pv 12)) ae))))
   (ai (aG (i:=13) bA.nd rfl (Or.inr rfl) (aM (mW K) (pv 8) (aM (cu K) (pv 11) ah)))
   (aq (aG (i:=8) bA.nd rfl (Or.inr rfl) (bw (own:=["mark"]) (fq:=["marks","tie","old"]) (js:=[8,11,13]) (aI (aj gI) ["script","most","ranked","head","points","way","cells","ties","marks","free","cell","tie","joined","old"]) rfl (mE K (pv 8)) (fun _ _ _ _=>(bH 0 (l9 ["mark","marks","tie","old"]))) (fun _ _ _ _=>cH) (fun _ _ _ _=>(aM (mW K) (ef (aa (pv 0) (aa (aM (mW K) (pv 1) (aM (cu K) (pv 2) ah)) ae))) (dD lV (by rfl) T.yc PyProof.Rows.boot_int (aa (bI bZ (pv 0) (pv 3) (aH _)) ae)))))))))) aQ)))))
   (aq (aF (g8 (aa (pv 4) (aa (dD (Lu K) (by rfl) T.A6 PyProof.Rows.boot_tuple (aa (pv 7) ae)) ae)))))))))))))),?_⟩
  refine zw ?_;intro ck cT dz eX gF mP qa uN A5 ER ES Cf ET EU EV EW EX L7;refine(ak rfl ⟨b,ns,0,rfl,(by decide),hS,fun z=>?_⟩)
  refine(ak rfl (bG ⟨(mV rfl),bG (?_)⟩));obtain⟨p,hp,p1,p2⟩:∃ p:Nat,2+z%5=(p:Int)/\2<=p/\p<=6:=by
   obtain⟨h1,h2⟩:=mK z 5 (by decide)
   exact⟨(2+z%5).toNat,by lia,by lia,by lia⟩
  dsimp only;rw[hp];refine(ak rfl (bG ⟨⟨by decide,by decide⟩,bG ⟨(mV rfl),?_⟩⟩))
  obtain⟨wy,Th⟩:∃ y:Nat,z/5%3=(y:Int):=by
   obtain⟨h1,h2⟩:=mK (z/5) 3 (by decide)
   exact⟨(z/5%3).toNat,by lia⟩
  dsimp only;rw[Th];refine(ak rfl (ak rfl ⟨b,_,rfl,hS,fun c hc=>?_⟩))
  have JS:=DJ ns (some 1) none;have hml:((ns.drop (HT.o4 ns.length 0 (some 1))).take (HT.o4 ns.length ns.length none-HT.o4 ns.length 0 (some 1))).length<=63:=by
   rw[List.length_take,List.length_drop]
   lia
  generalize (ns.drop (HT.o4 ns.length 0 (some 1))).take (HT.o4 ns.length ns.length none-HT.o4 ns.length 0 (some 1))=ms at JS hml;rw[JS];have cont:∀(c1:Addr) (ms1:List Int) (H1:Hp),au H H1->H1 c1=some (.lst (ms1.map V.int))->Cf { nx:=fun _ H'=>Q V.fL H',rt:=Q} [some (.ref b),some (.int (mt:Int)),some (.int (rk:Int)),some (.int z),some (.int (p:Int)),some (.int (wy:Int)),some (.ref c1),none,none,none,none,none,none,none] H1:=by
   intro c1 ms1 H1 s1 hc1;refine⟨dl rfl,fun L hL=>?_⟩
   have t2:qg (p:Int) H1 L 0 (upd H1 L (.lst [])):=.start hL;generalize upd H1 L (.lst [])=H2 at t2;refine(ak rfl (ak rfl ⟨(by lia),(by lia),fun M hM=>dh (lo:=0) (m:=(p:Int).toNat) (nV (fun _=>true) H2 M) (.start hM) (fun i acc H3 _ pk=>pk.len) (dP (by lia)) ?_ ?_⟩))
   ·intro i acc H3 hi pk;rw[Int.zero_add];exact⟨rfl,ak rfl (pk.yes hM (au.refl _) rfl)⟩
   intro acc H3 pk;have b3:Ms H3 M p p:=by
    refine⟨(List.range p).filter (fun _=>true),by rw[pk.2.1,pk.2.2,Int.toNat_natCast],?_,fun k hk=>List.mem_range.mp (List.mem_filter.mp hk).1⟩
    rw[List.filter_eq_self.mpr (fun _ _=>rfl),List.length_range]
   have t3:qg (p:Int) H1 L 0 H3:=by
    obtain⟨a1,acc,ts,a2,a3,a4⟩:=t2;exact⟨a1.trans pk.1,acc,ts,pk.1 _ _ a2,Paired.imp' (fun _ _ z=>z.tups pk.1.tups) a3,a4⟩
   clear pk;have fr:H1 M=none:=t2.1.free hM;refine(ak rfl ⟨c1,rfl,⟨_,aO.of (t3.1 _ _ hc1)⟩,c7 (K:=K) (a:=c1) (xs:=ms1.map V.int) (fun i σ H4=>∃(M:Addr) (n:Nat) (f:Int) (v10 v11 O0 Mt:Option V),σ=[some (.ref b),some (.int (mt:Int)),some (.int (rk:Int)),some (.int z),some (.int (p:Int)),some (.int (wy:Int)),some (.ref c1),some (.ref L),some (.ref M),some (.int f),v10,v11,O0,Mt]/\qg (p:Int) H1 L n H4/\n<=mt/\Ms H4 M p p/\H1 M=none/\M≠L) ⟨M,0,0,none,none,none,none,rfl,t3,Nat.zero_le _,b3,fr,fun e=>?_⟩ (fun i σ H4 _ ⟨_,_,_,_,_,_,_,_,t,_⟩=>aO.of (t.1 _ _ hc1)) ?_ ?_⟩)
   ·obtain⟨_,acc,_,a2,_⟩:=t2;rw[e,a2]at hM;cases hM
   ·rintro i y D' σ H4 hi ⟨M,n,f,v10,v11,O0,Mt,rfl,t4,hnm,b4,Qs,O1⟩;rw[List.getElem?_map]at hi;obtain⟨ce,hce,rfl⟩:=Ac.mp hi;refine(ak rfl (ak rfl (ak rfl ⟨ce,p,wy,rfl,p1,by lia,fun t bt H5 s5 gt Nl=>?_⟩)))
    obtain⟨ks,Ti,kl,kb⟩:=b4;have Nm:=s5 _ _ Ti;have t5:qg (p:Int) H1 L n H5:=by
     obtain⟨a1,acc,ts,a2,a3,a4⟩:=t4;exact⟨a1.trans s5,acc,ts,s5 _ _ a2,Paired.imp' (fun _ _ z=>z.tups s5.tups) a3,a4⟩
    obtain⟨u,hu⟩:=Int.eq_ofNat_of_zero_le gt.a0;obtain⟨v,hv⟩:=Int.eq_ofNat_of_zero_le gt.b0;have Qt:u<ks.length:=by have:=gt.a1;lia
    have Tj:v<ks.length:=by have:=gt.b1;lia
    have Tn:(aB ks)[u]?=some (.int (ks[u]:Int)):=AH (List.getElem?_eq_getElem Qt);have hkv:(aB ks)[v]?=some (.int (ks[v]:Int)):=AH (List.getElem?_eq_getElem Tj);have iu:Am (aB ks) t.1=some (.int (ks[u]:Int)):=by rw[hu];exact ao Tn
    have iv:Am (aB ks) t.2.1=some (.int (ks[v]:Int)):=by rw[hv];exact ao hkv
    have To:=kb _ (List.getElem_mem Qt);refine(ak rfl (ak rfl (bU (aY.of Nl) (ao (j:=0) rfl) (mF (aO.of Nm) (iu) (ak rfl (ak rfl (bU (aY.of Nl) (ao (j:=1) rfl) (mF (aO.of Nm) (iv) ⟨rfl,?_⟩))))))));obtain⟨VL,z9,VM,Mu,VN,VO,VP⟩:=id t5;have skip:D'.nx [some (.ref b),some (.int (mt:Int)),some (.int (rk:Int)),some (.int z),some (.int (p:Int)),some (.int (wy:Int)),some (.ref c1),some (.ref L),some (.ref M),some (.int f),some (.int ce),some (.ref bt),some (.bl (!decide (V.int (ks[u]:Int)=V.int (ks[v]:Int)))),Mt] H5:=⟨M,n,f,_,_,_,_,rfl,t5,hnm,⟨ks,Nm,kl,kb⟩,Qs,O1⟩;generalize (!decide (V.int (ks[u]:Int)=V.int (ks[v]:Int)))=jb at skip;have put:z9.length<mt->gF D' [some (.ref b),some (.int (mt:Int)),some (.int (rk:Int)),some (.int z),some (.int (p:Int)),some (.int (wy:Int)),some (.ref c1),some (.ref L),some (.ref M),some (.int f),some (.int ce),some (.ref bt),some (.bl jb),Mt] H5:=fun hlt=>by
     obtain⟨Tp,e6,t6⟩:∃ acc,H5 L=some (.lst acc)/\qg (p:Int) H1 L (n+1) (upd H5 L (.lst (acc++[.ref bt]))):=by
      have:=t5.push hL (au.refl _) gt Nl;obtain⟨acc,e1,_,e2⟩:=this;exact⟨acc,e1,e2⟩
     rw[Mu]at e6;cases e6;refine(ak rfl ⟨.inl ⟨rfl,_,aO.of Mu⟩,ak rfl ⟨L,_,_,rfl,rfl,Mu,cK (by lia),?_⟩⟩)
     have Mv:upd H5 L (.lst (z9++[.ref bt])) M=some (.lst (aB ks)):=by rw[av O1];exact Nm
     have JT:upd H5 L (.lst (z9++[.ref bt])) bt=some (.tup (GB t)):=jJ.put Mu _ _ Nl;have Qu:upd H5 L (.lst (z9++[.ref bt])) L=some (.lst (z9++[.ref bt])):=af;generalize upd H5 L (.lst (z9++[.ref bt]))=H6 at t6 Mv JT Qu;refine(ak rfl (ak rfl (ak rfl (.inr (ak rfl (bG (?_)))))));refine(ak rfl (ak rfl (bU (aY.of JT) (ao (j:=1) rfl) (mF (aO.of Mv) (iv) (?_)))));refine(ak rfl ⟨M,rfl,⟨_,aO.of Mv⟩,fun M2 CW=>aU (xs:=aB ks) (fun i acc H7=>au H6 H7/\H7 M2=some (.lst acc)/\∃ A9:List Nat,acc=aB A9/\A9.length=i/\∀ k∈A9,k<p) ⟨au.new CW,af,[],rfl,rfl,(fun k hk=>nomatch hk)⟩ (fun i acc H7 _ z=>⟨aO.of (z.1 _ _ Mv),z.2.1,by obtain⟨A9,e,e2,_⟩:=z.2.2;rw[e,aD,e2];exact Nat.le_refl _⟩) (dP (by rw[aD];lia)) ?_ ?_⟩)
     ·rintro i x acc H7 hx ⟨s7,O2,A9,rfl,Nn,kb2⟩;obtain⟨k,hk,rfl⟩:=bM hx;have hkp:=kb k (nv hk);refine⟨rfl,ak rfl (ak rfl (ak rfl (bU (aY.of (s7 _ _ JT)) (ao (j:=0) rfl) (mF (aO.of (s7 _ _ Mv)) (iu) ⟨dl rfl,fun l hl=>?_⟩))))⟩
      have s8:au H7 (upd H7 l (.lst [.int (k:Int),.int (ks[u]:Int)])):=au.new hl;have O3:upd H7 l (.lst [.int (k:Int),.int (ks[u]:Int)]) l=some (.lst [.int (k:Int),.int (ks[u]:Int)]):=af;generalize upd H7 l (.lst [.int (k:Int),.int (ks[u]:Int)])=H8 at s8 O3;refine(ak rfl (ak rfl ⟨rfl,.inr (ak rfl (?_))⟩));have Mw:∀ k' : Nat,k'<p->H8 M2=some (.lst (aB A9))/\au H6 (upd H8 M2 (.lst (aB A9++[.int (k' : Int)])))/\upd H8 M2 (.lst (aB A9++[.int (k' : Int)])) M2=some (.lst (aB A9++[.int (k' : Int)]))/\∃ ks3:List Nat,aB A9++[.int (k' : Int)]=aB ks3/\ks3.length=i+1/\∀ k∈ks3,k<p:=fun k' hk'=>by
       refine⟨s8 _ _ O2,(s7.trans s8).put CW,af,A9++[k'],(bR A9 k').symm,by rw[List.length_append,Nn];rfl,fun x hx=>?_⟩
       rcases List.mem_append.mp hx with hx|hx
       ·exact kb2 x hx
       ·have e:x=k':=by simpa using hx
        lia
      cases hd:decide (V.int (k:Int)=V.int (ks[v]:Int)) with
      | true=>exact(mF (aO.of O3) (ao (j:=1) rfl) (Mw _ To))
      | false=>exact(mF (aO.of O3) (ao (j:=0) rfl) (Mw _ hkp))
     ·rintro acc H7 ⟨s7,O2,A9,rfl,Nn,kb2⟩;rw[aD,kl]at Nn;refine⟨M2,n+1,_,_,_,_,_,rfl,?_,by lia,⟨A9,O2,Nn,kb2⟩,t6.1.free CW,fun e=>?_⟩
      ·obtain⟨a1,acc,ts,a2,a3,a4⟩:=t6;exact⟨a1.trans s7,acc,ts,s7 _ _ a2,Paired.imp' (fun _ _ z=>z.tups s7.tups) a3,a4⟩
      ·rw[e,Qu]at CW;cases CW
    refine(ak rfl (m5 rfl (.inl (aO.of Mu)) (ak rfl (bG (ak rfl (gr (fun h1=>?_) (fun _=>skip)))))))
    have h1:(z9.length:Int)<(mt:Int):=i6 h1;refine(ak rfl (ak rfl (?_)));cases jb with
    | true=>exact bQ (put (by lia))
    | false=>exact bh (ak rfl (ak rfl (bG (ak rfl (gr (fun _=>put (by lia)) (fun _=>skip))))))
   ·rintro σ H4 ⟨M,n,f,v10,v11,O0,Mt,rfl,t4,hnm,b4,Qs,O1⟩;obtain⟨acc,ts,JU,VQ,gd,mk⟩:=t4.fin;refine(ak rfl (ak rfl ⟨L,_,rfl,.inl ⟨aO.of JU,fun l hl=>⟨dl rfl,fun w hw=>?_⟩⟩⟩))
    obtain⟨sm,Tq⟩:=mk l hl w hw;exact q w p ts _ (s1.trans sm) ⟨by lia,by lia,by lia,gd⟩ p1 p2 (by lia) Tq
  refine(ak rfl (bG ⟨⟨by decide,by decide⟩,bG ⟨(mV rfl),rfl,ak rfl (gr (fun _=>?_) (fun _=>cont c ms _ (au.new hc) af))⟩⟩))
  have s1:au H (upd H c (.lst (ms.map V.int))):=au.new hc;generalize upd H c (.lst (ms.map V.int))=H1 at s1;refine(ak rfl (ak rfl ⟨b,_,rfl,s1.seq hS,fun c3 hc3=>?_⟩))
  rw[JS];have s2:au H1 (upd H1 c3 (.lst (ms.map V.int))):=au.new hc3;have hc2:upd H1 c3 (.lst (ms.map V.int)) c3=some (.lst (ms.map V.int)):=af;generalize upd H1 c3 (.lst (ms.map V.int))=H2 at s2 hc2;refine⟨c3,rfl,⟨_,aO.of hc2⟩,fun D hD=>yZ (xs:=ms.map V.int) (fun i acc H3=>au H2 H3/\H3 D=some (.lst acc)/\∃ ms2:List Int,acc=ms2.map V.int/\ms2.length=i) ⟨au.new hD,af,[],rfl,rfl⟩ (fun i acc H3 _ z=>⟨aO.of (z.1 _ _ hc2),z.2.1,by obtain⟨ms2,e,e2⟩:=z.2.2;rw[e,List.length_map,e2];exact Nat.le_refl _⟩) (Nat.le_of_lt (cK (by rw[List.length_map];lia))) ?_ ?_⟩
  ·rintro i x T0 acc H3 hx ⟨s3,uh,ms2,rfl,O4⟩ hT;rw[List.getElem?_map]at hx;obtain⟨ce,hce,rfl⟩:=Ac.mp hx;have xj:=(ny.mp hce).1;refine⟨T0,_,rfl,aY.of af,rfl,_,_,rfl,_,_,rfl,rfl,rfl,ak rfl (ak rfl ⟨ce,(i:Int),rfl,by lia,by lia,fun y _ _=>?_⟩)⟩
   have s4:au H3 (upd H3 T0 (.tup [.int (i:Int),.int ce])):=au.new hT;exact⟨s4 _ _ uh,(s3.trans s4).put hD,af,ms2++[y],by rw[List.map_append];rfl,by rw[List.length_append,O4];rfl⟩
  ·rintro acc H3 ⟨s3,uh,ms2,rfl,O4⟩;rw[List.length_map]at O4;refine(ak rfl ⟨.inl ⟨rfl,_,aO.of uh⟩,ak rfl ⟨(by decide),(by decide),fun D2 jZ=>dh (lo:=0) (m:=5) (fun i acc H4=>au H3 H4/\H4 D2=some (.lst acc)/\∃ KD:List Int,acc=KD.map V.int/\KD.length=i) ⟨au.new jZ,af,[],rfl,rfl⟩ (fun i acc H4 _ z=>⟨z.2.1,by obtain⟨ms2,e,e2⟩:=z.2.2;rw[e,List.length_map,e2];exact Nat.le_refl _⟩) (dP (by decide)) ?_ ?_⟩⟩)
   ·rintro i acc H4 hi ⟨s4,uO,KD,rfl,Qv⟩;rw[Int.zero_add];exact⟨rfl,ak rfl (ak rfl (bG ⟨z,_,rfl,by lia,by lia,fun y _ _=>⟨uO,s4.put jZ,af,KD++[y],by rw[List.map_append];rfl,by rw[List.length_append,Qv];rfl⟩⟩))⟩
   ·rintro acc H4 ⟨s4,uO,KD,rfl,Qv⟩;have O5:=s4 _ _ uh;refine⟨D,D2,_,_,rfl,rfl,O5,uO,dl (Nat.ble_eq.mpr (by rw[List.length_map,List.length_map];lia)),?_⟩
    refine cont D (ms2++KD) _ ?_ ?_
    ·exact(((s1.trans s2).trans (s3.trans s4))).put ((s1.trans s2).free hD)
    ·rw[af,List.map_append]
def CY:Sp:=fun vs H Q _=>∃ w p ts,∃ g:aA p ts,∃(S:Int) (m:Nat),vs=[.ref w,.int S]/\S=(m:Int)/\bq H w p ts/\m<2^ts.length/\∀ D H',au H H'->H' D=some (.lst (cj (fun x=>g.N.dg m x) p))->Q (.ref D) H'
def Aa:Sp:=fun vs H Q _=>∃ w p ts,∃ g:aA p ts,∃(S:Int) (m:Nat),vs=[.ref w,.int S]/\S=(m:Int)/\bq H w p ts/\m<2^ts.length/\∀ H',au H H'->Q (.int ((RM.cnt (g.N.root (fun k=>m.testBit k) ts.length) p:Nat):Int)) H'
def Fy:Sp:=fun vs H Q _=>∃ w p ts,∃ g:aA p ts,∃(S:Int) (m:Nat),vs=[.ref w,.int S]/\S=(m:Int)/\bq H w p ts/\m<2^ts.length/\∀ H' (d:Bool),au H H'->(d=true↔g.N.Ring m)->Q (.bl d) H'
theorem Fz{N:RM.Net}{m x:Nat}(k:Nat):RM.cnt (fun j=>m.testBit j&&N.inc j x) (k+1)=RM.cnt (fun j=>m.testBit j&&N.inc j x) k+if(m.testBit k&&N.inc k x)=true then 1 else 0:=rfl
theorem JV(x u v:Nat):FO (.int (x:Int)) [.int (u:Int),.int (v:Int)]=decide (u=x\/v=x):=by
 have e:([.int (u:Int),.int (v:Int)]:List V)=aB [u,v]:=rfl;rw[e,n5];refine decide_eq_decide.mpr ?_;simp[eq_comm]
theorem ym{f:Nat->Nat}{n u v:Nat}:(cj f n).set u (.int (v:Int))=cj (fun x=>if x=u then v else f x) n:=by
 unfold cj;refine List.ext_getElem? fun i=>?_
 rw[List.getElem?_set,List.getElem?_map]
 by_cases e:u=i
 ·subst e;rw[if_pos rfl,List.length_map,List.length_range]
  by_cases h:u<n
  ·rw[if_pos h,List.getElem?_map,List.getElem?_range h];simp
  ·rw[if_neg h,List.getElem?_map,List.getElem?_eq_none (by rw[List.length_range];lia)]
   rfl
 ·rw[if_neg e,List.getElem?_map]
  by_cases h:i<n
  ·rw[List.getElem?_range h];simp[show ¬ i=u from fun z=>e z.symm]
  ·rw[List.getElem?_eq_none (by rw[List.length_range];lia)]
   rfl
theorem CZ{f g:Nat->Int}{n:Nat}(h:∀ i,i<n->f i=g i):PyProof.Rows.firstMet f n=PyProof.Rows.firstMet g n:=by
 unfold PyProof.Rows.firstMet;rw[List.map_congr_left fun i hi=>h i (List.mem_range.mp hi)]
theorem eR:Ok T T.iE 1 CY:=by
 refine T.iE.ok jB fun _ A _ s H vs Q E hr h=>?_
 ·obtain⟨wb,p,ts,g,S,m,rfl,rfl,hw,hm,q⟩:=h;refine⟨_,(ai (aG (i:=2) jB.nd rfl (Or.inl rfl) (aK yF (ef (aa ah ae)) (aM (cu K) (pv 0) ah)))
   (ai (eT PassesOwn.never rfl (cB (by rfl) T.cX (aa (cg K T.c9 (aa (aM (cu K) (pv 0) ah) ae)) ae)) (bH 3 jB.nd)
   (aq (br (aJ bZ (aK cR (aK uR (pv 1) (pv 3)) ah) ah (aH _)) (ai (Dp (aK eU (aM (mW K) (pv 2) (aM (cu K) (aM (cu K) (aM (cu K) (pv 0) ah) (pv 3)) ah)) ah) (Dm (pv 2) (aM (cu K) (aM (cu K) (aM (cu K) (pv 0) ah) (pv 3)) ah) set_list))
   (aq (Dp (aK eU (aM (mW K) (pv 2) (aM (cu K) (aM (cu K) (aM (cu K) (pv 0) ah) (pv 3)) ah)) ah) (Dm (pv 2) (aM (cu K) (aM (cu K) (aM (cu K) (pv 0) ah) (pv 3)) ah) set_list)))) aQ)))
   (aq (aF (pv 2))))),?_⟩
  refine mQ ?_;intro ck cT dz eX gF;obtain⟨bt,xs,h1,h2,h3⟩:=id hw.ex;have wd:=h3.length;have wl:=g.len;have wp:=g.p2;refine⟨dl rfl,fun c hc=>?_⟩
  have s1:au H (upd H c (.lst [.int 0])):=au.new hc;have hc1:upd H c (.lst [.int 0]) c=some (.lst [.int 0]):=af;generalize upd H c (.lst [.int 0])=H1 at s1 hc1;refine(ak rfl (bU (aY.of (s1 _ _ h1)) (ao (j:=0) rfl) ⟨c,(p:Int),ak rfl ⟨rfl,hc1,by lia,by lia,(by rw[Int.toNat_natCast];show 1*p<=sizeLine;exact dl (Nat.ble_eq.mpr (by lia))),fun e he=>?_⟩⟩))
  have Mh:H e=none:=s1.free he;have s2:=s1.trans (au.new (o:=.lst (List.replicate (p:Int).toNat [V.int 0]).flatten) he);have Jj:upd H1 e (.lst (List.replicate (p:Int).toNat [V.int 0]).flatten) e=some (.lst (cj (fun _=>0) p)):=by
   rw[af,Int.toNat_natCast,w6]
  generalize upd H1 e (.lst (List.replicate (p:Int).toNat [V.int 0]).flatten)=H2 at s2 Jj;refine(ak rfl (bU (aY.of (s2 _ _ h1)) (ao (j:=1) rfl) (m5 rfl (.inr (aY.of (s2 _ _ h2))) (ak rfl ⟨(by lia),(by lia),?_⟩))))
  refine gE (lo:=0) (n:=(xs.length:Int).toNat) (fun k σ H3=>∃ v3,σ=[some (.ref wb),some (.int (m:Int)),some (.ref e),v3]/\au H H3/\H3 e=some (.lst (cj (fun x=>RM.cnt (fun j=>m.testBit j&&g.N.inc j x) k) p))) ⟨none,rfl,s2,Jj⟩ ?_ ?_
  ·rintro k D' σ H3 hk ⟨v3,rfl,s3,yg⟩;rw[Int.toNat_natCast]at hk;rw[Int.zero_add];have oV:k<ts.length:=by lia
   obtain⟨ct,ex,hct⟩:=yU (g:=g) h3 oV;have ha:g.N.a k<p:=g.N.al k oV;have hb:g.N.b k<p:=g.N.bl k oV;have ne:g.N.a k≠g.N.b k:=g.N.ne k oV;refine(ak rfl (ak rfl (bG ⟨(by lia),bG ⟨(mV rfl),rfl,ak rfl (?_)⟩⟩)))
   rw[Int.toNat_natCast,yM,ja];cases oR:m.testBit k with
   | false =>
     refine bh (ak rfl ⟨s3,?_⟩);rw[yg]
     congr 2
     refine rE fun x _=>?_
     rw[Fz,oR];rfl
   | true =>
     generalize hF:(fun x=>RM.cnt (fun j=>m.testBit j&&g.N.inc j x) k)=F at yg
     refine bQ (ak rfl (ak rfl (bU (aY.of (s3 _ _ h1)) (ao (j:=1) rfl) (ak rfl (bU (aY.of (s3 _ _ h2)) (ao (j:=k) ex) (bU (aY.of (s3 _ _ hct)) (ao (j:=0) rfl) (mF (aO.of yg) (ao (bL ha)) (bG (?_)))))))));refine(ak rfl (ak rfl (bU (aY.of (s3 _ _ h1)) (ao (j:=1) rfl) (ak rfl (bU (aY.of (s3 _ _ h2)) (ao (j:=k) ex) (bU (aY.of (s3 _ _ hct)) (ao (j:=0) rfl) ⟨e,_,_,g.N.a k,rfl,rfl,yg,qD (by rw[bK];exact ha),?_⟩))))))
     have e4:(cj F p).set (g.N.a k) (.int ((F (g.N.a k):Nat)+1:Int))=cj (fun x=>if x=g.N.a k then F (g.N.a k)+1 else F x) p:=by
      rw[<-ym];rfl
     dsimp only;rw[e4];have s4:au H (upd H3 e (.lst (cj (fun x=>if x=g.N.a k then F (g.N.a k)+1 else F x) p))):=s3.put Mh
     have Np:upd H3 e (.lst (cj (fun x=>if x=g.N.a k then F (g.N.a k)+1 else F x) p)) e=_:=af
     generalize upd H3 e (.lst (cj (fun x=>if x=g.N.a k then F (g.N.a k)+1 else F x) p))=H4 at s4 Np
     generalize Hj:(fun x=>if x=g.N.a k then F (g.N.a k)+1 else F x)=F2 at Np
     refine(ak rfl (ak rfl (bU (aY.of (s4 _ _ h1)) (ao (j:=1) rfl) (ak rfl (bU (aY.of (s4 _ _ h2)) (ao (j:=k) ex) (bU (aY.of (s4 _ _ hct)) (ao (j:=1) rfl) (mF (aO.of Np) (ao (bL hb)) (bG (?_)))))))));refine(ak rfl (ak rfl (bU (aY.of (s4 _ _ h1)) (ao (j:=1) rfl) (ak rfl (bU (aY.of (s4 _ _ h2)) (ao (j:=k) ex) (bU (aY.of (s4 _ _ hct)) (ao (j:=1) rfl) ⟨e,_,_,g.N.b k,rfl,rfl,Np,qD (by rw[bK];exact hb),?_⟩))))))
     refine(ak rfl ⟨s4.put Mh,?_⟩);rw[af];have e5:(cj F2 p).set (g.N.b k) (.int ((F2 (g.N.b k):Nat)+1:Int))=cj (fun x=>if x=g.N.b k then F2 (g.N.b k)+1 else F2 x) p:=by
      rw[<-ym];rfl
     dsimp only;rw[e5]
     congr 2
     refine rE fun x _=>?_
     rw[Fz,oR,Bool.true_and,show RM.cnt (fun j=>m.testBit j&&g.N.inc j x) k=F x from congrFun hF x]
     unfold RM.Net.inc;have f2:∀ y,F2 y=if y=g.N.a k then F (g.N.a k)+1 else F y:=fun y=>(congrFun Hj y).symm
     by_cases e1:x=g.N.b k
     ·rw[if_pos e1,f2,if_neg (fun z:g.N.b k=g.N.a k=>ne z.symm),e1,ff ne,cU rfl]
      rfl
     ·rw[if_neg e1,f2,ff (fun z:g.N.b k=x=>e1 z.symm),Bool.xor_false]
      by_cases e2:x=g.N.a k
      ·rw[if_pos e2,e2,cU rfl];rfl
      ·rw[if_neg e2,ff (fun z:g.N.a k=x=>e2 z.symm)]
       rfl
  ·rintro σ H3 ⟨v3,rfl,s3,yg⟩;rw[Int.toNat_natCast,wd]at yg;exact(ak rfl (q e H3 s3 yg))
theorem kP:Ok T T.kJ 1 Aa:=by
 refine T.kJ.ok fc fun _ A _ s H vs Q E hr h=>?_
 ·obtain⟨wb,p,ts,g,S,m,rfl,rfl,hw,hm,q⟩:=h;refine⟨_,(ai (aG (i:=2) fc.nd rfl (Or.inr rfl) (bw (own:=["point"]) (fq:=[]) (js:=[]) (aI (aj fW) ["web","some","marks","k","old"]) rfl (cB (by rfl) T.cX (aa (aM (cu K) (pv 0) ah) ae)) (fun _ _ _ _=>(bH 0 (l9 ["point"]))) (fun _ _ _ _=>cH) (fun _ _ _ _=>(pv 0))))
   (ai (eT PassesOwn.never rfl (cB (by rfl) T.cX (aa (cg K T.c9 (aa (aM (cu K) (pv 0) ah) ae)) ae)) (qB (i:=3) fc.nd rfl (Or.inr rfl))
   (aq (br (aJ bZ (aK cR (aK uR (pv 1) (pv 3)) ah) ah (aH _)) (ai (aG (i:=4) fc.nd rfl (Or.inr rfl) (aM (mW K) (pv 2) (aM (cu K) (aM (cu K) (aM (cu K) (pv 0) ah) (pv 3)) ah)))
   (aq (aG (i:=2) fc.nd rfl (Or.inr rfl) (bw (own:=["mark"]) (fq:=["web","marks","k","old"]) (js:=[0,2,3,4]) (aI (aj fW) ["web","some","marks","k","old"]) rfl (mE K (pv 2)) (fun _ _ _ _=>(bH 0 (l9 ["mark","web","marks","k","old"]))) (fun _ _ _ _=>cH) (fun _ _ _ _=>(aM (mW K) (ef (aa (pv 0) (aa (aM (mW K) (pv 2) (aM (cu K) (aM (cu K) (aM (cu K) (pv 1) ah) (pv 3)) ah)) ae))) (dD lV (by rfl) T.yc PyProof.Rows.boot_int (aa (bI bZ (pv 0) (pv 4) (aH _)) ae)))))))) aQ)))
   (aq (aF (bj Jl (by rfl) T.c9 PySem.boot_len (aa (dD (Ox K rfl) (by rfl) T.Me PyProof.Rows.boot_set (aa (pv 2) ae)) ae)))))),?_⟩
  refine mQ ?_;intro ck cT dz eX gF;obtain⟨bt,xs,h1,h2,h3⟩:=id hw.ex;have wd:=h3.length;have wl:=g.len;have wp:=g.p2;refine(ak rfl (bU (aY.of h1) (ao (j:=0) rfl) (ak rfl ⟨(by lia),(by lia),fun M hM=>dh (lo:=0) (m:=p) (rF (fun x=>x) H M) (.start hM) (fun i acc H3 _ pd=>pd.len) (dP (by lia)) ?_ ?_⟩)))
  ·intro i acc H3 hi pd;rw[Int.zero_add];exact⟨rfl,ak rfl (pd.next hM (au.refl _) rfl)⟩
  intro acc H1 pd;have Nq:H1 M=some (.lst (cj (fun x=>x) p)):=by rw[pd.2.1,pd.2.2]
  have s1:=pd.1;clear pd;refine(ak rfl (bU (aY.of (s1 _ _ h1)) (ao (j:=1) rfl) (m5 rfl (.inr (aY.of (s1 _ _ h2))) (ak rfl ⟨(by lia),(by lia),?_⟩))))
  refine gE (lo:=0) (n:=(xs.length:Int).toNat) (fun k σ H3=>∃ M v3 v4 L,σ=[some (.ref wb),some (.int (m:Int)),some (.ref M),v3,v4]/\au H H3/\H3 M=some (.lst (cj L p))/\RM.rY g.N (fun k=>m.testBit k) L k) ⟨M,none,none,_,rfl,s1,Nq,RM.rY.start⟩ ?_ ?_
  ·rintro k D' σ H3 hk ⟨M,v3,v4,L,rfl,s3,JW,rel⟩;rw[Int.toNat_natCast]at hk;rw[Int.zero_add];have oV:k<ts.length:=by lia
   obtain⟨ct,ex,hct⟩:=yU (g:=g) h3 oV;have ha:g.N.a k<p:=g.N.al k oV;have hb:g.N.b k<p:=g.N.bl k oV;refine(ak rfl (ak rfl (bG ⟨(by lia),bG ⟨(mV rfl),rfl,ak rfl (?_)⟩⟩)))
   rw[Int.toNat_natCast,yM,ja];cases oR:m.testBit k with
   | false=>exact bh ⟨M,_,_,L,rfl,s3,JW,rel.skip oR⟩
   | true =>
     refine bQ (ak rfl (ak rfl (bU (aY.of (s3 _ _ h1)) (ao (j:=1) rfl) (ak rfl (bU (aY.of (s3 _ _ h2)) (ao (j:=k) ex) (bU (aY.of (s3 _ _ hct)) (ao (j:=1) rfl) (mF (aO.of JW) (ao (bL hb)) (?_))))))));refine(ak rfl ⟨M,rfl,⟨_,aO.of JW⟩,fun M2 CW=>aU (xs:=cj L p) (rF (RM.Jr L (g.N.a k) (g.N.b k)) H3 M2) (.start CW) (fun i acc H4 _ pd=>⟨aO.of (pd.1 _ _ JW),pd.len⟩) (by rw[bK];exact dl (Nat.ble_eq.mpr (by lia))) ?_ ?_⟩)
     ·intro i x acc H4 hx pd;obtain⟨hi,rfl⟩:=je hx;have s4:=s3.trans pd.1;refine⟨rfl,ak rfl (ak rfl (ak rfl (bU (aY.of (s4 _ _ h1)) (ao (j:=1) rfl) (ak rfl (bU (aY.of (s4 _ _ h2)) (ao (j:=k) ex) (bU (aY.of (s4 _ _ hct)) (ao (j:=0) rfl) (mF (aO.of (pd.1 _ _ JW)) (ao (bL ha)) ⟨dl rfl,fun l hl=>?_⟩)))))))⟩
      refine(ak rfl (ak rfl ⟨rfl,.inr (ak rfl (?_))⟩));rw[jf]
      by_cases e:L i=L (g.N.b k)
      ·rw[cU e];exact(mF (aO.of af) (ao (j:=1) rfl) (pd.next CW (au.new hl) (by unfold RM.Jr;rw[if_pos e])))
      ·rw[ff e];exact(mF (aO.of af) (ao (j:=0) rfl) (pd.next CW (au.new hl) (by unfold RM.Jr;rw[if_neg e])))
     ·intro acc H4 pd;rw[bK]at pd;exact⟨M2,_,_,_,rfl,s3.trans pd.1,by rw[pd.2.1,pd.2.2],rel.put oV oR⟩
  ·rintro σ H3 ⟨M,v3,v4,L,rfl,s3,JW,rel⟩;rw[Int.toNat_natCast,wd]at rel;have ens:cj L p=((List.range p).map fun x=>((L x:Nat):Int)).map V.int:=by
    unfold cj;rw[List.map_map];rfl
   refine(ak rfl ⟨M,(List.range p).map (fun x=>((L x:Nat):Int)),rfl,aO.of (by rw[JW,ens]),by rw[List.length_map,List.length_range];lia,fun l S hl=>⟨l,S,_,rfl,af,?_⟩⟩)
   rw[List.length_map,List.length_range,CZ (g:=fun i=>((L i:Nat):Int)) (fun i hi=>by rw[List.getD_eq_getElem?_getD,List.getElem?_map,List.getElem?_range hi];rfl)]
   have e:=RM.GV (N:=g.N) (L:=L) rel;have e:(PyProof.Rows.firstMet (fun i=>((L i:Nat):Int)) p).length=_:=e
   rw[e];exact q _ (s3.trans (au.new hl))
theorem gO:Ok T T.kK 2 Fy:=by
 have kP:=kP T;have eR:=eR T;refine T.kK.ok qb fun _ A _ s H vs Q E hr h=>?_
 ·obtain⟨wb,p,ts,g,S,m,rfl,rfl,hw,hm,q⟩:=h;refine⟨_,(ai (aG (i:=2) qb.nd rfl (Or.inl rfl) (aC eR hr T.iE.c aL (aa (pv 0) (aa (pv 1) ae))))
   (ai (br (PW.pt (i7 (aJ qW (pv 1) ah (aH _)) (j6 (aJ pZ (cg K T.c9 (aa (bw (own:=["count"]) (fq:=[]) (js:=[]) (aI (aj i0) ["web","some","counts"]) rfl (mE K (pv 2)) (fun _ _ _ _=>(bH 0 (l9 ["count"]))) (fun _ _ _ _=>(dO (aJ (u3 K) (pv 0) (g8 (aa ah (aa ah ae))) (by with_unfolding_all rfl)))) (fun _ _ _ _=>(pv 0))) ae)) ah (aH _))))) (aq (aF fM)) aQ)
   (aq (aF (bI bZ (aC kP hr T.kJ.c aL (aa (pv 0) (aa (pv 1) ae))) (aK eU (aK iO (aM (cu K) (pv 0) ah) (cg K T.c9 (aa (bw (own:=["count"]) (fq:=[]) (js:=[]) (aI (aj i0) ["web","some","counts"]) rfl (mE K (pv 2)) (fun _ _ _ _=>(bH 0 (l9 ["count"]))) (fun _ _ _ _=>(dO (aJ bZ (pv 0) ah (aH _)))) (fun _ _ _ _=>(pv 0))) ae))) ah) (aH _)))))),?_⟩
  refine iY ?_;intro ck cT dz;obtain⟨bt,xs,h1,h2,h3⟩:=id hw.ex;have wp:=g.p2;refine(ak rfl (ak rfl ⟨wb,p,ts,g,_,m,rfl,rfl,hw,hm,fun D H1 s1 p9=>?_⟩))
  refine(ak rfl (bG (ak rfl (gr (fun h0=>?_) (fun h0=>?_)))))
  ·have h0:(m:Int)<=0:=i6 h0;exact q H1 false s1 ⟨(fun z=>nomatch z),fun r=>absurd (show m=0 by lia) r.1⟩
  have h0:m≠0:=fun z=>h0 (cU (show(m:Int)<=0 by lia))
  refine(ak rfl ⟨D,rfl,⟨_,aO.of p9⟩,fun C hC=>aU (xs:=cj (fun x=>g.N.dg m x) p) (fun i acc H2=>au H1 H2/\H2 C=some (.lst acc)/\acc.length=RM.cnt (fun x=>!decide (0=g.N.dg m x\/2=g.N.dg m x)) i) ⟨au.new hC,af,rfl⟩ (fun i acc H2 _ f=>⟨aO.of (f.1 _ _ p9),f.2.1,by have:=RM.jc (fun x=>!decide (0=g.N.dg m x\/2=g.N.dg m x)) i;have:=f.2.2;lia⟩) (dP (by rw[bK];lia)) ?_ ?_⟩)
  ·rintro i x acc H2 hx ⟨s2,zU,al⟩;obtain⟨hi,rfl⟩:=je hx;refine⟨rfl,ak rfl ⟨dl rfl,fun u hu=>(m5 rfl (.inr (aY.of af)) ⟨rfl,rfl,ak rfl (?_)⟩)⟩⟩
   have e:FO (.int ((g.N.dg m i:Nat):Int)) [.int 0,.int 2]=decide (0=g.N.dg m i\/2=g.N.dg m i):=JV _ 0 2;have hc1:RM.cnt (fun x=>!decide (0=g.N.dg m x\/2=g.N.dg m x)) (i+1)=RM.cnt (fun x=>!decide (0=g.N.dg m x\/2=g.N.dg m x)) i+if(!decide (0=g.N.dg m i\/2=g.N.dg m i))=true then 1 else 0:=rfl
   dsimp only;rw[if_pos rfl,e];have Qw:C≠u:=bf zU hu;cases hb:decide (0=g.N.dg m i\/2=g.N.dg m i) with
   | false =>
     rw[hb]at hc1;refine bQ (ak rfl ⟨by rw[av Qw];exact zU,(s2.trans (au.new hu)).put hC,af,?_⟩)
     rw[List.length_append,hc1,al];rfl
   | true =>
     rw[hb]at hc1;exact bh ⟨s2.trans (au.new hu),by rw[av Qw];exact zU,by rw[hc1,al];rfl⟩
  rintro acc H2 ⟨s2,zU,al⟩;rw[bK]at al;have s12:=s1.trans s2;refine(m5 rfl (.inl (aO.of zU)) (bG (ak rfl (gr (fun hpos=>?_) (fun hpos=>?_)))))
  ·have hpos:(0:Int)<(acc.length:Int):=i6 hpos;refine q H2 false s12 ⟨(fun z=>nomatch z),fun r=>?_⟩
   obtain⟨x,hx,hf⟩:=RM.lq (show 0<RM.cnt _ p by rw[<-al];lia)
   have d2:=RM.GN hm r x hx;rw[Bool.not_eq_true',decide_eq_false_iff_not]at hf;exact absurd (d2.imp Eq.symm Eq.symm) hf
  have d2:g.N.D2 m:=fun x hx=>by
   apply Classical.byContradiction;intro hn;have:=RM.n6 (f:=fun x=>!decide (0=g.N.dg m x\/2=g.N.dg m x)) (k:=x) (by
    rw[Bool.not_eq_true',decide_eq_false_iff_not];exact fun z=>hn (z.imp Eq.symm Eq.symm)) (show x<p from hx)
   exact hpos (cU (show(0:Int)<(acc.length:Int) by lia))
  refine(ak rfl (ak rfl ⟨wb,p,ts,g,_,m,rfl,rfl,hw.same s12,hm,fun H3 s3=>?_⟩))
  have i5:=s12.trans s3;have uh:=(s2.trans s3) _ _ p9;refine(ak rfl (bU (aY.of (i5 _ _ h1)) (ao (j:=0) rfl) (?_)));refine(ak rfl ⟨D,rfl,⟨_,aO.of uh⟩,fun C2 zU=>aU (xs:=cj (fun x=>g.N.dg m x) p) (fun i acc H4=>au H3 H4/\H4 C2=some (.lst acc)/\acc.length=RM.cnt (fun x=>decide (g.N.dg m x=2)) i) ⟨au.new zU,af,rfl⟩ (fun i acc H4 _ f=>⟨aO.of (f.1 _ _ uh),f.2.1,by have:=RM.jc (fun x=>decide (g.N.dg m x=2)) i;have:=f.2.2;lia⟩) (dP (by rw[bK];lia)) ?_ ?_⟩)
  ·rintro i x acc H4 hx ⟨s4,Nr,Nt⟩;obtain⟨hi,rfl⟩:=je hx;refine⟨rfl,ak rfl ⟨rfl,ak rfl (?_)⟩⟩;have hc1:RM.cnt (fun x=>decide (g.N.dg m x=2)) (i+1)=RM.cnt (fun x=>decide (g.N.dg m x=2)) i+if decide (g.N.dg m i=2)=true then 1 else 0:=rfl
   have e:decide (V.int ((g.N.dg m i:Nat):Int)=V.int 2)=decide (g.N.dg m i=2):=jf _ 2;rw[e];cases hb:decide (g.N.dg m i=2) with
   | true =>
     rw[hb]at hc1;refine(ak rfl ⟨Nr,s4.put zU,af,?_⟩);rw[List.length_append,hc1,Nt];rfl
   | false =>
     rw[hb]at hc1;exact⟨s4,Nr,by rw[hc1,Nt];rfl⟩
  ·rintro acc H4 ⟨s4,Nr,Nt⟩;rw[bK]at Nt;refine(m5 rfl (.inl (aO.of Nr)) (bG (bG ⟨rfl,q H4 _ (i5.trans s4) ?_⟩)));have h:=RM.Eu hm h0 d2;have hcc:RM.cnt (fun x=>decide (g.N.dg m x=2)) p<=p:=by have:=RM.jc (fun x=>decide (g.N.dg m x=2)) p;lia
   rw[h,decide_eq_true_iff]
   constructor
   ·intro e;have e:=V.int.inj e;show RM.cnt (g.N.root (fun k=>m.testBit k) ts.length) p+RM.cnt (fun x=>decide (g.N.dg m x=2)) p=p+1
    lia
   ·intro e;have e:RM.cnt (g.N.root (fun k=>m.testBit k) ts.length) p+RM.cnt (fun x=>decide (g.N.dg m x=2)) p=p+1:=e
    exact congrArg V.int (by lia)
def FA:Sp:=fun vs H Q _=>∃ w p ts,∃ g:aA p ts,∃(S:Int) (m:Nat),vs=[.ref w,.int S]/\S=(m:Int)/\bq H w p ts/\m<2^ts.length/\∀ H',au H H'->Q (.int (lenOf ts m)) H'
theorem cG:Ok T T.fC 1 FA:=by
 refine T.fC.ok xG fun _ A _ s H vs Q E hr h=>?_
 ·obtain⟨wb,p,ts,g,S,m,rfl,rfl,hw,hm,q⟩:=h;refine⟨_,(aq (aF (bj (sumK K rfl) (by rfl) T.Ii PyProof.Rows.boot_sum (aa (bw (own:=["k"]) (fq:=["web","some"]) (js:=[0,1]) (aI (aj kD) ["web","some"]) rfl (cB (by rfl) T.cX (aa (cg K T.c9 (aa (aM (cu K) (pv 0) ah) ae)) ae)) (fun _ _ _ _=>(bH 0 (l9 ["k","web","some"]))) (fun _ _ _ _=>(dO (aJ bZ (aK cR (aK uR (pv 2) (pv 0)) ah) ah (aH _)))) (fun _ _ _ _=>(aM (cu K) (aM (cu K) (aM (cu K) (pv 1) ah) (pv 0)) ah))) ae)))),?_⟩
  obtain⟨bt,xs,h1,h2,h3⟩:=id hw.ex;have wd:=h3.length;have wl:=g.len;refine(ak rfl (bU (aY.of h1) (ao (j:=1) rfl) (m5 rfl (.inr (aY.of h2)) (ak rfl ⟨(by lia),(by lia),fun D hD=>dh (lo:=0) (m:=xs.length) (fun i acc H2=>au H H2/\H2 D=some (.lst acc)/\acc=(((List.range i).filter (fun k=>m.testBit k)).map fun k=>(cI ts k).2.2).map V.int) ⟨au.new hD,af,rfl⟩ (fun i acc H2 _ z=>⟨z.2.1,by rw[z.2.2,List.length_map,List.length_map];exact Nat.le_trans (List.length_filter_le _ _) (by rw[List.length_range];exact Nat.le_refl _)⟩) (dP (by lia)) ?_ ?_⟩))))
  ·rintro i acc H2 hi ⟨s2,jZ,rfl⟩;rw[Int.zero_add];obtain⟨c,hxc,hct⟩:=yU (g:=g) h3 (show i<ts.length by lia)
   refine⟨rfl,ak rfl (ak rfl (bG ⟨(by lia),bG ⟨(mV rfl),rfl,ak rfl (?_)⟩⟩))⟩
   rw[Int.toNat_natCast,yM,ja];cases hb:m.testBit i with
   | true =>
     refine(ak rfl (bU (aY.of (s2 _ _ h1)) (ao (j:=1) rfl) (ak rfl (bU (aY.of (s2 _ _ h2)) (ao (j:=i) hxc) (bU (aY.of (s2 _ _ hct)) (ao (j:=2) rfl) ⟨jZ,s2.put hD,af,?_⟩)))));rw[aX,if_pos hb,List.map_append,List.map_append];rfl
   | false =>
     refine⟨s2,jZ,?_⟩;rw[aX,if_neg (by rw[hb];decide),List.append_nil]
  ·rintro acc H2 ⟨s2,jZ,rfl⟩;refine⟨D,_,rfl,aO.of jZ,?_⟩;have e:lenOf ts m=(((List.range xs.length).filter (fun k=>m.testBit k)).map fun k=>(cI ts k).2.2).sum:=by
    unfold lenOf;rw[fQ hm,wd]
   rw[<-e];exact q H2 s2
def FD:Sp:=fun vs H Q _=>∃ c,vs=[.int c]/\Q (.bl true) H
theorem jt:Ok T T.jq 1 FD:=by
 refine T.jq.ok vB fun _ A _ s H vs Q E hr h=>?_
 ·obtain⟨c,rfl,k⟩:=h;refine⟨_,(aq (aF (fO (bj (Bx K) (by rfl) T.bY PyProof.Rows.boot_isinstance (aa (pv 0) (aa (rg (by rfl) T.yc PyProof.Rows.boot_int) ae))) (g7 (yv (bj (Bx K) (by rfl) T.bY PyProof.Rows.boot_isinstance (aa (pv 0) (aa (rg (by rfl) T.JL PyProof.Rows.boot_bool) ae)))))))),?_⟩
  exact(ak rfl ⟨_,_,_,_,_,rfl,rfl,.int c,IX K,_,rfl,bQ (ak rfl ⟨_,_,_,_,_,rfl,rfl,.int c,IY K,_,rfl,k⟩)⟩)
def FE:Sp:=fun vs H Q _=>∃(x y:Nat),vs=[.int (x:Int),.int (y:Int)]/\∀ v:Bool,(∀ d,x&&&y<2^d->v=RM.bJ (fun j=>(x&&&y).testBit j) d)->Q (.bl v) H
theorem mD:Ok T T.my 1 FE:=by
 refine T.my.ok i3 fun _ A _ s H vs Q E hr h=>?_
 ·obtain⟨x,y,rfl,q⟩:=h;refine⟨_,(ai (aG (i:=2) i3.nd rfl (Or.inl rfl) (aK uS (pv 0) (pv 1)))
   (ai (aG (i:=3) i3.nd rfl (Or.inl rfl) ah)
   (ai (Dq PassesOwn.never (aJ pZ (pv 2) ah (aH _)) (ai (aG (i:=3) i3.nd rfl (Or.inl rfl) (aK iO ah (pv 3)))
   (aq (aG (i:=2) i3.nd rfl (Or.inl rfl) (aK uS (pv 2) (aK iO (pv 2) ah))))))
   (aq (aF (bI bZ (pv 3) ah (aH _))))))),?_⟩
  refine zx ?_;intro ck cT dz eX gF;refine(ak rfl (ak rfl (bG (?_))));have e0:Builtin.bitAnd (x:Int) (y:Int)=((x&&&y:Nat):Int):=and_int x y;refine⟨fun k σ H2=>∃(n:Nat) (c:Bool),σ=[some (.int (x:Int)),some (.int (y:Int)),some (.int (n:Int)),some (.int (c.toNat:Int))]/\H2=H/\(∀ d,x&&&y<2^d->n<2^d/\RM.bJ (fun j=>(x&&&y).testBit j) d=(c^^RM.bJ (fun j=>n.testBit j) d))/\n=k,⟨x&&&y,x&&&y,false,?_,rfl,fun d hd=>⟨hd,by rw[Bool.false_xor]⟩,rfl⟩,?_⟩
  ·show[_,_,some (V.int (Builtin.bitAnd (x:Int) (y:Int))),_]=_;rw[e0];rfl
  rintro k σ H2 ⟨n,c,rfl,rfl,hc,rfl⟩;refine(ak rfl (bG (ak rfl (gr (fun hpos=>?_) (fun hpos=>?_)))))
  ·have hpos:(0:Int)<((n:Nat):Int):=i6 hpos;have hlt:n&&&(n-1)<n:=by
    have:=Nat.and_le_right (n:=n) (m:=n-1)
    lia
   refine⟨fun σ H3=>∃(n' : Nat) (c:Bool),σ=[some (.int (x:Int)),some (.int (y:Int)),some (.int (n' : Int)),some (.int (c.toNat:Int))]/\H3=H2/\(∀ d,x&&&y<2^d->n'<2^d/\RM.bJ (fun j=>(x&&&y).testBit j) d=(c^^RM.bJ (fun j=>n'.testBit j) d))/\n'<n,fun σ H3 ⟨n',c,z1,z2,z3,z4⟩=>⟨n',z4,n',c,z1,z2,z3,rfl⟩,?_⟩
   refine(ak rfl (bG (ak rfl (ak rfl (bG (bG ⟨n&&&(n-1),!c,?_,rfl,fun d hd=>?_,hlt⟩))))))
   ·show[_,_,some (V.int (Builtin.bitAnd (n:Int) ((n:Int)-1))),some (V.int (1-(c.toNat:Int)))]=_;rw[show(n:Int)-1=((n-1:Nat):Int) by lia,and_int]
    cases c<;>rfl
   ·obtain⟨h1,h2⟩:=hc d hd;refine⟨by lia,?_⟩
    rw[h2,RM.GW d n (by lia) h1]
    cases c<;>cases RM.bJ (fun j=>n.testBit j) d<;>rfl
  ·have hz:n=0:=by
    have : ¬(0:Int)<((n:Nat):Int):=fun z=>hpos (cU z)
    lia
   subst hz;have ec:decide (V.int (c.toNat:Int)=V.int 1)=c:=by
    cases c
    ·rfl
    ·rfl
   refine(ak rfl ⟨rfl,?_⟩);rw[ec];refine q c fun d hd=>?_
   rw[(hc d hd).2,RM.iG fun k _=>Nat.zero_testBit k,Bool.xor_false]
def FF:Sp:=fun vs H Q _=>∃ w p ts,∃ g:aA p ts,∃(S:Int) (m:Nat),vs=[.ref w,.int S]/\S=(m:Int)/\bq H w p ts/\m<2^ts.length/\∀ H' (d:Bool),au H H'->(d=true↔g.N.ek m)->Q (.bl d) H'
def FG:Sp:=fun vs H Q _=>∃ w p ts,∃ g:aA p ts,vs=[.ref w]/\bq H w p ts/\ts.length<=9/\∀ D l H',H D=none->au H H'->H' D=some (.lst (aB l))->oQ p ts g l->Q (.ref D) H'
theorem Hl{p:Nat}{ts:List dF}{g:aA p ts}(h9:ts.length<=9){ps ps' : List (Addr×Int×Int)}{f:Nat->Bool}(hf:∀ r,f r=true↔r<2^ts.length/\g.N.Ring r)(e:ps.map (·.2)=((List.range (2^ts.length)).filter f).map fun r=>(lenOf ts r,(r:Int)))
 (hp:ps'.Perm ps) (hw:ps'.Pairwise (fun x y=>kx x.2<=kx y.2)):oQ p ts g (ps'.map fun q=>q.2.2.toNat)/\∀ q∈ps',q.2.2=((q.2.2.toNat:Nat):Int):=by
 have mem:∀ q∈ps,∃ r,f r=true/\q.2=(lenOf ts r,(r:Int)):=fun q hq=>by
  have:q.2∈ps.map (·.2):=List.mem_map.mpr ⟨q,hq,rfl⟩;rw[e]at this;obtain⟨r,hr,e2⟩:=List.mem_map.mp this;exact⟨r,(List.mem_filter.mp hr).2,e2.symm⟩
 have big:(2:Nat)^ts.length<=2^9:=Nat.pow_le_pow_right (by decide) h9
 have e3:ps.map (fun q=>q.2.2.toNat)=(List.range (2^ts.length)).filter f:=by
  have:ps.map (fun q=>q.2.2.toNat)=(ps.map (·.2)).map fun z=>z.2.toNat:=by rw[List.map_map];rfl
  rw[this,e,List.map_map];exact List.map_id _
 have pm:(ps'.map fun q=>q.2.2.toNat).Perm ((List.range (2^ts.length)).filter f):=by rw[<-e3];exact hp.map _
 refine⟨⟨?_,?_,fun r=>?_⟩,fun q hq=>?_⟩
 ·rw[List.pairwise_map];refine List.Pairwise.imp_of_mem (fun {x y} hx hy h=>?_) hw
  obtain⟨r,hr,e1⟩:=mem x (hp.mem_iff.mp hx);obtain⟨r',hr',e2⟩:=mem y (hp.mem_iff.mp hy);have b1:=((hf r).mp hr).1;have b2:=((hf r').mp hr').1;rw[e1,e2]at h ⊢;unfold kx at h;show oO ts ((r:Int).toNat) ((r' : Int).toNat);rw[Int.toNat_natCast,Int.toNat_natCast];unfold oO;have h:lenOf ts r*1073741824+(r:Int)<=lenOf ts r'*1073741824+(r' : Int):=h
  lia
 ·exact pm.nodup_iff.mpr (List.Pairwise.filter _ List.nodup_range)
 ·rw[pm.mem_iff,List.mem_filter,List.mem_range,hf];exact⟨fun z=>z.2,fun z=>⟨z.1,z⟩⟩
 ·obtain⟨r,_,e1⟩:=mem q (hp.mem_iff.mp hq);rw[e1];show(r:Int)=(((r:Int).toNat:Nat):Int);rw[Int.toNat_natCast]
theorem nq:Ok T T.ni 2 FF:=by
 have eR:=eR T;refine T.ni.ok xF fun _ A _ s H vs Q E hr h=>?_
 ·obtain⟨wb,p,ts,g,S,m,rfl,rfl,hw,hm,q⟩:=h;refine⟨_,(aq (aF (bI (u3 K) ah (bw (own:=["count"]) (fq:=[]) (js:=[]) (aI (aj kC) ["web","some"]) rfl (mE K (aC eR hr T.iE.c aL (aa (pv 0) (aa (pv 1) ae)))) (fun _ _ _ _=>(bH 0 (l9 ["count"]))) (fun _ _ _ _=>cH) (fun _ _ _ _=>(aK cR (pv 0) ah))) (by with_unfolding_all rfl)))),?_⟩
  have wp:=g.p2;refine(ak rfl (ak rfl ⟨wb,p,ts,g,_,m,rfl,rfl,hw,hm,fun D H1 s1 p9=>?_⟩))
  refine⟨D,rfl,⟨_,aO.of p9⟩,fun C hC=>aU (K:=K) (a:=D) (xs:=cj (fun x=>g.N.dg m x) p) (fun i acc H2=>au H1 H2/\H2 C=some (.lst acc)/\acc=aB ((List.range i).map fun x=>g.N.dg m x%2)) ⟨au.new hC,af,rfl⟩ (fun i acc H2 _ z=>⟨aO.of (z.1 _ _ p9),z.2.1,by rw[z.2.2,aD,List.length_map,List.length_range];exact Nat.le_refl _⟩) (dP (by rw[bK];lia)) ?_ ?_⟩
  ·rintro i x acc H2 hx ⟨s2,zU,rfl⟩;obtain⟨hi,rfl⟩:=je hx;refine⟨rfl,ak rfl (bG ⟨(mV rfl),zU,s2.put hC,af,?_⟩)⟩;rw[List.range_succ,List.map_append,List.map_singleton,bR];rfl
  ·rintro acc H2 ⟨s2,zU,rfl⟩;refine(m5 rfl (.inl (aO.of zU)) ⟨rfl,pe _,?_⟩);rw[bK,if_pos rfl];refine q H2 _ (s1.trans s2) ?_;rw[show(V.int 1)=V.int ((1:Nat):Int) from rfl,n5,Bool.not_eq_true',decide_eq_false_iff_not]
   refine⟨fun h x hx=>?_,fun h z=>?_⟩
   ·rw[RM.AK];refine ff fun e=>h (List.mem_map.mpr ⟨x,List.mem_range.mpr hx,e⟩)
   ·obtain⟨x,hx,e⟩:=List.mem_map.mp z;have:=h x (List.mem_range.mp hx);rw[RM.AK]at this;exact of_decide_eq_false this e
theorem ie:Ok T T.ic 3 FG:=by
 have nq:=nq T;have gO:=gO T;have cG:=cG T;refine T.ic.ok gJ fun _ A _ s H vs Q E hr h=>?_
 ·obtain⟨wb,p,ts,g,rfl,hw,h9,qq⟩:=h;refine⟨_,(ai (aG (i:=1) gJ.nd rfl (Or.inl rfl) (ef ae))
   (ai (eT PassesOwn.never rfl (Bg (by rfl) T.cX (aa ah (aa (aK jv ah (cg K T.c9 (aa (aM (cu K) (pv 0) ah) ae))) ae))) (bH 2 gJ.nd)
   (aq (br (PW.pt (qS (cF (aC nq hr T.ni.c aL (aa (pv 0) (aa (pv 2) ae)))) (nG (cF (aC gO hr T.kK.c aL (aa (pv 0) (aa (pv 2) ae))))))) (aq (dc (G5 K (nN PySem.F.plainAttrs_list PySem.F.slot_list_append PySem.F.type_list_append gx (pv 1) (aa (g8 (aa (aC cG hr T.fC.c aL (aa (pv 0) (aa (pv 2) ae))) (aa (pv 2) ae))) ae))))) aQ)))
   (aq (aF (bw (own:=["pair"]) (fq:=[]) (js:=[]) (aI (aj fj) ["web","found","some"]) rfl (mE K (bj (EJ K) (by rfl) T.sI PyProof.Rows.boot_sorted (aa (pv 1) ae))) (fun _ _ _ _=>(bH 0 (l9 ["pair"]))) (fun _ _ _ _=>cH) (fun _ _ _ _=>(aM (cu K) (pv 0) ah))))))),?_⟩
  refine pN ?_;intro ck cT dz eX;obtain⟨bt,xs,h1,h2,h3⟩:=id hw.ex;have wd:=h3.length;have big:(2:Nat)^ts.length<=2^9:=Nat.pow_le_pow_right (by decide) h9
  have zc:(1:Int)*2^((xs.length:Nat):Int).toNat=((2^ts.length:Nat):Int):=by rw[ir,wd]
  have tp:=Nat.two_pow_pos ts.length;refine⟨dl rfl,fun F hF=>?_⟩
  have s1:au H (upd H F (.lst [])):=au.new hF;obtain⟨f,hf⟩:∃ f:Nat->Bool,∀ r,f r=true↔r<2^ts.length/\g.N.Ring r:=⟨fun r=>@decide (r<2^ts.length/\g.N.Ring r) (Classical.propDecidable _),fun r=>@decide_eq_true_iff _ (Classical.propDecidable _)⟩
  have f0:f 0=false:=by
   cases h:f 0 with
   | false=>rfl
   | true=>exact absurd rfl ((hf 0).mp h).2.1
  have few:∀(i:Nat) (ps:List (Addr×Int×Int)),ps.map (·.2)=((List.range i).filter f).map (fun r=>(lenOf ts r,(r:Int)))->ps.length<64:=fun i ps e=>by
   have h1:=congrArg List.length e;rw[List.length_map,List.length_map]at h1;have h2:=RM.sd (N:=g.N) (l:=(List.range i).filter f) h9 (List.Pairwise.filter _ List.nodup_range) fun m hm=>(hf m).mp (List.mem_filter.mp hm).2
   lia
  refine(ak rfl (bU (aY.of (s1 _ _ h1)) (ao (j:=1) rfl) (m5 rfl (.inr (aY.of (s1 _ _ h2))) (bG ⟨⟨by lia,by lia,by decide⟩,1,((2^ts.length:Nat):Int),congrArg (fun z=>[V.int 1,V.int z]) zc,⟨by decide,by decide,by lia,by lia⟩,?_⟩))))
  refine gE (lo:=1) (n:=(((2^ts.length:Nat):Int)-1).toNat) (fun i σ H2=>∃(ps:List (Addr×Int×Int)) (v2:Option V),σ=[some (.ref wb),some (.ref F),v2]/\au H H2/\H2 F=some (.lst (ps.map fun q=>V.ref q.1))/\(∀ q∈ps,H2 q.1=some (.tup [.int q.2.1,.int q.2.2]))/\ps.map (·.2)=((List.range (i+1)).filter f).map fun r=>(lenOf ts r,(r:Int))) ⟨[],none,rfl,s1,af,(fun q hq=>nomatch hq),?_⟩ ?_ ?_
  ·rw[aX,f0];rfl
  ·rintro i D' σ H2 hi ⟨ps,v2,rfl,s2,Hj,KG,Im⟩;have xj:i+1<2^ts.length:=by lia
   have ei:(1:Int)+(i:Int)=((i+1:Nat):Int):=by lia
   rw[ei];have fn:∀ H3,au H2 H3->f (i+1)=false->∃(ps:List (Addr×Int×Int)) (v2:Option V),[some (V.ref wb),some (V.ref F),some (V.int ((i+1:Nat):Int))]=[some (.ref wb),some (.ref F),v2]/\au H H3/\H3 F=some (.lst (ps.map fun q=>V.ref q.1))/\(∀ q∈ps,H3 q.1=some (.tup [.int q.2.1,.int q.2.2]))/\ps.map (·.2)=((List.range (i+1+1)).filter f).map fun r=>(lenOf ts r,(r:Int)):=fun H3 s3 e =>
    ⟨ps,_,rfl,s2.trans s3,s3 _ _ Hj,fun q hq=>s3 _ _ (KG q hq),by rw[aX,e,Im];simp⟩
   refine(ak rfl (ak rfl ⟨wb,p,ts,g,_,i+1,rfl,rfl,hw.same s2,xj,fun H3 d s3 hd=>(ak rfl (?_))⟩))
   cases d with
   | false =>
     refine fn H3 s3 ?_;cases h:f (i+1) with
     | false=>rfl
     | true=>exact absurd (hd.mpr ((hf _).mp h).2.2.1) (by decide)
   | true =>
     refine(ak rfl (ak rfl ⟨wb,p,ts,g,_,i+1,rfl,rfl,hw.same (s2.trans s3),xj,fun H4 d s4 hd=>(ak rfl (?_))⟩))
     cases d with
     | false =>
       refine fn H4 (s3.trans s4) ?_;cases h:f (i+1) with
       | false=>rfl
       | true=>exact absurd (hd.mpr ((hf _).mp h).2) (by decide)
     | true =>
       have Io:=s3.trans s4;have Tr:f (i+1)=true:=(hf _).mpr ⟨xj,hd.mp rfl⟩;refine(ak rfl ⟨.inl ⟨rfl,_,aO.of (Io _ _ Hj)⟩,ak rfl (ak rfl ⟨wb,p,ts,g,_,i+1,rfl,rfl,hw.same (s2.trans Io),xj,fun H5 s5=>(ak rfl ⟨dl rfl,fun c hc=>?_⟩)⟩)⟩)
       have s6:au H5 (upd H5 c (.tup [.int (lenOf ts (i+1)),.int ((i+1:Nat):Int)])):=au.new hc;have O6:=(Io.trans s5).trans s6;have Tt:=O6 _ _ Hj;have Tu:c≠F:=fun z=>by rw[z,(Io.trans s5) _ _ Hj]at hc;cases hc
       have pl:=few _ ps Im;refine⟨F,_,_,rfl,rfl,Tt,cK (by rw[List.length_map];lia),?_⟩
       refine⟨ps++[(c,lenOf ts (i+1),((i+1:Nat):Int))],_,rfl,(s2.trans O6).put hF,?_,fun q hq=>?_,?_⟩
       ·rw[af,List.map_append];rfl
       ·have Tv:∀ q∈ps,q.1≠F:=fun q hq z=>by
         have:=KG q hq;rw[z,Hj]at this;cases this
        rcases List.mem_append.mp hq with z|z
        ·rw[av (Tv q z)];exact O6 _ _ (KG q z)
        ·rw[List.mem_singleton.mp z,av Tu];exact af
       ·rw[aX,Tr,if_pos rfl,List.map_append,List.map_append,Im];rfl
  ·rintro σ H2 ⟨ps,v2,rfl,s2,Hj,KG,Im⟩;have en:(((2^ts.length:Nat):Int)-1).toNat+1=2^ts.length:=by have:=Nat.two_pow_pos ts.length;lia
   rw[en]at Im;have pl:=few _ ps Im;have mem:∀ q∈ps,G0 q.2:=fun q hq=>by
    have:q.2∈ps.map (·.2):=List.mem_map.mpr ⟨q,hq,rfl⟩;rw[Im]at this;obtain⟨r,hr,e2⟩:=List.mem_map.mp this;have:=((hf r).mp (List.mem_filter.mp hr).2).1;rw[<-e2];unfold G0;show 0<=(r:Int)/\(r:Int)<1073741824
    lia
   refine(ak rfl ⟨F,ps,rfl,aO.of Hj,KG,mem,pl,fun l ps' hl pm pw=>?_⟩)
   obtain⟨rl,nat⟩:=Hl h9 hf Im pm pw;have s3:au H2 (upd H2 l (.lst (ps'.map fun q=>V.ref q.1))):=au.new hl
   have O7:upd H2 l (.lst (ps'.map fun q=>V.ref q.1)) l=some (.lst (ps'.map fun q=>V.ref q.1)):=af
   generalize upd H2 l (.lst (ps'.map fun q=>V.ref q.1))=H3 at s3 O7
   have VR:=pm.length_eq;refine⟨l,rfl,⟨_,aO.of O7⟩,fun D hD=>aU (K:=K) (a:=l) (xs:=ps'.map fun q=>V.ref q.1) (fun i acc H4=>au H3 H4/\H4 D=some (.lst acc)/\acc=aB ((ps'.take i).map fun q=>q.2.2.toNat)) ⟨au.new hD,af,rfl⟩ (fun i acc H4 _ z=>⟨aO.of (z.1 _ _ O7),z.2.1,by rw[z.2.2,aD,List.length_map,List.length_take];lia⟩) (Nat.le_of_lt (cK (by rw[List.length_map];lia))) ?_ ?_⟩
   ·rintro i x acc H4 hx ⟨s4,uO,rfl⟩;rw[List.getElem?_map]at hx;obtain⟨q,hq,rfl⟩:=Ac.mp hx;have hm:=nv hq;have Tw:=(s3.trans s4) _ _ (KG q (pm.mem_iff.mp hm));refine⟨rfl,ak rfl (bU (aY.of Tw) (ao (j:=1) rfl) ⟨uO,s4.put hD,af,?_⟩)⟩;rw[take3 hq,List.map_append,List.map_singleton,bR,<-nat q hm]
   ·rintro acc H4 ⟨s4,uO,rfl⟩;rw[List.length_map,List.take_length]at uO;exact qq D _ H4 ((s2.trans s3).free hD) ((s2.trans s3).trans s4) uO rl
theorem sQ{p:Nat}{ts:List dF}{g:aA p ts}{m:Nat}{ok:Nat->Prop}{zs:List Int}(h:tZ p ts g m ok zs){i:Nat}{z:Int}(hz:zs[i]?=some z):(∃ c:Nat,z=(c:Int)/\c<2^ts.length/\g.N.Ring c/\c≠m/\ok c)/\∀(j:Nat) (y:Int),j<i->zs[j]?=some y->y<z:=by
 obtain⟨C,rfl,up,hC,_⟩:=h;rw[List.getElem?_map]at hz;obtain⟨c,hc,rfl⟩:=Ac.mp hz;have g1:=hC c (nv hc);refine⟨⟨c,rfl,g1⟩,fun j y hj hy=>?_⟩
 rw[List.getElem?_map]at hy;obtain⟨b,hb,rfl⟩:=Ac.mp hy;obtain⟨a1,a2⟩:=ny.mp hb;obtain⟨b1,b2⟩:=ny.mp hc;have:=List.pairwise_iff_getElem.mp up j i a1 b1 hj
 lia
structure Tz(p:Nat)(ts:List dF)(g:aA p ts)(m:Nat)(f:Int)(zs:List Int)(i:Nat)(C:List Nat)(la:Int):Prop where
 e:zs.take i=C.map fun x=>((x:Nat):Int)
 up:C.Pairwise (· < ·)
 ok:∀ c∈C,c<2^ts.length/\g.N.Ring c/\c≠m/\lenOf ts c<=f
 le:∀ c∈C,(c:Int)<=la
 ls:la = -1\/∃ j,j<i/\zs[j]?=some la
 nn : -1<=la
def JX:Sp:=fun vs H Q _=>∃ w p ts,∃ g:aA p ts,∃(m:Nat) (D:Addr) (f:Int) (zs:List Int),vs=[.ref w,.int (m:Int),.ref D,.int f]/\bq H w p ts/\H D=some (.lst (zs.map V.int))/\zs.length<=200/\∀ H' (d:Bool),au H H'->(d=true↔tZ p ts g m (fun c=>lenOf ts c<=f) zs)->Q (.bl d) H'
def JY:Sp:=fun vs H Q _=>∃ w p ts,∃ g:aA p ts,∃(m:Nat) (z:Int) (D:Addr) (B:List Nat),vs=[.ref w,.int (m:Int),.int z,.ref D]/\bq H w p ts/\m<2^ts.length/\H D=some (.lst (aB B))/\B.length<=200/\(∀ b∈B,b<2^ts.length)/\∀ H' (d:Bool),au H H'->(d=true↔wk p ts g m B z)->Q (.bl d) H'
theorem dW:Ok T T.dS 3 JX:=by
 have gO:=gO T;have cG:=cG T;refine T.dS.ok bW fun _ A _ s H vs Q E hr h=>?_
 ·obtain⟨wb,p,ts,g,m,D,f,zs,rfl,hw,hD,zl,q⟩:=h;refine⟨_,(ai (aG (i:=4) bW.nd rfl (Or.inl rfl) ah)
   (ai (aG (i:=5) bW.nd rfl (Or.inl rfl) (Dv yD ah))
   (ai (eT PassesOwn.never rfl (mE K (pv 2)) (bH 6 bW.nd)
   (ai (br (PW.pt (i7 (aJ qW (pv 6) (pv 5) (aH _)) (i7 (aJ Al (pv 6) (aK jv ah (cg K T.c9 (aa (aM (cu K) (pv 0) ah) ae))) (aH _)) (i7 (aJ bZ (pv 6) (pv 1) (aH _)) (j6 (fN (cF (aC gO hr T.kK.c aL (aa (pv 0) (aa (pv 6) ae)))))))))) (aq (aF fM)) aQ)
   (ai (br (aJ pZ (aC cG hr T.fC.c aL (aa (pv 0) (aa (pv 6) ae))) (pv 3) (aH _)) (aq (aF fM)) aQ)
   (ai (aG (i:=4) bW.nd rfl (Or.inl rfl) (aK iP (pv 4) (pv 6)))
   (aq (aG (i:=5) bW.nd rfl (Or.inl rfl) (pv 6)))))))
   (aq (aF (bI bZ (pv 4) (pv 1) (aH _))))))),?_⟩
  refine m8 ?_;intro ck cT dz eX gF mP qa uN A5;obtain⟨bt,xs,h1,h2,h3⟩:=id hw.ex;have wd:=h3.length;have wl:=g.len;have zc:(1:Int)*2^((xs.length:Nat):Int).toNat=((2^ts.length:Nat):Int):=by rw[ir,wd]
  refine(ak rfl (ak rfl ⟨D,rfl,⟨_,aO.of hD⟩,c7 (K:=K) (a:=D) (xs:=zs.map V.int) (fun i σ H2=>∃ C la v6,σ=[some (.ref wb),some (.int (m:Int)),some (.ref D),some (.int f),some (.int ((xorL C:Nat):Int)),some (.int la),v6]/\au H H2/\Tz p ts g m f zs i C la) ⟨[],-1,none,rfl,au.refl _,⟨rfl,.nil,(fun c hc=>nomatch hc),(fun c hc=>nomatch hc),.inl rfl,by lia⟩⟩ (fun i σ H2 _ ⟨_,_,_,_,z,_⟩=>aO.of (z _ _ hD)) ?_ ?_⟩))
  ·rintro i y D' σ H2 hi ⟨C,la,v6,rfl,s2,R⟩;rw[List.getElem?_map]at hi;obtain⟨z,hz,rfl⟩:=Ac.mp hi;refine(ak rfl (ak rfl (bG (ak rfl (gr (fun h=>?_) (fun h=>?_))))))
   ·have h:z<=la:=i6 h;refine bQ (q H2 false s2 ⟨(fun z=>nomatch z),fun S=>?_⟩)
    obtain⟨⟨c,e,_⟩,b1⟩:=sQ S hz;rcases R.ls with e1|⟨j,hj,e1⟩
    ·lia
    ·have:=b1 j _ hj e1
     lia
   have h : ¬ z<=la:=fun z=>h (cU z)
   have nn:=R.nn;refine(ak rfl (ak rfl (bU (aY.of (s2 _ _ h1)) (ao (j:=1) rfl) (m5 rfl (.inr (aY.of (s2 _ _ h2))) (bG ⟨⟨by lia,by lia,by decide⟩,bG (ak rfl (gr (fun hb=>?_) (fun hb=>?_)))⟩)))))
   ·rw[zc]at hb;have hb:((2^ts.length:Nat):Int)<=z:=i6 hb;refine bQ (q H2 false s2 ⟨(fun z=>nomatch z),fun S=>?_⟩)
    obtain⟨⟨c,e,c1,_⟩,_⟩:=sQ S hz
    lia
   rw[zc]at hb;have hb : ¬((2^ts.length:Nat):Int)<=z:=fun z=>hb (cU z)
   obtain⟨c,rfl⟩:∃ c:Nat,z=(c:Int):=⟨z.toNat,by lia⟩
   have cl:c<2^ts.length:=by lia
   refine(ak rfl (ak rfl ⟨rfl,ak rfl (?_)⟩))
   by_cases em:c=m
   ·rw[cU (show V.int (c:Int)=V.int (m:Int) by rw[em])]
    refine bQ (bQ (q H2 false s2 ⟨(fun z=>nomatch z),fun S=>?_⟩))
    obtain⟨⟨c',e,_,_,c3,_⟩,_⟩:=sQ S hz
    lia
   rw[ff (show ¬ V.int (c:Int)=V.int (m:Int) from fun z=>em (by have:=V.int.inj z;lia))]
   refine bh (ak rfl (ak rfl ⟨wb,p,ts,g,_,c,rfl,rfl,hw.same s2,cl,fun H3 d s3 hd=>(ak rfl (?_))⟩))
   have C7:=s2.trans s3;cases d with
   | false =>
     refine bQ (q H3 false C7 ⟨(fun z=>nomatch z),fun S=>?_⟩)
     obtain⟨⟨c',e,_,c2,_⟩,_⟩:=sQ S hz;have:c=c':=by lia
     subst this;exact absurd (hd.mpr c2) (by decide)
   | true =>
     have cr:=hd.mp rfl;refine bh (ak rfl (ak rfl ⟨wb,p,ts,g,_,c,rfl,rfl,hw.same C7,cl,fun H4 s4=>(ak rfl (bG (ak rfl (gr (fun hf=>?_) (fun hf=>?_)))))⟩))
     ·have hf:f<lenOf ts c:=i6 hf;refine q H4 false (C7.trans s4) ⟨(fun z=>nomatch z),fun S=>?_⟩
      obtain⟨⟨c',e,_,_,_,c4⟩,_⟩:=sQ S hz;have:c=c':=by lia
      subst this
      lia
     ·have hf : ¬ f<lenOf ts c:=fun z=>hf (cU z)
      refine(ak rfl (ak rfl (bG (ak rfl (?_)))));refine⟨C++[c],(c:Int),some (.int (c:Int)),?_,C7.trans s4,?_⟩
      ·rw[xorL_snoc];show[_,_,_,_,some (V.int (Builtin.bitXor _ _)),_,_]=_;rw[xor_int]
      ·refine⟨by rw[take3 hz,R.e,List.map_append];rfl,?_,fun b hb=>?_,fun b hb=>?_,.inr ⟨i,by lia,hz⟩,by lia⟩
       ·refine List.pairwise_append.mpr ⟨R.up,List.pairwise_singleton _ _,fun x hx y hy=>?_⟩
        rw[List.mem_singleton.mp hy];have:=R.le x hx
        lia
       ·rcases List.mem_append.mp hb with z|z
        ·exact R.ok b z
        ·rw[List.mem_singleton.mp z];exact⟨cl,cr,em,by lia⟩
       ·rcases List.mem_append.mp hb with z|z
        ·have:=R.le b z
         lia
        ·rw[List.mem_singleton.mp z];exact Int.le_refl _
  ·rintro σ H2 ⟨C,la,v6,rfl,s2,R⟩;have e:=R.e;rw[List.length_map,List.take_length]at e;refine(ak rfl (ak rfl ⟨rfl,q H2 _ s2 ?_⟩));rw[decide_eq_true_iff,e,<-wo R.ok];exact⟨fun h=>⟨R.up,by have:=V.int.inj h;lia⟩,fun h=>by rw[h.2]⟩
theorem dX:Ok T T.dU 2 JY:=by
 have mD:=mD T;refine T.dU.ok m9 fun _ A _ s H vs Q E hr h=>?_
 ·obtain⟨wb,p,ts,g,m,z,D,B,rfl,hw,hm,hD,Bl,hB,q⟩:=h;refine⟨_,(ai (br (PW.pt (i7 (aJ nJ (pv 2) ah (aH _)) (i7 (aJ Al (pv 2) (aK jv ah (cg K T.c9 (aa (aM (cu K) (pv 0) ah) ae))) (aH _)) (j6 (fN (cF (aC mD hr T.my.c aL (aa (pv 1) (aa (pv 2) ae))))))))) (aq (aF fM)) aQ)
   (aq (aF (bI (DK K hr.units) (bw (own:=["one"]) (fq:=["marks"]) (js:=[2]) (aI (aj dR) ["web","ring","marks","others"]) rfl (mE K (pv 3)) (fun _ _ _ _=>(bH 0 (l9 ["one","marks"]))) (fun _ _ _ _=>(dO (cF (aC mD hr T.my.c aL (aa (pv 0) (aa (pv 1) ae)))))) (fun _ _ _ _=>(pv 0))) (ef ae) (aH _))))),?_⟩
  refine gR ?_;intro ck cT;obtain⟨bt,xs,h1,h2,h3⟩:=id hw.ex;have wd:=h3.length;have wl:=g.len;have zc:(1:Int)*2^((xs.length:Nat):Int).toNat=((2^ts.length:Nat):Int):=by rw[ir,wd]
  refine(ak rfl (bG (ak rfl (gr (fun h=>?_) (fun h=>?_)))))
  ·have h:z<0:=i6 h;exact bQ (q H false (au.refl _) ⟨(fun z=>nomatch z),fun⟨M,e,_⟩=>by lia⟩)
  have h : ¬ z<0:=fun z=>h (cU z)
  refine(ak rfl (ak rfl (bU (aY.of h1) (ao (j:=1) rfl) (m5 rfl (.inr (aY.of h2)) (bG ⟨⟨by lia,by lia,by decide⟩,bG (ak rfl (gr (fun hb=>?_) (fun hb=>?_)))⟩)))))
  ·rw[zc]at hb;have hb:((2^ts.length:Nat):Int)<=z:=i6 hb;exact bQ (q H false (au.refl _) ⟨(fun z=>nomatch z),fun⟨M,e,h,_⟩=>by lia⟩)
  rw[zc]at hb;have hb : ¬((2^ts.length:Nat):Int)<=z:=fun z=>hb (cU z)
  obtain⟨M,rfl⟩:∃ M:Nat,z=(M:Int):=⟨z.toNat,by lia⟩
  have hM:M<2^ts.length:=by lia
  refine(ak rfl (ak rfl ⟨m,M,rfl,fun v hv=>(ak rfl (?_))⟩))
  have hv2:v=g.N.par m M:=by
   rw[hv ts.length (Nat.lt_of_le_of_lt Nat.and_le_left hm)];exact RM.bS fun k _=>Nat.testBit_and ..
  cases v with
  | false =>
    refine bQ (q H false (au.refl _) ⟨(fun z=>nomatch z),fun⟨M',e,_,h,_⟩=>?_⟩)
    have:M=M':=by lia
    rw[<-this,<-hv2]at h;cases h
  | true =>
    refine bh (ak rfl ⟨D,rfl,⟨_,aO.of hD⟩,fun X hX=>aU (K:=K) (a:=D) (xs:=aB B) (fun i acc H2=>au H H2/\H2 X=some (.lst acc)/\acc=aB ((B.take i).filter fun b=>g.N.par b M)) ⟨au.new hX,af,rfl⟩ (fun i acc H2 _ z=>⟨aO.of (z.1 _ _ hD),z.2.1,?_⟩) (Nat.le_of_lt (cK (by rw[aD];lia))) ?_ ?_⟩)
    ·rw[z.2.2,aD];exact Nat.le_trans (List.length_filter_le _ _) (by rw[List.length_take];lia)
    ·rintro i x acc H2 hx ⟨s2,hX2,rfl⟩;obtain⟨c,mS,rfl⟩:=bM hx;refine⟨rfl,ak rfl (ak rfl ⟨c,M,rfl,fun v hv=>(ak rfl (?_))⟩)⟩
     have hv2:v=g.N.par c M:=by
      rw[hv ts.length (Nat.lt_of_le_of_lt Nat.and_le_left (hB c (nv mS)))];exact RM.bS fun k _=>Nat.testBit_and ..
     rw[take3 mS,List.filter_append,List.filter_cons,List.filter_nil,<-hv2];cases v with
     | true=>exact bQ (ak rfl ⟨hX2,s2.put hX,af,by rw[if_pos rfl];exact(bR _ _).symm⟩)
     | false=>exact bh ⟨s2,hX2,by rw[if_neg Bool.false_ne_true,List.append_nil]⟩
    ·rintro acc H2 ⟨s2,hX2,rfl⟩;rw[aD,List.take_length]at hX2;refine⟨dl rfl,fun l hl=>?_⟩
     have s3:au H2 (upd H2 l (.lst [])):=au.new hl;refine⟨_,_,.lst (aO.of (s3 _ _ hX2)) (rz _),.lst (aO.of af) .nil,p5 _,rfl,?_⟩;rw[Az];refine q _ _ (s2.trans s3) ?_;rw[decide_eq_true_iff,List.filter_eq_nil_iff]
     constructor
     ·exact fun h=>⟨M,rfl,hM,hv2.symm,fun b hb=>Hx.mpr (h b hb)⟩
     ·rintro⟨M',e,_,_,h⟩ b hb;have:M=M':=by lia
      subst this;rw[h b hb]
      decide
theorem tZ.congr{p:Nat}{ts:List dF}{g:aA p ts}{m:Nat}{ok ok' : Nat->Prop}{zs:List Int}(h:∀ c,ok c↔ok' c):tZ p ts g m ok zs↔tZ p ts g m ok' zs :=
 ⟨fun⟨C,e,u,hC,x⟩=>⟨C,e,u,fun c hc=>let⟨a,b,d,k⟩:=hC c hc;⟨a,b,d,(h c).mp k⟩,x⟩,fun⟨C,e,u,hC,x⟩=>⟨C,e,u,fun c hc=>let⟨a,b,d,k⟩:=hC c hc;⟨a,b,d,(h c).mpr k⟩,x⟩⟩
def JZ:Sp:=fun vs H Q _=>∃ w p ts,∃ g:aA p ts,∃(lr:Addr) (l:List Nat) (m:Nat) (v:V) (pp:PP),vs=[.ref w,.ref lr,.int (m:Int),v]/\bq H w p ts/\H lr=some (.lst (aB l))/\l.length<64/\(∀ r∈l,r<2^ts.length)/\m<2^ts.length/\zZ H v pp/\∀ H' (d:Bool),au H H'->(d=true↔z5 p ts g l m pp)->Q (.bl d) H'
theorem gn:Ok T T.gi 4 JZ:=by
 have dW:=dW T;have dX:=dX T;have cG:=cG T;refine T.gi.ok di fun _ A _ s H vs Q E hr h=>?_
 ·obtain⟨wb,p,ts,g,lr,l,m,v,pp,rfl,hw,hlr,F0,hlt,hm,hv,q⟩:=h;refine⟨_,(ai (aG (i:=4) di.nd rfl (Or.inr rfl) (aC cG hr T.fC.c aL (aa (pv 0) (aa (pv 2) ae))))
   (ai (br (aJ bZ (aM (cu K) (pv 3) ah) cJ (aH _)) (aq (aF (aC dW hr T.dS.c aL (aa (pv 0) (aa (pv 2) (aa (aM (cu K) (pv 3) ah) (aa (aK iO (pv 4) ah) ae))))))) aQ)
   (ai (lW (i:=5) di.nd rfl rfl (own:=["one"]) (fq:=["web","far"]) (js:=[0,4]) (aI (aj cP) ["web","rings","ring","paper","far","shorter","others"]) rfl (mE K (pv 1)) (fun _ _ _ _=>(bH 0 (l9 ["one","web","far"]))) (fun _ _ _ _=>(dO (aJ nJ (aC cG hr T.fC.c aL (aa (pv 1) (aa (pv 0) ae))) (pv 2) (aH _)))) (fun _ _ _ _=>(pv 0)))
   (ai (br (aJ bZ (aM (cu K) (pv 3) ah) cJ (aH _)) (aq (aF (fO (aC dX hr T.dU.c aL (aa (pv 0) (aa (pv 2) (aa (aM (cu K) (pv 3) ah) (aa (pv 5) ae))))) (g7 (aC dW hr T.dS.c aL (aa (pv 0) (aa (pv 2) (aa (aM (cu K) (pv 3) ah) (aa (pv 4) ae))))))))) aQ)
   (ai (lW (i:=6) di.nd rfl rfl (own:=["one"]) (fq:=["web","ring","far"]) (js:=[0,2,4]) (aI (aj cP) ["web","rings","ring","paper","far","shorter","others"]) rfl (mE K (pv 1)) (fun _ _ _ _=>(bH 0 (l9 ["one","web","ring","far"]))) (fun _ _ _ _=>(dO (PW.pt (qS (aJ qV (pv 0) (pv 2) (aH _)) (nG (aJ qW (aC cG hr T.fC.c aL (aa (pv 1) (aa (pv 0) ae))) (pv 3) (aH _))))))) (fun _ _ _ _=>(pv 0)))
   (aq (aF (aC dX hr T.dU.c aL (aa (pv 0) (aa (pv 2) (aa (aM (cu K) (pv 3) ah) (aa (pv 6) ae)))))))))))),?_⟩
  refine nc ?_;intro ck cT dz eX gF mP qa;refine(ak rfl (ak rfl ⟨wb,p,ts,g,_,m,rfl,rfl,hw,hm,fun H1 s1=>?_⟩))
  have Ho:=s1 _ _ hlr;have slt:∀ b∈sN ts l m,b<2^ts.length:=fun b hb=>hlt b (List.mem_filter.mp hb).1
  have OW:∀ b∈sO ts l m,b<2^ts.length:=fun b hb=>hlt b (List.mem_filter.mp hb).1
  have shl:(sN ts l m).length<=l.length:=List.length_filter_le _ _;have OV:(sO ts l m).length<=l.length:=List.length_filter_le _ _;cases pp with
  | nn zs =>
    obtain⟨c,D,rfl,hc,hD,zl⟩:=hv;refine(ak rfl (bU (aY.of (s1 _ _ hc)) (ao (j:=0) rfl) ⟨rfl,ak rfl (bQ ?_)⟩));refine(ak rfl (ak rfl (ak rfl (bU (aY.of (s1 _ _ hc)) (ao (j:=1) rfl) (ak rfl (bG ⟨wb,p,ts,g,m,D,_,zs,rfl,hw.same s1,s1 _ _ hD,zl,fun H2 d s2 hd=>q H2 d (s1.trans s2) (hd.trans (tZ.congr fun c=>?_))⟩))))))
    lia
  | ss z zs =>
    obtain⟨c,D,rfl,hc,hD,zl⟩:=hv;refine(ak rfl (bU (aY.of (s1 _ _ hc)) (ao (j:=0) rfl) ⟨rfl,ak rfl (bh ?_)⟩));refine(ak rfl ⟨lr,rfl,⟨_,aO.of Ho⟩,fun X hX=>aU (K:=K) (a:=lr) (xs:=aB l) (fun i acc H3=>au H1 H3/\H3 X=some (.lst acc)/\acc=aB (sN ts (l.take i) m)) ⟨au.new hX,af,rfl⟩ (fun i acc H3 _ z=>⟨aO.of (z.1 _ _ Ho),z.2.1,?_⟩) (Nat.le_of_lt (cK (by rw[aD];lia))) ?_ ?_⟩)
    ·rw[z.2.2,aD];exact Nat.le_trans (List.length_filter_le _ _) (by rw[List.length_take];lia)
    ·rintro i x acc H3 hx ⟨s3,iL,rfl⟩;obtain⟨c,mS,rfl⟩:=bM hx;refine⟨rfl,ak rfl (ak rfl ⟨wb,p,ts,g,_,c,rfl,rfl,hw.same (s1.trans s3),hlt c (nv mS),fun H4 s4=>(ak rfl (bG (ak rfl (gr (fun h=>?_) (fun h=>?_)))))⟩)⟩
     ·refine(ak rfl ⟨s4 _ _ iL,(s3.trans s4).put hX,af,?_⟩);unfold sN;rw[take3 mS,List.filter_append,List.filter_cons,if_pos h];exact(bR _ _).symm
     ·refine⟨s3.trans s4,s4 _ _ iL,?_⟩;unfold sN;rw[take3 mS,List.filter_append,List.filter_cons,if_neg h,List.filter_nil,List.append_nil]
    rintro acc H3 ⟨s3,iL,rfl⟩;rw[aD,List.take_length]at iL;have i5:=s1.trans s3;refine(ak rfl (bU (aY.of (i5 _ _ hc)) (ao (j:=0) rfl) ⟨rfl,ak rfl (bQ ?_)⟩));refine(ak rfl (ak rfl (ak rfl (bU (aY.of (i5 _ _ hc)) (ao (j:=1) rfl) (ak rfl ⟨wb,p,ts,g,m,z,X,_,rfl,hw.same i5,hm,iL,by lia,slt,fun H4 d s4 hd=>(ak rfl (?_))⟩)))))
    have z8:=i5.trans s4;cases d with
    | false=>exact bh (q H4 false z8 ⟨(fun z=>nomatch z),fun h=>absurd (hd.mpr h.1) (by decide)⟩)
    | true =>
      have OZ:=hd.mp rfl;exact bQ (ak rfl (ak rfl (ak rfl (bU (aY.of (z8 _ _ hc)) (ao (j:=2) rfl) (ak rfl ⟨wb,p,ts,g,m,D,_,zs,rfl,hw.same z8,z8 _ _ hD,zl,fun H5 d s5 hd=>q H5 d (z8.trans s5) (hd.trans ⟨fun h=>⟨OZ,h⟩,fun h=>h.2⟩)⟩)))))
  | ee z =>
    obtain⟨c,rfl,hc⟩:=hv;refine(ak rfl (bU (aY.of (s1 _ _ hc)) (ao (j:=0) rfl) ⟨rfl,ak rfl (bh ?_)⟩));refine(ak rfl ⟨lr,rfl,⟨_,aO.of Ho⟩,fun X hX=>aU (K:=K) (a:=lr) (xs:=aB l) (fun i acc H3=>au H1 H3/\H3 X=some (.lst acc)/\acc=aB (sN ts (l.take i) m)) ⟨au.new hX,af,rfl⟩ (fun i acc H3 _ z=>⟨aO.of (z.1 _ _ Ho),z.2.1,?_⟩) (Nat.le_of_lt (cK (by rw[aD];lia))) ?_ ?_⟩)
    ·rw[z.2.2,aD];exact Nat.le_trans (List.length_filter_le _ _) (by rw[List.length_take];lia)
    ·rintro i x acc H3 hx ⟨s3,iL,rfl⟩;obtain⟨c,mS,rfl⟩:=bM hx;refine⟨rfl,ak rfl (ak rfl ⟨wb,p,ts,g,_,c,rfl,rfl,hw.same (s1.trans s3),hlt c (nv mS),fun H4 s4=>(ak rfl (bG (ak rfl (gr (fun h=>?_) (fun h=>?_)))))⟩)⟩
     ·refine(ak rfl ⟨s4 _ _ iL,(s3.trans s4).put hX,af,?_⟩);unfold sN;rw[take3 mS,List.filter_append,List.filter_cons,if_pos h];exact(bR _ _).symm
     ·refine⟨s3.trans s4,s4 _ _ iL,?_⟩;unfold sN;rw[take3 mS,List.filter_append,List.filter_cons,if_neg h,List.filter_nil,List.append_nil]
    rintro acc H3 ⟨s3,iL,rfl⟩;have i5:=s1.trans s3;have Mx:=i5 _ _ hlr;refine(ak rfl (bU (aY.of (i5 _ _ hc)) (ao (j:=0) rfl) ⟨rfl,ak rfl (bh ?_)⟩));refine(ak rfl ⟨lr,rfl,⟨_,aO.of Mx⟩,fun Y hY=>aU (K:=K) (a:=lr) (xs:=aB l) (fun i acc H4=>au H3 H4/\H4 Y=some (.lst acc)/\acc=aB (sO ts (l.take i) m)) ⟨au.new hY,af,rfl⟩ (fun i acc H4 _ z=>⟨aO.of (z.1 _ _ Mx),z.2.1,?_⟩) (Nat.le_of_lt (cK (by rw[aD];lia))) ?_ ?_⟩)
    ·rw[z.2.2,aD];exact Nat.le_trans (List.length_filter_le _ _) (by rw[List.length_take];lia)
    ·rintro i x acc H4 hx ⟨s4,Dd,rfl⟩;obtain⟨c,mS,rfl⟩:=bM hx;refine⟨rfl,ak rfl (ak rfl ⟨rfl,ak rfl (?_)⟩)⟩;have tk:sO ts (l.take (i+1)) m=sO ts (l.take i) m++(if(!decide (c=m)&&decide (lenOf ts c<=lenOf ts m))=true then[c] else[]):=by
      unfold sO;rw[take3 mS,List.filter_append,List.filter_cons,List.filter_nil]
     by_cases e:c=m
     ·rw[cU (show V.int (c:Int)=V.int (m:Int) by rw[e])]
      refine bh (bh ⟨s4,Dd,?_⟩);rw[tk,cU e,Bool.not_true,Bool.false_and,if_neg Bool.false_ne_true,List.append_nil]
     ·rw[ff (show ¬ V.int (c:Int)=V.int (m:Int) from fun z=>e (by have:=V.int.inj z;lia))]
      refine bQ (ak rfl (ak rfl ⟨wb,p,ts,g,_,c,rfl,rfl,hw.same (i5.trans s4),hlt c (nv mS),fun H5 s5=>(ak rfl (bG (ak rfl (gr (fun h=>?_) (fun h=>?_)))))⟩))
      ·refine(ak rfl ⟨s5 _ _ Dd,(s4.trans s5).put hY,af,?_⟩);rw[tk,ff e,h];exact(bR _ _).symm
      ·refine⟨s4.trans s5,s5 _ _ Dd,?_⟩;rw[tk,Hx.mpr h,Bool.and_false,if_neg Bool.false_ne_true,List.append_nil]
    rintro acc H4 ⟨s4,Dd,rfl⟩;rw[aD,List.take_length]at Dd;have z8:=i5.trans s4;exact(ak rfl (ak rfl (ak rfl (bU (aY.of (z8 _ _ hc)) (ao (j:=1) rfl) (ak rfl ⟨wb,p,ts,g,m,z,Y,_,rfl,hw.same z8,hm,Dd,by lia,OW,fun H5 d s5 hd=>q H5 d (z8.trans s5) hd⟩)))))
theorem Ab(K:bO):PySem.W.kitOne K (.type "str") (.type "str")=some true:=by with_unfolding_all rfl
theorem yn{B C:List Nat}{m:Nat}(h:A7 B m C):C.length<=B.length:=RM.lZ (h.up.imp fun h=>Nat.ne_of_lt h) h.mem
theorem FH{p:Nat}{ts:List dF}{g:aA p ts}{l:List Nat}{m:Nat}{H0 H:Hp}{c:Addr}(R:oQ p ts g l)(F0:l.length<64)(h:A8 p ts g l m H0 H c):∃ pp,zZ H (.ref c) pp/\z5 p ts g l m pp/\((∃ z,pp = .ee z)\/∃(k:Str) (D:Addr) (xs:List V) (zs:List Int),k≠("every":Str)/\H c=some (.tup (.str k::xs))/\Am (.str k::xs) (-1)=some (.ref D)/\H0 D=none/\H D=some (.lst (zs.map V.int))/\zs.length<=200):=by
 have shl:(sN ts l m).length<=l.length:=List.length_filter_le _ _;have OV:(sO ts l m).length<=l.length:=List.length_filter_le _ _;rcases h with⟨D,C,h1,h0,h2,_,h3⟩|⟨M,h1,_,h4,h5,h6⟩|⟨D,C,M,h1,h0,h2,_,_,h4,h5,h6,h3⟩
 ·have cl:=yn h3;have e:H D=some (.lst ((C.map fun x=>((x:Nat):Int)).map V.int)):=by rw[<-eA];exact h2
  refine⟨.nn (C.map fun x=>((x:Nat):Int)),⟨c,D,rfl,h1,e,by rw[List.length_map];lia⟩,⟨C,rfl,h3.up,fun b hb=>?_,h3.sum⟩,.inr ⟨_,D,_,_,by decide,h1,rfl,h0,e,by rw[List.length_map];lia⟩⟩
  obtain⟨b1,b2⟩:=List.mem_filter.mp (h3.mem b hb);have b2:lenOf ts b<lenOf ts m:=i6 b2;obtain⟨b3,b4⟩:=(R.all b).mp b1;exact⟨b3,b4,fun e=>by rw[e]at b2;lia,b2⟩
 ·exact⟨.ee (M:Int),⟨c,rfl,h1⟩,⟨M,rfl,h4,h5,h6⟩,.inl ⟨_,rfl⟩⟩
 ·have cl:=yn h3;have e:H D=some (.lst ((C.map fun x=>((x:Nat):Int)).map V.int)):=by rw[<-eA];exact h2
  refine⟨.ss (M:Int) (C.map fun x=>((x:Nat):Int)),⟨c,D,rfl,h1,e,by rw[List.length_map];lia⟩,⟨⟨M,rfl,h4,h5,h6⟩,C,rfl,h3.up,fun b hb=>?_,h3.sum⟩,.inr ⟨_,D,_,_,by decide,h1,rfl,h0,e,by rw[List.length_map];lia⟩⟩
  obtain⟨b1,b2⟩:=List.mem_filter.mp (h3.mem b hb);obtain⟨b5,b6⟩:=Bool.and_eq_true_iff.mp b2;obtain⟨b3,b4⟩:=(R.all b).mp b1;have b7:b≠m:=fun e=>by
   rw[cU e]at b5;cases b5
  exact⟨b3,b4,b7,i6 b6⟩
theorem zZ.same{H H' : Hp}{v:V}{pp:PP}(s:au H H')(h:zZ H v pp):zZ H' v pp:=by
 cases pp with
 | nn zs=>obtain⟨c,D,e,h1,h2,h3⟩:=h;exact⟨c,D,e,s _ _ h1,s _ _ h2,h3⟩
 | ss z zs=>obtain⟨c,D,e,h1,h2,h3⟩:=h;exact⟨c,D,e,s _ _ h1,s _ _ h2,h3⟩
 | ee z=>obtain⟨c,e,h1⟩:=h;exact⟨c,e,s _ _ h1⟩
def Hq:Sp:=fun vs H Q _=>∃(v:V) (pp:PP),vs=[v]/\zZ H v pp/\Q (.bl true) H
def C1(t:Addr)(lp:Pos):Sp:=fun vs H Q _=>∃ w p ts,∃ g:aA p ts,∃(lr:Addr) (l:List Nat) (m:Nat),vs=[.ref w,.ref lr,.int (m:Int)]/\bq H w p ts/\H t=some (.kQ (fS (tu "by_length") lp))/\H lr=some (.lst (aB l))/\oQ p ts g l/\g.N.az.length<=8/\ts.length<=9/\m∈l/\∀ H',au H H'->Q (.bl true) H'
theorem nu:Ok T T.nj 2 Hq:=by
 have jt:=jt T;refine T.nj.ok xH fun _ A _ s H vs Q E hr h=>?_
 ·obtain⟨v,pp,rfl,hv,q⟩:=h;refine⟨_,(ai (br (PW.pt (i7 (fN (cF (bj (Bx K) (by rfl) T.bY PyProof.Rows.boot_isinstance (aa (pv 0) (aa (rg (by rfl) T.A6 PyProof.Rows.boot_tuple) ae))))) (i7 (aJ nJ (cg K T.c9 (aa (pv 0) ae)) ah (aH _)) (j6 (fN (cF (bj (Bx K) (by rfl) T.bY PyProof.Rows.boot_isinstance (aa (aM (cu K) (pv 0) ah) (aa (rg (by rfl) T.Mf PyProof.Rows.boot_str) ae))))))))) (aq (aF fM)) aQ)
   (ai (br (aJ bZ (aM (cu K) (pv 0) ah) cJ (aH _)) (aq (aF (fO (bI bZ (cg K T.c9 (aa (pv 0) ae)) ah (aH _)) (g7 (aC jt hr T.jq.c aL (aa (aM (cu K) (pv 0) ah) ae)))))) aQ)
   (ai (br (aJ bZ (aM (cu K) (pv 0) ah) cJ (aH _)) (aq (aF (fO (bI bZ (cg K T.c9 (aa (pv 0) ae)) ah (aH _)) (fO (aC jt hr T.jq.c aL (aa (aM (cu K) (pv 0) ah) ae)) (g7 (bj (Bx K) (by rfl) T.bY PyProof.Rows.boot_isinstance (aa (aM (cu K) (pv 0) ah) (aa (rg (by rfl) T.vZ PyProof.Rows.boot_list) ae)))))))) aQ)
   (aq (aF (fO (bI bZ (aM (cu K) (pv 0) ah) cJ (aH _)) (fO (bI bZ (cg K T.c9 (aa (pv 0) ae)) ah (aH _)) (g7 (bj (Bx K) (by rfl) T.bY PyProof.Rows.boot_isinstance (aa (aM (cu K) (pv 0) ah) (aa (rg (by rfl) T.vZ PyProof.Rows.boot_list) ae))))))))))),?_⟩
  refine xJ ?_;intro ck cT dz eX gF mP;cases pp with
  | nn zs =>
    obtain⟨c,D,rfl,hc,hD,zl⟩:=hv;refine(ak rfl ⟨_,_,_,_,_,rfl,rfl,.tup hc,yG K,_,rfl,bh (ak rfl (m5 rfl (.inr (aY.of hc)) (bG (ak rfl (bh (ak rfl (bU (aY.of hc) (ao (j:=0) rfl) ⟨_,_,_,_,_,rfl,rfl,.str _,Ab K,_,rfl,bh ?_⟩)))))))⟩);exact(ak rfl (bU (aY.of hc) (ao (j:=0) rfl) ⟨rfl,ak rfl (bh (ak rfl (bU (aY.of hc) (ao (j:=0) rfl) ⟨rfl,ak rfl (bh (ak rfl (bU (aY.of hc) (ao (j:=0) rfl) ⟨rfl,ak rfl (bQ (ak rfl (m5 rfl (.inr (aY.of hc)) ⟨rfl,ak rfl (bQ (ak rfl (bU (aY.of hc) (ao (j:=1) rfl) ⟨_,_,_,_,_,rfl,rfl,.lst hD,DI K,q⟩)))⟩)))⟩)))⟩)))⟩))
  | ss z zs =>
    obtain⟨c,D,rfl,hc,hD,zl⟩:=hv;refine(ak rfl ⟨_,_,_,_,_,rfl,rfl,.tup hc,yG K,_,rfl,bh (ak rfl (m5 rfl (.inr (aY.of hc)) (bG (ak rfl (bh (ak rfl (bU (aY.of hc) (ao (j:=0) rfl) ⟨_,_,_,_,_,rfl,rfl,.str _,Ab K,_,rfl,bh ?_⟩)))))))⟩);exact(ak rfl (bU (aY.of hc) (ao (j:=0) rfl) ⟨rfl,ak rfl (bh (ak rfl (bU (aY.of hc) (ao (j:=0) rfl) ⟨rfl,ak rfl (bQ (ak rfl (m5 rfl (.inr (aY.of hc)) ⟨rfl,ak rfl (bQ (ak rfl (bU (aY.of hc) (ao (j:=1) rfl) ⟨z,rfl,ak rfl (bQ (ak rfl (bU (aY.of hc) (ao (j:=2) rfl) ⟨_,_,_,_,_,rfl,rfl,.lst hD,DI K,q⟩)))⟩)))⟩)))⟩)))⟩))
  | ee z =>
    obtain⟨c,rfl,hc⟩:=hv;refine(ak rfl ⟨_,_,_,_,_,rfl,rfl,.tup hc,yG K,_,rfl,bh (ak rfl (m5 rfl (.inr (aY.of hc)) (bG (ak rfl (bh (ak rfl (bU (aY.of hc) (ao (j:=0) rfl) ⟨_,_,_,_,_,rfl,rfl,.str _,Ab K,_,rfl,bh ?_⟩)))))))⟩);exact(ak rfl (bU (aY.of hc) (ao (j:=0) rfl) ⟨rfl,ak rfl (bQ (ak rfl (m5 rfl (.inr (aY.of hc)) ⟨rfl,ak rfl (bQ (ak rfl (bU (aY.of hc) (ao (j:=1) rfl) ⟨z,rfl,q⟩)))⟩)))⟩))
theorem lT:Ok T T.lO 13 (C1 a.cA bX):=by
 have eO:=eO T;have nu:=nu T;have gn:=gn T;have c8:=c8 T;refine T.lO.ok kE fun _ A _ s H vs Q E hr h=>?_
 ·obtain⟨wb,p,ts,g,lr,l,m,rfl,hw,htb,hlr,R,h8,h9,hml,q⟩:=h;refine⟨_,(ai (eT PassesOwn.never rfl (cB (by rfl) T.cX (aa ah ae)) (bH 3 kE.nd)
   (ai (aG (i:=4) kE.nd rfl (Or.inl rfl) (aC eO hr T.iC.c gY (aa (pv 0) (aa (pv 2) ae))))
   (ai (br (PW.pt (i7 (fN (cF (aC nu hr T.nj.c aL (aa (pv 4) ae)))) (j6 (fN (cF (aC gn hr T.gi.c aL (aa (pv 0) (aa (pv 1) (aa (pv 2) (aa (pv 4) ae)))))))))) (aq (aF fM)) aQ)
   (ai (br (aJ Ji (aC c8 hr T.gf.c gY (aa (pv 0) (aa (pv 2) (aa (pv 4) ae)))) fM (aH _)) (aq (aF fM)) aQ)
   (aq (br (aJ qV (aM (cu K) (pv 4) ah) cJ (aH _)) (aq (dc (G5 K (nN PySem.F.plainAttrs_list PySem.F.slot_list_append PySem.F.type_list_append gx (aM (cu K) (pv 4) (Dv yD ah)) (aa ah ae))))) aQ))))))
   (aq (aF fM))),?_⟩
  refine vC ?_;intro ck cT dz eX gF mP qa uN;have F0:=R.few h9;obtain⟨m1,m2⟩:=(R.all m).mp hml;have hlt:∀ r∈l,r<2^ts.length:=fun r hr=>((R.all r).mp hr).1
  refine(ak rfl ⟨(by decide),(by decide),?_⟩)
  refine gE (lo:=0) (n:=(2:Int).toNat) (fun i σ H2=>∃ v3 v4,σ=[some (.ref wb),some (.ref lr),some (.int (m:Int)),v3,v4]/\au H H2) ⟨none,none,rfl,au.refl _⟩ ?_ ?_
  ·rintro i D' σ H2 hi ⟨v3,v4,rfl,s2⟩;refine(ak rfl (ak rfl ⟨wb,p,ts,g,_,rfl,hw.same s2,s2 _ _ htb,.inr ⟨h8,h9,.inl ⟨m,rfl,m1,fun _ c l' H3 s3 R' PA=>?_,fun z=>absurd m2 z⟩⟩⟩))
   obtain rfl:l' = l:=R'.uniq R;obtain⟨pp,pv,pr,last⟩:=FH R F0 PA;have C7:=s2.trans s3;refine(ak rfl ⟨_,pp,rfl,pv,_,rfl,bh ?_⟩);refine(ak rfl (ak rfl (ak rfl (ak rfl ⟨wb,p,ts,g,lr,l',m,_,pp,rfl,hw.same C7,C7 _ _ hlr,F0,hlt,m1,pv,fun H4 d s4 hd=>(ak rfl (?_))⟩))))
   rw[hd.mpr pr];refine bh ?_;have Io:=C7.trans s4;refine(ak rfl (ak rfl (ak rfl ⟨wb,p,ts,g,_,_,rfl,hw.same Io,Io _ _ htb,h8,h9,.inl ⟨m,rfl,m1,fun _=>⟨pp,l',pv.same s4,R,fun H5 d s5 hd=>?_⟩,fun z=>absurd m2 z⟩⟩)))
   rw[hd.mpr pr];have Qx:=Io.trans s5;refine⟨true,true,rfl,rfl,ak rfl (bh ?_)⟩;rcases last with⟨z,rfl⟩|⟨k,D,xs,zs,hk,hc,ha,h0,hD,zl⟩
   ·obtain⟨c',e,hc⟩:=pv;cases e;exact(ak rfl (bU (aY.of ((s4.trans s5) _ _ hc)) (ao (j:=0) rfl) ⟨rfl,ak rfl (bh ⟨_,_,rfl,Qx⟩)⟩))
   ·refine(ak rfl (bU (aY.of ((s4.trans s5) _ _ hc)) (ao (j:=0) rfl) ⟨rfl,ak rfl (?_)⟩));rw[ff (show ¬ V.str k=V.str "every" from fun z=>hk (V.str.inj z))]
    have Ij:=(s4.trans s5) _ _ hD;refine bQ (ak rfl (ak rfl (bU (aY.of ((s4.trans s5) _ _ hc)) (ha) ⟨.inl ⟨rfl,_,aO.of Ij⟩,D,_,_,rfl,rfl,Ij,cK (by rw[List.length_map];lia),?_⟩)))
    exact⟨_,_,rfl,Qx.put (s2.free h0)⟩
  ·rintro σ H2 ⟨v3,v4,rfl,s2⟩;exact q H2 s2
def Hr(t:Addr)(lp:Pos):Sp:=fun vs H Q _=>∃ w p ts,∃ g:aA p ts,∃(S:Int) (k:Nat),vs=[.ref w,.int S,.int (k:Int)]/\bq H w p ts/\H t=some (.kQ (fS (tu "by_length") lp))/\g.N.az.length<=8/\ts.length<=9/\
 (((S<0\/2^ts.length<=S)/\∀ H',au H H'->Q (.str "BadSet") H')\/((∃ m:Nat,S=(m:Int)/\m<2^ts.length/\¬ g.N.Ring m)/\∀ H',au H H'->Q (.str "NotRing") H'))
theorem jG:Ok T T.jE 13 (Hr a.cA bX):=by
 have eO:=eO T;have c8:=c8 T;refine T.jE.ok eE fun _ A _ s H vs Q E hr h=>?_
 ·obtain⟨wb,p,ts,g,S,k,rfl,hw,htb,h8,h9,q⟩:=h;refine⟨_,(ai (aG (i:=3) eE.nd rfl (Or.inl rfl) uP)
   (ai (Jh (i:=4) K rfl rfl rfl eE.nd rfl rfl (by rfl) T.ye (fun E pn xe hp=>(aq (br (aJ bZ (pv 2) ah (aH _)) (aq (dc (aC eO hr T.iC.c hp (aa (pv 0) (aa (pv 1) ae))))) (aq (dc (aC c8 hr T.gf.c hp (aa (pv 0) (aa (pv 1) (aa (g8 (aa cJ (aa ah ae))) ae))))))))) (fun ea pn=>(aq (aG (i:=3) eE.nd rfl (Or.inl rfl) (pv 4)))))
   (ai (aG (i:=5) eE.nd rfl (Or.inl rfl) (ef (aa (bj (Gy K) (by rfl) T.bY PyProof.Rows.boot_isinstance (aa (pv 3) (aa (yL (by rfl) T.CC) ae))) (aa (bj (Gy K) (by rfl) T.bY PyProof.Rows.boot_isinstance (aa (pv 3) (aa (yL (by rfl) T.Fc) ae))) (aa (bj (Gy K) (by rfl) T.bY PyProof.Rows.boot_isinstance (aa (pv 3) (aa (yL (by rfl) T.CD) ae))) ae)))))
   (ai (br (PW.pt (i7 (aJ IF (pv 3) uP (aH _)) (i7 (aJ qV (G5 K (nN PySem.F.plainAttrs_list PySem.F.slot_list_count PySem.F.type_list_count DQ (pv 5) (aa fM ae))) ah (aH _)) (j6 (fN (cF (bj (Gy K) (by rfl) T.bY PyProof.Rows.boot_isinstance (aa (pv 3) (aa (rg (T:="ValueError") (by rfl) T.vY (by decide +kernel)) ae))))))))) (aq (aF cJ)) aQ)
   (aq (aF (aM (mW K) (ef (aa cJ (aa cJ (aa cJ ae)))) (G5 K (nN PySem.F.plainAttrs_list PySem.F.slot_list_index PySem.F.type_list_index DR (pv 5) (aa fM ae)))))))))),?_⟩
  refine sD ?_;intro ck cT dz eX gF;rcases q with⟨hS,q⟩|⟨⟨m,rfl,hm,hr'⟩,q⟩
  ·refine⟨fun cls od H'=>cls = .ref a.aR/\au H H',?_,?_⟩
   ·refine(ak rfl ⟨rfl,ak rfl (gr (fun _=>?_) (fun _=>?_))⟩)
    ·exact(ak rfl (ak rfl ⟨wb,p,ts,g,S,rfl,hw,htb,.inr ⟨h8,h9,.inr ⟨hS,fun H' s'=>⟨rfl,s'⟩⟩⟩⟩))
    ·refine(ak rfl (ak rfl ⟨dl rfl,fun c hc=>?_⟩))
     exact⟨wb,p,ts,g,S,_,rfl,hw.same (au.new hc),au.new hc _ _ htb,h8,h9,.inr ⟨hS,fun H' s'=>⟨rfl,(au.new hc).trans s'⟩⟩⟩
   ·rintro cls od H' ⟨rfl,s1⟩;refine⟨T.Fe,fun ea O8=>?_⟩
    have s2:=s1.trans (au.new (o:=nR ea (.ref a.aR)) O8);have he:upd H' ea (nR ea (.ref a.aR)) ea=some (nR ea (.ref a.aR)):=af;generalize upd H' ea (nR ea (.ref a.aR))=H2 at s2 he;refine(ak rfl (?_));refine(ak rfl ⟨ea,_,a.aR,_,_,rfl,rfl,he,T.oM,T.q_BadSet_NotRing,_,rfl,ea,_,a.aR,_,_,rfl,rfl,he,T.oM,T.q_BadSet_BadSet,_,rfl,ea,_,a.aR,_,_,rfl,rfl,he,T.oM,T.q_BadSet_TooMany,dl rfl,fun L hL=>?_⟩)
    have s3:au H2 (upd H2 L (.lst [.bl false,.bl true,.bl false])):=au.new hL;have Hs:upd H2 L (.lst [.bl false,.bl true,.bl false]) L=some (.lst [.bl false,.bl true,.bl false]):=af;generalize upd H2 L (.lst [.bl false,.bl true,.bl false])=H3 at s3 Hs;have yg:=s3 _ _ he;refine(ak rfl ⟨rfl,ak rfl (bh ?_)⟩);refine(ak rfl ⟨.inl ⟨rfl,_,aO.of Hs⟩,L,_,_,rfl,rfl,Hs,rfl,rfl,rfl,ak rfl (bh (ak rfl ⟨ea,_,a.aR,_,_,rfl,rfl,yg,T.oM,T.CF,_,rfl,bh ?_⟩))⟩);refine⟨dl rfl,fun N hN=>?_⟩
    have s4:au H3 (upd H3 N (.lst [.str "NotRing",.str "BadSet",.str "TooMany"])):=au.new hN;have My:upd H3 N (.lst [.str "NotRing",.str "BadSet",.str "TooMany"]) N=some (.lst [.str "NotRing",.str "BadSet",.str "TooMany"]):=af;generalize upd H3 N (.lst [.str "NotRing",.str "BadSet",.str "TooMany"])=H4 at s4 My;have JU:=s4 _ _ Hs;refine(ak rfl ⟨.inl ⟨rfl,_,aO.of JU⟩,L,_,_,1,rfl,rfl,JU,rfl,rfl,by decide,fun n z hz hn=>?_,mF (aO.of My) (ao (j:=1) rfl) (q H4 ((s2.trans s3).trans s4))⟩)
    match n,hz,hn with
    | 0,hz,_=>rw[<-Option.some.inj hz];rfl
    | 1,hz,_=>rw[<-Option.some.inj hz];rfl
  ·refine⟨fun cls od H'=>cls = .ref a.aV/\au H H',?_,?_⟩
   ·refine(ak rfl ⟨rfl,ak rfl (gr (fun _=>?_) (fun _=>?_))⟩)
    ·exact(ak rfl (ak rfl ⟨wb,p,ts,g,_,rfl,hw,htb,.inr ⟨h8,h9,.inl ⟨m,rfl,hm,fun z=>absurd z hr',fun _ H' s'=>⟨rfl,s'⟩⟩⟩⟩))
    ·refine(ak rfl (ak rfl ⟨dl rfl,fun c hc=>?_⟩))
     exact⟨wb,p,ts,g,_,_,rfl,hw.same (au.new hc),au.new hc _ _ htb,h8,h9,.inl ⟨m,rfl,hm,fun z=>absurd z hr',fun _ H' s'=>⟨rfl,(au.new hc).trans s'⟩⟩⟩
   ·rintro cls od H' ⟨rfl,s1⟩;refine⟨T.CH,fun ea O8=>?_⟩
    have s2:=s1.trans (au.new (o:=nR ea (.ref a.aV)) O8);have he:upd H' ea (nR ea (.ref a.aV)) ea=some (nR ea (.ref a.aV)):=af;generalize upd H' ea (nR ea (.ref a.aV))=H2 at s2 he;refine(ak rfl (?_));refine(ak rfl ⟨ea,_,a.aV,_,_,rfl,rfl,he,T.mz,T.q_NotRing_NotRing,_,rfl,ea,_,a.aV,_,_,rfl,rfl,he,T.mz,T.q_NotRing_BadSet,_,rfl,ea,_,a.aV,_,_,rfl,rfl,he,T.mz,T.q_NotRing_TooMany,dl rfl,fun L hL=>?_⟩)
    have s3:au H2 (upd H2 L (.lst [.bl true,.bl false,.bl false])):=au.new hL;have Hs:upd H2 L (.lst [.bl true,.bl false,.bl false]) L=some (.lst [.bl true,.bl false,.bl false]):=af;generalize upd H2 L (.lst [.bl true,.bl false,.bl false])=H3 at s3 Hs;have yg:=s3 _ _ he;refine(ak rfl ⟨rfl,ak rfl (bh ?_)⟩);refine(ak rfl ⟨.inl ⟨rfl,_,aO.of Hs⟩,L,_,_,rfl,rfl,Hs,rfl,rfl,rfl,ak rfl (bh (ak rfl ⟨ea,_,a.aV,_,_,rfl,rfl,yg,T.mz,T.zN,_,rfl,bh ?_⟩))⟩);refine⟨dl rfl,fun N hN=>?_⟩
    have s4:au H3 (upd H3 N (.lst [.str "NotRing",.str "BadSet",.str "TooMany"])):=au.new hN;have My:upd H3 N (.lst [.str "NotRing",.str "BadSet",.str "TooMany"]) N=some (.lst [.str "NotRing",.str "BadSet",.str "TooMany"]):=af;generalize upd H3 N (.lst [.str "NotRing",.str "BadSet",.str "TooMany"])=H4 at s4 My;have JU:=s4 _ _ Hs;refine(ak rfl ⟨.inl ⟨rfl,_,aO.of JU⟩,L,_,_,0,rfl,rfl,JU,rfl,rfl,by decide,fun n z hz hn=>?_,mF (aO.of My) (ao (j:=0) rfl) (q H4 ((s2.trans s3).trans s4))⟩)
    match n,hz,hn with
    | 0,hz,_=>rw[<-Option.some.inj hz];rfl
theorem sR(l:List Nat)(lo hi:Option Int):∃ l',wH (aB l) lo hi=aB l'/\l'.length<=l.length/\∀ x∈l',x∈l:=by
 refine⟨(l.drop (HT.o4 l.length 0 lo)).take (HT.o4 l.length l.length hi-HT.o4 l.length 0 lo),?_,?_,fun x hx=>List.mem_of_mem_drop (List.mem_of_mem_take hx)⟩
 ·unfold wH aB;rw[List.length_map,List.map_take,List.map_drop]
 ·rw[List.length_take,List.length_drop]
  lia
def wq(K:bO)(tb:qh):Sp:=fun vs H Q _=>∃(a:Addr) (ns:List Int),vs=[.ref a]/\aO K H a (ns.map V.int)/\ns.length<=63/\TabsAt tb H/\∀ H',Q (.bl true) H'
theorem Mz:Ok T T.Ig 14 (wq K [(a.cA,tu "by_length",bX)]):=by
 have pX:=pX T;have dJ:=dJ T;have cQ:=cQ T;have ie:=ie T;have lT:=lT T;have jG:=jG T;refine T.Ig.ok ia fun _ A _ s H vs Q E hr h=>?_
 ·obtain⟨b,ns,rfl,hS,hn,hT,fin⟩:=h;have TF:=hT _ List.mem_cons_self;refine⟨_,(ai (aG (i:=1) ia.nd rfl (Or.inr rfl) (aC pX hr T.pU.c aL (aa (pv 0) (aa ah (aa ah ae)))))
   (ai (aG (i:=2) ia.nd rfl (Or.inl rfl) (aC ie hr T.ic.c aL (aa (pv 1) ae)))
   (ai (aG (i:=3) ia.nd rfl (Or.inl rfl) (aC dJ hr T.gW.c aL (aa (pv 0) (aa ah ae))))
   (ai (aG (i:=4) ia.nd rfl (Or.inl rfl) (aK cR (aC cQ hr T.eF.c aL (aa (pv 3) (aa ah ae))) (bj (oY rfl) (by rfl) T.Fb PyProof.Rows.boot_max (aa ah (aa (cg K T.c9 (aa (pv 2) ae)) ae)))))
   (ai (eT PassesOwn.never rfl (mE K (k8 (Lv K) (aK (LF K) (k8 (Lv K) (pv 2) (nL (pv 4)) nK) (k8 (Lv K) (pv 2) nK (nL (pv 4)))) nK (nL ah))) (bH 5 ia.nd)
   (aq (br (fN (cF (aC lT hr T.lO.c aL (aa (pv 1) (aa (pv 2) (aa (pv 5) ae)))))) (aq (aF fM)) aQ)))
   (ai (aG (i:=6) ia.nd rfl (Or.inl rfl) (aK jv ah (cg K T.c9 (aa (aM (cu K) (pv 1) ah) ae))))
   (ai (eT PassesOwn.never rfl (mE K (ef (aa ah (aa (aK cR (aC cQ hr T.eF.c aL (aa (pv 3) (aa ah ae))) (pv 6)) (aa (aK eU (pv 6) (aC cQ hr T.eF.c aL (aa (pv 3) (aa ah ae)))) (aa (aK iO (Dv yD ah) (aK cR (pv 3) (aK Dw ah ah))) ae)))))) (qB (i:=7) ia.nd rfl (Or.inr rfl))
   (ai (aG (i:=8) ia.nd rfl (Or.inr rfl) uP)
   (ai (br (PW.pt (i7 (aJ nJ (pv 7) ah (aH _)) (j6 (aJ Al (pv 7) (pv 6) (aH _))))) (aq (aG (i:=8) ia.nd rfl (Or.inr rfl) cJ)) (aq (br (aJ (u3 K) (pv 7) (pv 2) (by with_unfolding_all rfl)) (aq (aG (i:=8) ia.nd rfl (Or.inr rfl) cJ)) aQ)))
   (ai (lW (i:=9) ia.nd rfl rfl (own:=["way"]) (fq:=["web","some"]) (js:=[1,7]) (aI (aj xK) ["script","web","rings","head","at","ring","far","some","due","heard"]) rfl (cB (by rfl) T.cX (aa (aK uQ ah (dD lV (by rfl) T.yc PyProof.Rows.boot_int (aa (bI Ge (pv 8) uP (aH _)) ae))) ae)) (fun _ _ _ _=>(bH 0 (l9 ["way","web","some"]))) (fun _ _ _ _=>cH) (fun _ _ _ _=>(aC jG hr T.jE.c aL (aa (pv 1) (aa (pv 2) (aa (pv 0) ae))))))
   (aq (br (aJ (IZ K hr.units) (bw (own:=["word"]) (fq:=["due"]) (js:=[8]) (aI (aj xK) ["script","web","rings","head","at","ring","far","some","due","heard"]) rfl (mE K (pv 9)) (fun _ _ _ _=>(bH 0 (l9 ["word","due"]))) (fun _ _ _ _=>(dO (aJ qV (pv 0) (pv 1) (aH _)))) (fun _ _ _ _=>(pv 0))) (ef ae) (aH _)) (aq (aF fM)) aQ))))))
   (aq (aF fM))))))))),?_⟩
  refine JI ?_;intro ck cT dz eX gF mP qa uN A5 ER ES Cf ET EU EV EW EX;refine(ak rfl ⟨b,ns,9,5,rfl,hS,hn,by decide,fun wb p ts H1 s1 g p2 p6 TH hw=>?_⟩)
  have htb:=s1 _ _ TF;obtain⟨bt,xs,h1,h2,h3⟩:=id hw.ex;have wd:=h3.length;have zc:(1:Int)*2^((xs.length:Nat):Int).toNat=((2^ts.length:Nat):Int):=by rw[ir,wd]
  have big:(2:Nat)^ts.length<=2^9:=Nat.pow_le_pow_right (by decide) TH
  have tp:=Nat.two_pow_pos ts.length;refine(ak rfl ⟨wb,p,ts,g,rfl,hw,by lia,fun L l H7 OQ O9 MA R=>?_⟩)
  have F0:=R.few (by lia)
  have VS:∀ r∈l,r<2^ts.length:=fun r hr=>((R.all r).mp hr).1
  have h8:g.N.az.length<=8:=by
   by_cases h0:0<g.N.n
   ·have:=RM.B8 h0;have h2:g.N.n=ts.length:=rfl
    lia
   ·have h1:g.N.az.length<=(List.range g.N.n).length:=List.length_filter_le ..;rw[List.length_range]at h1
    lia
  have TJ:=s1.trans O9;refine(ak rfl ⟨b,ns,0,rfl,(by decide),TJ.seq hS,fun z0=>?_⟩)
  refine(ak rfl ⟨_,2,rfl,(by decide),(by decide),fun z1 VT VU=>?_⟩)
  have mx:∀ x y:Int,0<y->0<(if x > y then x else y):=fun x y h=>by split<;>lia
  refine(ak rfl (m5 rfl (.inl (aO.of MA)) ⟨_,_,rfl,_,_,rfl,rfl,mx _ _ (by decide),?_⟩))
  refine(ak rfl (ak rfl (ak rfl ⟨L,_,rfl,aO.of MA,fun c1 hc1=>?_⟩)))
  obtain⟨l1,e1,n1,m1⟩:=sR l (some (z1%(if((aB l).length:Int) > 1 then((aB l).length:Int) else 1))) none
  obtain⟨l2,e2,n2,m2⟩:=sR l none (some (z1%(if((aB l).length:Int) > 1 then((aB l).length:Int) else 1)))
  rw[e1];have t1:au H7 (upd H7 c1 (.lst (aB l1))):=au.new hc1;have J0:upd H7 c1 (.lst (aB l1)) c1=some (.lst (aB l1)):=af;generalize upd H7 c1 (.lst (aB l1))=H8 at t1 J0;refine(ak rfl (ak rfl (ak rfl ⟨L,_,rfl,aO.of (t1 _ _ MA),fun c2 hc2=>?_⟩)))
  rw[e2];have t2:au H8 (upd H8 c2 (.lst (aB l2))):=au.new hc2;have Ka:upd H8 c2 (.lst (aB l2)) c2=some (.lst (aB l2)):=af;generalize upd H8 c2 (.lst (aB l2))=H9 at t2 Ka;refine⟨c1,c2,_,_,rfl,rfl,aO.of (t2 _ _ J0),aO.of Ka,Nat.le_of_lt (cK (by rw[aD,aD];lia)),fun c3 hc3=>?_⟩
  have ea:aB l1++aB l2=aB (l1++l2):=by unfold aB;rw[List.map_append]
  rw[ea];have t3:au H9 (upd H9 c3 (.lst (aB (l1++l2)))):=au.new hc3;have Kc:upd H9 c3 (.lst (aB (l1++l2))) c3=some (.lst (aB (l1++l2))):=af;generalize upd H9 c3 (.lst (aB (l1++l2)))=Mq at t3 Kc;obtain⟨l3,e3,n3,m3⟩:=sR (l1++l2) none (some 3);refine(ak rfl ⟨c3,_,rfl,aO.of Kc,fun c4 hc4=>?_⟩)
  rw[e3];have t4:au Mq (upd Mq c4 (.lst (aB l3))):=au.new hc4;have Ht:upd Mq c4 (.lst (aB l3)) c4=some (.lst (aB l3)):=af;generalize upd Mq c4 (.lst (aB l3))=H11 at t4 Ht;have ml:∀ x∈l3,x∈l:=fun x hx=>by
   rcases List.mem_append.mp (m3 x hx) with z|z
   ·exact m1 x z
   ·exact m2 x z
  have TL:=((t1.trans t2).trans t3).trans t4;refine⟨c4,rfl,⟨_,aO.of Ht⟩,c7 (K:=K) (a:=c4) (xs:=aB l3) (fun i σ Hu=>∃ v4 v5,σ=[some (.ref b),some (.ref wb),some (.ref L),some (.int z0),v4,v5,none,none,none,none]/\au H7 Hu/\au H11 Hu) ⟨_,_,rfl,TL,au.refl _⟩ (fun i σ Hu _ ⟨_,_,_,_,z⟩=>aO.of (z _ _ Ht)) ?_ ?_⟩
  ·rintro i y D' σ Hu hi ⟨v4,v5,rfl,u1,u2⟩;obtain⟨m,hmi,rfl⟩:=bM hi;have hml:=ml m (nv hmi);have w1:=O9.trans u1;exact(ak rfl (ak rfl (ak rfl ⟨wb,p,ts,g,L,l,m,rfl,hw.same w1,w1 _ _ htb,u1 _ _ MA,R,h8,by lia,hml,fun FI i5=>(ak rfl (bh ⟨_,_,rfl,u1.trans i5,u2.trans i5⟩))⟩)))
  rintro σ Hu ⟨v4,v5,rfl,u1,u2⟩;clear u2 Ht Kc Ka J0;have w1:=O9.trans u1;refine(ak rfl (bU (aY.of (w1 _ _ h1)) (ao (j:=1) rfl) (m5 rfl (.inr (aY.of (w1 _ _ h2))) (bG ⟨⟨by lia,by lia,by decide⟩,?_⟩))))
  dsimp only;rw[zc];refine(ak rfl ⟨_,3,rfl,(by decide),(by decide),fun z3 VV VW=>(ak rfl (bG ⟨(by lia),ak rfl (ak rfl ⟨_,4,rfl,(by decide),(by decide),fun z4 VX VY=>(bG (ak rfl (ak rfl (?_))))⟩)⟩))⟩)
  refine(bG ⟨⟨by decide,by decide,by decide⟩,bG ⟨(show(0:Int)<10^(40:Int).toNat by decide),bG ⟨dl rfl,fun M hM=>?_⟩⟩⟩)
  have x1:au Hu (upd Hu M (.lst (([0,z3%((2^ts.length:Nat):Int),((2^ts.length:Nat):Int)+z4,-1-z0%10^(40:Int).toNat]:List Int).map V.int))):=au.new hM;have Nq:upd Hu M (.lst (([0,z3%((2^ts.length:Nat):Int),((2^ts.length:Nat):Int)+z4,-1-z0%10^(40:Int).toNat]:List Int).map V.int)) M=some (.lst (([0,z3%((2^ts.length:Nat):Int),((2^ts.length:Nat):Int)+z4,-1-z0%10^(40:Int).toNat]:List Int).map V.int)):=af;refine⟨M,rfl,⟨_,aO.of Nq⟩,c7 (K:=K) (a:=M) (xs:=([0,z3%((2^ts.length:Nat):Int),((2^ts.length:Nat):Int)+z4,-1-z0%10^(40:Int).toNat]:List Int).map V.int) (fun i σ FI=>∃ v4 v5 v7 v8 v9,σ=[some (.ref b),some (.ref wb),some (.ref L),some (.int z0),v4,v5,some (.int ((2^ts.length:Nat):Int)),v7,v8,v9]/\au Hu FI/\FI M=some (.lst (([0,z3%((2^ts.length:Nat):Int),((2^ts.length:Nat):Int)+z4,-1-z0%10^(40:Int).toNat]:List Int).map V.int))) ⟨_,_,_,_,_,rfl,x1,Nq⟩ (fun i σ FI _ ⟨_,_,_,_,_,_,_,z⟩=>aO.of z) ?_ ?_⟩
  ·rintro i y D' σ FI hi ⟨v4,v5,v7,v8,v9,rfl,x2,CW⟩;obtain⟨S,_,rfl⟩:=List.mem_map.mp (nv hi);have w2:=w1.trans x2;have Pa:=(u1.trans x2) _ _ MA;have tail:∀(d:Str),((S<0\/2^ts.length<=S)/\d="BadSet")\/((∃ m:Nat,S=(m:Int)/\m<2^ts.length/\¬ g.N.Ring m)/\d="NotRing")->eX D' [some (.ref b),some (.ref wb),some (.ref L),some (.int z0),v4,v5,some (.int ((2^ts.length:Nat):Int)),some (.int S),some (.str d),v9] FI:=fun d hd=>by
    refine(ak rfl ⟨rfl,.inr (ak rfl (bG ⟨(.inl ⟨by decide,by decide⟩),2,rfl,(by decide),(by decide),fun X hX=>dh (lo:=0) (m:=(2:Int).toNat) (fun i acc Ba=>au FI Ba/\Ba X=some (.lst acc)/\acc=List.replicate i (.str d)) ⟨au.new hX,af,rfl⟩ (fun i acc Ba _ z=>⟨z.2.1,by rw[z.2.2,List.length_replicate];exact Nat.le_refl _⟩) (dP (by decide)) ?_ ?_⟩))⟩)
    ·rintro k acc Ba hk ⟨x3,iL,rfl⟩;rw[Int.zero_add];have w3:=w2.trans x3;have Mw:∀ t8,au Ba t8->t8 X=some (.lst (List.replicate k (.str d)))/\au FI (upd t8 X (.lst (List.replicate k (.str d)++[.str d])))/\upd t8 X (.lst (List.replicate k (.str d)++[.str d])) X=some (.lst (List.replicate k (.str d)++[.str d]))/\List.replicate k (V.str d)++[.str d]=List.replicate (k+1) (.str d):=fun t8 x4=>⟨x4 _ _ iL,(x3.trans x4).put hX,af,List.replicate_succ'.symm⟩
     refine⟨rfl,ak rfl (ak rfl (ak rfl ⟨wb,p,ts,g,S,k,rfl,hw.same w3,w3 _ _ htb,h8,by lia,?_⟩))⟩
     rcases hd with⟨h,rfl⟩|⟨h,rfl⟩
     ·exact .inl ⟨h,Mw⟩
     ·exact .inr ⟨h,Mw⟩
    ·rintro acc Ba ⟨x3,iL,rfl⟩;refine(ak rfl ⟨X,rfl,⟨_,aO.of iL⟩,fun Y hY=>aU (K:=K) (a:=X) (xs:=List.replicate (2:Int).toNat (.str d)) (fun i acc t8=>au Ba t8/\t8 Y=some (.lst acc)/\acc=[]) ⟨au.new hY,af,rfl⟩ (fun i acc t8 _ z=>⟨aO.of (z.1 _ _ iL),z.2.1,by rw[z.2.2];exact Nat.zero_le _⟩) (dP (by rw[List.length_replicate];decide)) ?_ ?_⟩)
     ·rintro k x acc t8 hx ⟨x4,Dd,rfl⟩;obtain rfl:=List.eq_of_mem_replicate (nv hx);refine⟨rfl,ak rfl (ak rfl ⟨rfl,ak rfl (?_)⟩)⟩;rw[cU rfl];exact bh ⟨x4,Dd,rfl⟩
     ·rintro acc t8 ⟨x4,Dd,rfl⟩;refine⟨dl rfl,fun Z hZ=>?_⟩
      have x5:au t8 (upd t8 Z (.lst [])):=au.new hZ;refine⟨_,_,.lst (aO.of (x5 _ _ Dd)) .nil,.lst (aO.of af) .nil,rfl,rfl,ak rfl (bh ⟨_,_,_,_,_,rfl,((x2.trans x3).trans x4).trans x5,((x3.trans x4).trans x5) _ _ CW⟩)⟩
   have none:eX D' [some (.ref b),some (.ref wb),some (.ref L),some (.int z0),v4,v5,some (.int ((2^ts.length:Nat):Int)),some (.int S),some .fL,v9] FI:=by
    refine(ak rfl ⟨rfl,.inr (ak rfl (bG ⟨(.inl ⟨by decide,by decide⟩),0,rfl,(by decide),(by decide),fun X hX=>dh (lo:=0) (m:=(0:Int).toNat) (fun i acc Ba=>au FI Ba/\Ba X=some (.lst acc)/\acc=[]) ⟨au.new hX,af,rfl⟩ (fun i acc Ba _ z=>⟨z.2.1,by rw[z.2.2];exact Nat.zero_le _⟩) (dP (by decide)) (fun k acc Ba hk _=>absurd hk (Nat.not_lt_zero _)) ?_⟩))⟩)
    rintro acc Ba ⟨x3,iL,rfl⟩;refine(ak rfl ⟨X,rfl,⟨_,aO.of iL⟩,fun Y hY=>aU (K:=K) (a:=X) (xs:=[]) (fun i acc t8=>au Ba t8/\t8 Y=some (.lst acc)/\acc=[]) ⟨au.new hY,af,rfl⟩ (fun i acc t8 _ z=>⟨aO.of (z.1 _ _ iL),z.2.1,by rw[z.2.2];exact Nat.zero_le _⟩) (dP (by decide)) (fun k x acc t8 hx _=>by simp at hx) ?_⟩)
    rintro acc t8 ⟨x4,Dd,rfl⟩;refine⟨dl rfl,fun Z hZ=>?_⟩
    have x5:au t8 (upd t8 Z (.lst [])):=au.new hZ;exact⟨_,_,.lst (aO.of (x5 _ _ Dd)) .nil,.lst (aO.of af) .nil,rfl,rfl,ak rfl (bh ⟨_,_,_,_,_,rfl,((x2.trans x3).trans x4).trans x5,((x3.trans x4).trans x5) _ _ CW⟩)⟩
   have e2:((2:Int)^ts.length)=((2^ts.length:Nat):Int):=by simp
   refine(ak rfl (bG (ak rfl (gr (fun h=>?_) (fun h=>?_)))))
   ·have h:S<0:=i6 h;exact bQ (tail _ (.inl ⟨.inl h,rfl⟩))
   have h : ¬ S<0:=fun z=>h (cU z)
   refine(ak rfl (ak rfl (bG (ak rfl (gr (fun hb=>?_) (fun hb=>?_))))))
   ·have hb:((2^ts.length:Nat):Int)<=S:=i6 hb;exact tail _ (.inl ⟨.inr (by lia),rfl⟩)
   have hb : ¬((2^ts.length:Nat):Int)<=S:=fun z=>hb (cU z)
   obtain⟨m,rfl⟩:∃ m:Nat,S=(m:Int):=⟨S.toNat,by lia⟩
   refine(ak rfl (ak rfl (m5 rfl (.inl (aO.of Pa)) ⟨rfl,pe _,_,rfl,?_⟩)));rw[if_pos rfl,n5]
   by_cases hml:m∈l
   ·rw[cU hml];exact bh none
   ·rw[ff hml];exact bQ (tail _ (.inr ⟨⟨m,rfl,by lia,fun r=>hml ((R.all m).mpr ⟨by lia,r⟩)⟩,rfl⟩))
  ·rintro σ FI ⟨v4,v5,v7,v8,v9,rfl,x2,CW⟩;exact fin _
end
section
variable {l:PySem.W.OpenLaw}{w:World}{K:bO}{h:Heap}{mg:kX}{fa f0 f1 f2 f3 f4 f5 f6 f7 f8 f9 Qy Qz QA QB QC QD QE QF QG QH QI QJ QK QL QM QN QO QS QT QU QV QW f32 QX QY QZ Q0 Q2 Q3 Q4 Q5 Q6 Q7 Q8 Q9 Ra Rb Rc Rf Rg Rh Ri Rj Rk Rl Rm Rn Ro TM ju b9 bE jX jY oS eS:Addr}{d0 d1 d2 d3 d4 d5 d6 d7 d8 d9 TN TQ TR TU TV TX TY TZ T3 T4 T5 T6 T7 T8 T9 Ua Ub Uc Ud Ue Ug Uh Ui Uj Uk Ul Um Uo Uq Ur Us Ut Uu Uv Uw Ux Uy Uz UA UB UC UD UE UG UH UI UJ UK UL:FuncData}{ts:List Addr}{yo:Tok}
open PySem.W
theorem all_mk(X:K.In h)(G:h.Ns mainGlobals mg)(UM:mg "law"=some (.ref fa))(te:ts=[eS])
 (d_RingError:nsIn K mainGlobals "RingError"=some (some (.ref ju)))
 (d_BadSet:nsIn K mainGlobals "BadSet"=some (some (.ref b9)))
 (d_NotRing:nsIn K mainGlobals "NotRing"=some (some (.ref bE)))
 (d_NoChord:nsIn K mainGlobals "NoChord"=some (some (.ref jX)))
 (d_TooMany:nsIn K mainGlobals "TooMany"=some (some (.ref jY)))
 (xc_BadSet:excIn K b9 [.type "ValueError",.type "Exception",.type "BaseException",.type "object"] "ValueError.__new__"=true)
 (ea_BadSet:findIn K (.ref b9) "__getattribute__"=some (some (.builtin "BaseException.__getattribute__"))) (eb_BadSet:findIn K (.ref b9) "__getattr__"=some none)
 (ec_BadSet:findIn K (.ref b9) "__class__"=some (some (.builtin "object.__class__"))) (ed_BadSet:specialIn K (.builtin "object.__class__") "__get__"=some (some (.builtin "getset_descriptor.__get__")))
 (ee_BadSet:takesIn K (.builtin "object.__class__")=some true) (ef_BadSet:mroIn K b9 (.type "object")=some true) (eg_BadSet:hasDictIn K b9=true) (eh_BadSet:mroIn K b9 (.type "BaseException")=some true)
 (hx_BadSet:exmOne K (.ref b9) (.ref ju)=some true)
 (qv_BadSet:kitOne K (.ref b9) (.type "ValueError")=some true)
 (q_BadSet_BadSet:kitOne K (.ref b9) (.ref b9)=some true)
 (q_BadSet_NotRing:kitOne K (.ref b9) (.ref bE)=some false)
 (q_BadSet_NoChord:kitOne K (.ref b9) (.ref jX)=some false)
 (q_BadSet_TooMany:kitOne K (.ref b9) (.ref jY)=some false)
 (xc_NotRing:excIn K bE [.type "ValueError",.type "Exception",.type "BaseException",.type "object"] "ValueError.__new__"=true)
 (ea_NotRing:findIn K (.ref bE) "__getattribute__"=some (some (.builtin "BaseException.__getattribute__"))) (eb_NotRing:findIn K (.ref bE) "__getattr__"=some none)
 (ec_NotRing:findIn K (.ref bE) "__class__"=some (some (.builtin "object.__class__"))) (ed_NotRing:specialIn K (.builtin "object.__class__") "__get__"=some (some (.builtin "getset_descriptor.__get__")))
 (ee_NotRing:takesIn K (.builtin "object.__class__")=some true) (ef_NotRing:mroIn K bE (.type "object")=some true) (eg_NotRing:hasDictIn K bE=true) (eh_NotRing:mroIn K bE (.type "BaseException")=some true)
 (hx_NotRing:exmOne K (.ref bE) (.ref ju)=some true)
 (qv_NotRing:kitOne K (.ref bE) (.type "ValueError")=some true)
 (q_NotRing_BadSet:kitOne K (.ref bE) (.ref b9)=some false)
 (q_NotRing_NotRing:kitOne K (.ref bE) (.ref bE)=some true)
 (q_NotRing_NoChord:kitOne K (.ref bE) (.ref jX)=some false)
 (q_NotRing_TooMany:kitOne K (.ref bE) (.ref jY)=some false)
 (xc_NoChord:excIn K jX [.type "ValueError",.type "Exception",.type "BaseException",.type "object"] "ValueError.__new__"=true)
 (xc_TooMany:excIn K jY [.type "ValueError",.type "Exception",.type "BaseException",.type "object"] "ValueError.__new__"=true)
 (nt:noTabs K=true) (pn:([eS]:List Addr).Nodup) (pi:∀ p∈([eS]:List Addr),p∈ts)
 (a0:Dk K "has_tie" pD f0 d0)
 (a1:Dk K "ties_in" mh f1 d1)
 (a2:Dk K "all_ties" m6 f2 d2)
 (a3:Dk K "is_set" sj f3 d3)
 (a4:Dk K "check_set" lB f4 d4)
 (a5:Dk K "triples_in" iy f5 d5)
 (a6:Dk K "length_of" jh f6 d6)
 (a7:Dk K "odd_points" iz f7 d7)
 (a8:Dk K "drawn_together" eI f8 d8)
 (a9:Dk K "pieces" oh f9 d9)
 (UN:Dk K "rank" zk Qy TN)
 (UO:Dk K "is_even" pF Qz TQ)
 (UP:Dk K "forest_trails" fg QA TR)
 (UQ:Dk K "forest" sq QB TU)
 (UR:Dk K "chords" sr QC TV)
 (US:Dk K "ring_closed" jy QD TX)
 (UT:Dk K "chord_ring" kh QE TY)
 (UU:Dk K "is_ring" mq QF TZ)
 (UW:Dk K "is_ring_number" gG QG T3)
 (UX:Dk K "check_ring" ki QH T4)
 (Rp:LW K "by_length" jj QI T5 oS eS)
 (UY:Dk K "common" sy QJ T6)
 (UZ:Dk K "bears_oddly" jz QK T7)
 (U0:Dk K "reduced" pH QL T8)
 (U1:Dk K "with_row" m7 QM T9)
 (U3:Dk K "rows_of" pI QN Ua)
 (U4:Dk K "check_rank" kj QO Ub)
 (U5:Dk K "even_sets" jk QS Uc)
 (U6:Dk K "all_rings" jl QT Ud)
 (U7:Dk K "shorter_rings" fh QU Ue)
 (U8:Dk K "other_rings" gS QV Ug)
 (U9:Dk K "parts_of" ko QW Uh)
 (a32:Dk K "marks_against" h7 f32 Ui)
 (Va:Dk K "ring_paper" kq QX Uj)
 (Vb:Dk K "is_sum_of" lF QY Uk)
 (Vc:Dk K "all_rings_shorter" cW QZ Ul)
 (Vd:Dk K "all_rings_other" dQ Q0 Um)
 (Ve:Dk K "marks_part" iA Q2 Uo)
 (Vf:Dk K "paper_judged" iZ Q3 Uq)
 (Vg:Dk K "_law_cell_at" jA Q4 Ur)
 (Vh:Dk K "_law_mixed" lG Q5 Us)
 (Vi:Dk K "_law_length" ku Q6 Ut)
 (Vj:Dk K "_law_tie" pL Q7 Uu)
 (Vk:Dk K "_law_web" gI Q8 Uv)
 (Vl:Dk K "_law_whole" lH Q9 Uw)
 (Vm:Dk K "_law_counts" kB Ra Ux)
 (Vn:Dk K "_law_pieces" fW Rb Uy)
 (Vo:Dk K "_law_even" kC Rc Uz)
 (Vp:Dk K "_law_ring" i0 Rf UA)
 (Vq:Dk K "_law_long" kD Rg UB)
 (Vr:Dk K "_law_odd" pM Rh UC)
 (Vs:Dk K "_law_all_rings" fj Ri UD)
 (Vt:Dk K "_law_rings_right" fX Rj UE)
 (Vu:Dk K "_law_marks_right" dR Rk UG)
 (Vv:Dk K "_law_paper_right" cP Rl UH)
 (Vw:Dk K "_law_form" ng Rm UI)
 (Vx:Dk K "_law_right" lI Rn UJ)
 (Vy:Dk K "_law_refusal" jC Ro UK)
 (Pb:Dk K "law" xK TM UL)
 (wu:Ng K "ValueError")
 (MB:Ng K "all")
 (MC:Ng K "any")
 (Kd:Ng K "bool")
 (yp:Ng K "enumerate")
 (MD:Ng K "int")
 (wz:Ng K "isinstance")
 (ME:Ng K "len")
 (Ke:Ng K "list")
 (MF:Ng K "max")
 (MG:Ng K "min")
 (Hv:Ng K "range")
 (MH:Ng K "set")
 (FJ:Ng K "sorted")
 (MI:Ng K "str")
 (MJ:Ng K "sum")
 (Hw:Ng K "tuple")
 (MK:Ng K "zip")
 (yq:nsIn K mainGlobals "MOST_RANK"=some (some (.int 8 yo)))
 : ∃(fd:FuncData) (tb:qh),((tb.map (·.1)).Nodup/\noTabs K=true/\∀ p∈tb,p.1∈ts/\∃ c,codeHdIn K c p.1=true)/\(∀(s:Shared) (v:Value),BindsTo s fd ⟨[v],[]⟩ [("script",v)])/\∀ base:Heap,K.In base->base.Ns mainGlobals mg->k7 l.prog w K mg base Ar 14 fa fd ["script"] (wq K tb):=by
 have e:=UM.symm.trans (mg_of X G Pb.n);cases e;have T:∀ base,Txt l.prog w base K mg ⟨f0,_,f1,_,f2,_,f3,_,f4,_,f5,_,f6,_,f7,_,f8,_,f9,_,Qy,_,Qz,_,QA,_,QB,_,QC,_,QD,_,QE,_,QF,_,QG,_,QH,_,QI,_,QJ,_,QK,_,QL,_,QM,_,QN,_,QO,_,QS,_,QT,_,QU,_,QV,_,QW,_,f32,_,QX,_,QY,_,QZ,_,Q0,_,Q2,_,Q3,_,Q4,_,Q5,_,Q6,_,Q7,_,Q8,_,Q9,_,Ra,_,Rb,_,Rc,_,Rf,_,Rg,_,Rh,_,Ri,_,Rj,_,Rk,_,Rl,_,Rm,_,Rn,_,Ro,_,fa,_,ju,b9,bE,jX,jY,oS,eS⟩:=fun _=>⟨nA X G a0,A3 X G a1,A3 X G a2,nA X G a3,nA X G a4,nA X G a5,nA X G a6,nA X G a7,FY X G a8,nA X G a9,A3 X G UN,nA X G UO,A3 X G UP,A3 X G UQ,A3 X G UR,FY X G US,nA X G UT,nA X G UU,nA X G UW,nA X G UX,SM X G Rp,nA X G UY,nA X G UZ,nA X G U0,nA X G U1,A3 X G U3,A3 X G U4,A3 X G U5,A3 X G U6,nA X G U7,nA X G U8,FY X G U9,nA X G a32,nA X G Va,nA X G Vb,FY X G Vc,FY X G Vd,M8 X G Ve,FY X G Vf,nA X G Vg,nA X G Vh,nA X G Vi,FY X G Vj,FY X G Vk,A3 X G Vl,nA X G Vm,nA X G Vn,nA X G Vo,nA X G Vp,nA X G Vq,nA X G Vr,A3 X G Vs,M8 X G Vt,M8 X G Vu,M8 X G Vv,A3 X G Vw,FY X G Vx,FY X G Vy,A3 X G Pb,mg_none_of X G wu.n,mg_none_of X G MB.n,mg_none_of X G MC.n,mg_none_of X G Kd.n,mg_none_of X G yp.n,mg_none_of X G MD.n,mg_none_of X G wz.n,mg_none_of X G ME.n,mg_none_of X G Ke.n,mg_none_of X G MF.n,mg_none_of X G MG.n,mg_none_of X G Hv.n,mg_none_of X G MH.n,mg_none_of X G FJ.n,mg_none_of X G MI.n,mg_none_of X G MJ.n,mg_none_of X G Hw.n,mg_none_of X G MK.n,⟨_,mg_of X G yq⟩,mg_of X G d_RingError,mg_of X G d_BadSet,mg_of X G d_NotRing,mg_of X G d_NoChord,mg_of X G d_TooMany,fun h1 X1 G1=>u6 X1 G1 d_BadSet xc_BadSet,⟨ea_BadSet,eb_BadSet,ec_BadSet,ed_BadSet,ee_BadSet,ef_BadSet,eh_BadSet,DS eg_BadSet⟩,hx_BadSet,qv_BadSet,q_BadSet_BadSet,q_BadSet_NotRing,q_BadSet_NoChord,q_BadSet_TooMany,fun h1 X1 G1=>u6 X1 G1 d_NotRing xc_NotRing,⟨ea_NotRing,eb_NotRing,ec_NotRing,ed_NotRing,ee_NotRing,ef_NotRing,eh_NotRing,DS eg_NotRing⟩,hx_NotRing,qv_NotRing,q_NotRing_BadSet,q_NotRing_NotRing,q_NotRing_NoChord,q_NotRing_TooMany,fun h1 X1 G1=>u6 X1 G1 d_NoChord xc_NoChord,fun h1 X1 G1=>u6 X1 G1 d_TooMany xc_TooMany⟩
 exact⟨_,[(eS,tu "by_length",bX)],⟨pn,nt,fun p hp=>⟨pi _ (List.mem_map_of_mem (f:=(·.1)) hp),by simp only[List.mem_cons,List.not_mem_nil,or_false]at hp;rcases hp with rfl;all_goals first | exact⟨_,Rp.F.hd⟩⟩⟩,JH Pb,fun base _ _=>Mz (T base)⟩
end
theorem walk{l:PySem.W.OpenLaw}{q:Program}{loose:List Str}{XP:(Str->Option Value)->Heap->Prop}{YP:World->Heap->Prop}{d:DefRec}{K:Params->bO}{ts:List Addr}(hn:l.most=some 63)(Lh:d.params.defaults=[])
 (hY:∀(w:World) (h:Heap),YP w h->(K w.params).In h/\∀ P∈ts,h.get? P=some (PySem.W.tabObj #[]))
 (F:∀(w:World) (mg:kX) (fa:Addr) (h:Heap),(K w.params).In h->h.Ns mainGlobals mg->mg d.name=some (.ref fa)->
  ∃(fd:FuncData) (tb:qh),((tb.map (·.1)).Nodup/\PySem.W.noTabs (K w.params)=true/\∀ p∈tb,p.1∈ts/\∃ c,PySem.W.codeHdIn (K w.params) c p.1=true)/\(∀(s:Shared) (u:Value),BindsTo s fd ⟨[u],[]⟩ [("script",u)])/\∀ base:Heap,(K w.params).In base->base.Ns mainGlobals mg->k7 l.prog w (K w.params) mg base Ar 14 fa fd ["script"] (wq (K w.params) tb)) :
 PySem.W.WalkO q loose XP YP l.row.toRowW d [] (fun f vs=>PySem.call f vs) :=
 L2.EF (n:=63) (k:=14) (x:="script") (CX:=fun _=>Ar) (sp:=fun w=>wq (K w.params)) hn (by decide) Lh ⟨rfl,by decide,by decide⟩ hY F (fun _ _ a ns tb hl hT hS=>⟨a,ns,rfl,hS,hl,hT,fun _=>rfl⟩) fun _ _ _ _ _ z=>z
end K35
namespace PySem.W.Fast
def tw11103844385524118683:=()
def tw17377951783038758235:=()
def tw5869456978890558376:=()
def tw17385552551734242439:=()
def tw11251866730628888438:=()
def tw10357558467122214785:=()
def tw6235037014839765357:=()
def tw16692289890838926695:=()
def tw4872736613848871387:=()
def tw6639892968808591546:=()
def tw7927262265677577906:=()
def tw7884398144311793151:=()
def tw8684986120331031051:=()
def tw2151514910300656983:=()
def tw8711765274208545518:=()
def tw2223892965968099627:=()
def tw5685955418792339290:=()
def tw6635675747438729607:=()
def tw4528179735166803620:=()
def tw5947940681874940313:=()
def tw2980356517684443508:=()
def tw2592663420212982588:=()
def tw16141851756302733819:=()
def tw13428313410119687336:=()
def tw12947604139817725074:=()
def tw13855042257258917266:=()
def tw6001067110912820751:=()
def tw13608676907745103278:=()
def tw2679069738374146979:=()
def tw13727979807214714425:=()
def tw15666040968794426895:=()
def tw10042054225130916483:=()
def tw2277147354438231003:=()
def tw11934433953530799077:=()
def tw10673610353982914082:=()
def tw17149046992394312400:=()
def tw18257639934368268149:=()
def tw14546387866975668438:=()
def tw4811223053705483261:=()
def tw13461016252188106350:=()
def tw16860270081716844929:=()
def tw6301861791797682555:=()
def tw14972374340081536982:=()
def tw8816619966522793848:=()
def tw2613993940923049706:=()
def tw9603849065889361768:=()
def tw17292489267247131038:=()
def tw11113674871777315003:=()
def tw792748620530747972:=()
def tw16071166290857351076:=()
def tw13296342846170733296:=()
def tw9462456721918949590:=()
def tw5738339743510407180:=()
def tw434046237128091046:=()
def tw4758341027052607688:=()
def tw4120154796531990699:=()
def tw16540735479854258636:=()
def tw15697582598641219142:=()
def tw13995027122635861799:=()
def tw1396091845503562847:=()
def tw3820006098219014316:=()
def tw12367636962104936822:=()
def tw8666593002488621264:=()
def tw17602199956992761821:=()
def tw4251377038153610584:=()
def tw13564125619439473986:=()
def tw6525559248188104284:=()
def tw9749245608002034495:=()
def tw12034827986365584642:=()
def tw16580753511816525274:=()
def tw17192695108680690663:=()
def tw13580598468929726196:=()
def tw6980295512460197869:=()
def tw4901836596973043001:=()
def tw3209465811901879159:=()
def tw16010090772605226522:=()
def tw9076116286139109949:=()
def tw16711131195809375214:=()
def tw4208369019401790196:=()
def tw10571090634481580490:=()
def tw521729406530149176:=()
def tw14303344267261092530:=()
def tw11142465410957143420:=()
def tw15827070556991241670:=()
def tw3631495176644545714:=()
def tw12350726984949186405:=()
def tw15945756906627395440:=()
def tw17889570407700181150:=()
def tw3296233759349059716:=()
def tw11269715637185922699:=()
def tw18298522459316446359:=()
def tw4283107568261671462:=()
def tw13278590006042559838:=()
def tw233817288228677248:=()
def tw6085018564654937816:=()
def tw2714347505675843871:=()
def tw11100314920555019802:=()
def tw15785577674663677707:=()
def tw17494994881467123142:=()
def tw5080173414727739799:=()
def tw8312534354262788484:=()
def tw15684169203302385240:=()
end PySem.W.Fast
open PySem PySem.W PyProof.Rows
set_option maxRecDepth 100000 in
set_option maxHeartbeats 0 in
theorem PySem.Challenge.cw_ringbase_k35_papers_of_rings_holds : PySem.Challenge.rw_ringbase_k35_papers_of_rings.Holds := by
 w_on;o_law;k_head;(case hw=>w_witness2)
 k_fill
 refine K35.walk (l:=PySem.Challenge.rw_ringbase_k35_papers_of_rings) rfl rfl (fun w h Y=>⟨PySem.W.km_in_of Y,PySem.W.km_tabs_of Y⟩) ?F
 case F =>
  intro w mg fa h KX G hmg;refine' K35.all_mk KX G hmg ?te ?d_RingError ?d_BadSet ?d_NotRing ?d_NoChord ?d_TooMany ?xc_BadSet ?ea_BadSet ?eb_BadSet ?ec_BadSet ?ed_BadSet ?ee_BadSet ?ef_BadSet ?eg_BadSet ?eh_BadSet ?hx_BadSet ?qv_BadSet ?q_BadSet_BadSet ?q_BadSet_NotRing ?q_BadSet_NoChord ?q_BadSet_TooMany ?xc_NotRing ?ea_NotRing ?eb_NotRing ?ec_NotRing ?ed_NotRing ?ee_NotRing ?ef_NotRing ?eg_NotRing ?eh_NotRing ?hx_NotRing ?qv_NotRing ?q_NotRing_BadSet ?q_NotRing_NotRing ?q_NotRing_NoChord ?q_NotRing_TooMany ?xc_NoChord ?xc_TooMany ?nt ?pn ?pi ..
  (case te=>exact rfl)
  (case d_RingError=>k_is)
  (case d_BadSet=>k_is)
  (case d_NotRing=>k_is)
  (case d_NoChord=>k_is)
  (case d_TooMany=>k_is)
  any_goals (refine' L2.dk ?ga ?gl ?gc ?gk;(case ga=>k_is);(case gl=>k_is);(case gc=>k_is);(case gk=>k_is))
  any_goals (refine' L2.SH ?ga ?gl ?gc ?gk ?gd;(case ga=>k_is);(case gl=>k_is);(case gd=>kernel_rfl);(case gc=>k_is);(case gk=>k_is))
  any_goals (refine' L2.Ng.mk ?ga;(case ga=>k_is))
  (case xc_BadSet=>k_exc)
  (case ea_BadSet=>k_is)
  (case eb_BadSet=>k_is)
  (case ec_BadSet=>k_is)
  (case ed_BadSet=>k_is)
  (case ee_BadSet=>k_is)
  (case ef_BadSet=>k_is)
  (case eg_BadSet=>k_is)
  (case eh_BadSet=>k_is)
  (case hx_BadSet=>kts_exm)
  (case qv_BadSet=>kit_is)
  (case q_BadSet_BadSet=>kit_is)
  (case q_BadSet_NotRing=>kit_is)
  (case q_BadSet_NoChord=>kit_is)
  (case q_BadSet_TooMany=>kit_is)
  (case xc_NotRing=>k_exc)
  (case ea_NotRing=>k_is)
  (case eb_NotRing=>k_is)
  (case ec_NotRing=>k_is)
  (case ed_NotRing=>k_is)
  (case ee_NotRing=>k_is)
  (case ef_NotRing=>k_is)
  (case eg_NotRing=>k_is)
  (case eh_NotRing=>k_is)
  (case hx_NotRing=>kts_exm)
  (case qv_NotRing=>kit_is)
  (case q_NotRing_BadSet=>kit_is)
  (case q_NotRing_NotRing=>kit_is)
  (case q_NotRing_NoChord=>kit_is)
  (case q_NotRing_TooMany=>kit_is)
  (case xc_NoChord=>k_exc)
  (case xc_TooMany=>k_exc)
  (case nt=>kernel_rfl)
  (case pn=>decide)
  (case pi=>decide)
  any_goals k_is
