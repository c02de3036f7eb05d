import PyProof.Rows.All
import Wide.All
import OpenK.AllK
import Wide.FinOn
import Lean
import PyProof.EqAt
import PyProof.EqKinds
import PyProof.TupleCall
import PySem.Challenge.RW_ringbase_k34_first_bases
set_option Elab.async false
set_option linter.all false
set_option maxRecDepth 100000
abbrev aQ:=List (PySem.Addr×PySem.Obj)
abbrev dh:=PySem.Value->PySem.Shared->Prop
abbrev kU:=PySem.Str->Option PySem.Value
abbrev bJ:=PySem.W.Frag
namespace L2
open PySem PySem.Spec PyProof.Rows
abbrev Key:=Sum Int Str
def vD:Key->Value->Bool
 | .inl k,v=>Value.isInt k v
 | .inr x,v=>Value.isStrOf x v
def Si(w:World):Key->Int
 | .inl k=>hashInt k
 | .inr x=>hashStr w x
theorem cC:∀{k:Key} {v:Value},vD k v=true->(∃ i t,k=Sum.inl i/\v=Value.int i t)\/(∃ x t,k=Sum.inr x/\v=Value.str x t)
 | .inl i,v,h=>by
   obtain⟨t,e⟩:=Value.isInt_shape (k:=i) (v:=v) h;exact .inl ⟨i,t,rfl,e⟩
 | .inr x,v,h=>by
   obtain⟨t,e⟩:=Value.isStrOf_shape (x:=x) (v:=v) h;exact .inr ⟨x,t,rfl,e⟩
theorem DU(i:Int)(t:Tok):vD (.inl i) (.int i t)=true:=by simp[vD,Value.isInt]
theorem DV(x:Str)(t:Tok):vD (.inr x) (.str x t)=true:=by simp[vD,Value.isStrOf]
theorem Mk(a b:Int):decide ((Sum.inl a:Key)=Sum.inl b)=(a==b):=by
 by_cases e:a=b
 ·subst e;simp
 ·have h : ¬(Sum.inl a:Key)=Sum.inl b:=fun q=>e (Sum.inl.inj q)
  rw[decide_eq_false h];exact(beq_eq_false_iff_ne.mpr e).symm
theorem Ml(a b:Str):decide ((Sum.inr a:Key)=Sum.inr b)=decide (a=b):=by
 by_cases e:a=b
 ·subst e;simp
 ·have h : ¬(Sum.inr a:Key)=Sum.inr b:=fun q=>e (Sum.inr.inj q)
  rw[decide_eq_false h,decide_eq_false e]
theorem Mm(a:Int)(b:Str):decide ((Sum.inl a:Key)=Sum.inr b)=false:=decide_eq_false (fun q=>nomatch q)
theorem Mn(a:Str)(b:Int):decide ((Sum.inr a:Key)=Sum.inl b)=false:=decide_eq_false (fun q=>nomatch q)
def cS(prog:Program)(w:World):PySem.KeyKind prog w Key where
 is:=vD
 hash:=Si w
 inj:=fun v a b ha hb=>by
  rcases cC ha with⟨i,t,rfl,rfl⟩|⟨x,t,rfl,rfl⟩
  ·rcases cC hb with⟨j,u,rfl,e⟩|⟨y,u,rfl,e⟩
   ·injection e with e1 _;rw[e1]
   ·exact nomatch e
  ·rcases cC hb with⟨j,u,rfl,e⟩|⟨y,u,rfl,e⟩
   ·exact nomatch e
   ·injection e with e1 _;rw[e1]
 byValue:=fun k v h=>by
  rcases cC h with⟨i,t,rfl,rfl⟩|⟨x,t,rfl,rfl⟩<;>rfl
 pyHash:=fun hv h=>by
  rcases cC hv with⟨i,t,rfl,rfl⟩|⟨x,t,rfl,rfl⟩
  ·exact wpAny_pyHash_int h
  ·exact wpAny_pyHash_str h
 eqBool:=fun hu hv h=>by
  rcases cC hu with⟨i,t,rfl,rfl⟩|⟨x,t,rfl,rfl⟩
  ·rcases cC hv with⟨j,u,rfl,rfl⟩|⟨y,u,rfl,rfl⟩
   ·rw[Mk]at h;exact wpAny_eqBool_int h
   ·rw[Mm]at h;exact SeqAt.EqAt.int_str i t y u _ _ _ _ h
  ·rcases cC hv with⟨j,u,rfl,rfl⟩|⟨y,u,rfl,rfl⟩
   ·rw[Mn]at h;exact SeqAt.EqAt.str_int x t j u _ _ _ _ h
   ·rw[Ml]at h;exact wpAny_eqBool_str h
 «strs»:=fun k x t v h=>by
  rcases cC h with⟨i,u,rfl,e⟩|⟨y,u,rfl,e⟩
  ·exact nomatch e
  ·injection e with e1 _
   subst e1;cases v<;>rfl
theorem yW(prog:Program)(w:World)(i:Int)(t:Tok):(cS prog w).is (.inl i) (.int i t)=true:=DU i t
theorem yX(prog:Program)(w:World)(x:Str)(t:Tok):(cS prog w).is (.inr x) (.str x t)=true:=DV x t
inductive V where
 | dR | bl (b:Bool) | int (i:Int) | str (x:Str) | Gj (b:Array UInt8) | Oe (b:UInt64) | ref (a:Addr) | ty (n:String)
 deriving DecidableEq
def RelV:V->Value->Prop
 | .dR,u=>u=Value.none
 | .bl b,u=>u=Value.bool b
 | .int i,u=>∃ t,u=Value.int i t
 | .str x,u=>∃ t,u=Value.str x t
 | .Gj b,u=>∃ t,u=Value.bytes b t
 | .Oe b,u=>∃ t,u=Value.float b t
 | .ref a,u=>u=Value.ref a
 | .ty n,u=>u=Value.type n
abbrev Vals:List V->List Value->Prop:=Paired RelV
theorem Vals.length{xs:List V}{us:List Value}(r:Vals xs us):xs.length=us.length:=Paired.length r
theorem Vals.get:∀{xs:List V} {us:List Value} {i:Nat} {x:V},Vals xs us->xs[i]?=some x->∃ u,us[i]?=some u/\RelV x u
 | _,_,_,_,.nil,e=>by simp at e
 | _,_,0,_,.cons r _,e=>by simp at e;subst e;exact⟨_,rfl,r⟩
 | _,_,i+1,x,.cons _ t,e=>by
   obtain⟨u,h1,h2⟩:=Vals.get (i:=i) (x:=x) t (by simpa using e)
   exact⟨u,by simpa using h1,h2⟩
theorem Vals.set{x:V}{u:Value}(r:RelV x u):∀{xs:List V} {us:List Value} (i:Nat),Vals xs us->Vals (xs.set i x) (us.set i u)
 | _,_,_,.nil=>.nil
 | _,_,0,.cons _ t=>.cons r t
 | _,_,i+1,.cons q t=>.cons q (Vals.set r i t)
theorem Vals.append:∀{xs ys:List V} {us ws:List Value},Vals xs us->Vals ys ws->Vals (xs++ys) (us++ws)
 | _,_,_,_,.nil,s=>s
 | _,_,_,_,.cons r t,s=>.cons r (Vals.append t s)
theorem Vals.take:∀{xs:List V} {us:List Value} (n:Nat),Vals xs us->Vals (xs.take n) (us.take n)
 | _,_,0,_=>.nil
 | _,_,_+1,.nil=>.nil
 | _,_,n+1,.cons r t=>.cons r (Vals.take n t)
theorem Vals.drop:∀{xs:List V} {us:List Value} (n:Nat),Vals xs us->Vals (xs.drop n) (us.drop n)
 | _,_,0,r=>r
 | _,_,_+1,.nil=>.nil
 | _,_,n+1,.cons _ t=>Vals.drop n t
def nN:Option V->Option Value->Prop
 | some v,some u=>RelV v u
 | none,none=>True
 | _,_=>False
def KV{κ:Type}:List (κ×V)->List (κ×Value)->Prop:=Paired fun(p:κ×V) (q:κ×Value)=>p.1=q.1/\RelV p.2 q.2
def kV:Key->V
 | .inl i=>.int i
 | .inr x=>.str x
inductive HO where
 | lst (xs:List V)
 | tup (xs:List V)
 | dK (kvs:List (Key×V)) | dT (kvs:List (List Key×V))
 | set (S:Int->Bool) (n:Nat)
 | ins (C dx:Addr) (fs:List (Str×V))
 | own (x:Addr)
 | xd (fs:List (Str×V))
 | met (f x:Addr)
 | DW (lo hi:Int)
 | jR (o:Obj) (u:HO)
 | iY (ps:Array Value)
 | ext (φ:Heap->Prop)
abbrev Hp:=Addr->Option HO
def upd(H:Hp)(a:Addr)(o:HO):Hp:=fun b=>if b=a then some o else H b
theorem ae{H:Hp}{a:Addr}{o:HO}:upd H a o a=some o:=by unfold upd;rw[if_pos rfl]
theorem aj{H:Hp}{a b:Addr}{o:HO}(h:b≠a):upd H a o b=H b:=by unfold upd;rw[if_neg h]
theorem aS{H:Hp}{a b:Addr}{o u:HO}(h:H a=some o)(h' : H b=some u)(d:o≠u):a≠b:=by
 intro e;subst e;rw[h]at h';exact d (Option.some.inj h')
theorem aW{H:Hp}{a b:Addr}{o:HO}(h:H a=some o)(h' : H b=none):a≠b:=by
 intro e;subst e;rw[h]at h';cases h'
def JJ(qs:Array Value):Str:=match (qs[0]?:Option Value) with | some (Value.str q _)=>q | _=>""
section
variable (P:Program)(w:World)
def bf(H:Hp)(h:Heap)(a:Addr):HO->Prop
 | .lst xs=>xs.length<=sizeLine/\∃(its:List Value) (n:Nat),Vals xs its/\h.get? a=some { cls:=.type "list",data:=.seq its.toArray n}
 | .tup xs=>xs.length<=sizeLine/\∃ its:List Value,Vals xs its/\IsTup h a its.toArray
 | .dK kvs=>kvs.length<=sizeLine/\(a==sysModules)=false/\∃ vs,KV kvs vs/\h.DictOf (cS P w) a vs
 | .dT kvs=>kvs.length<=sizeLine/\(a==sysModules)=false/\∃ xs:List (List Key×Addr×Value),
  Paired (fun(p:List Key×V) (q:List Key×Addr×Value)=>p.1=q.1/\H q.2.1=some (.tup (p.1.map kV))/\RelV p.2 q.2.2) kvs xs/\
  ∃ o es ep,h.get? a=some o/\o.ExactDict/\o.data = .dict es ep/\es.toList=xs.map (entryOfKey (tupleKind (cS P w)))/\(xs.map (·.1)).Nodup
 | .set S n=>h.SetOf (intKind P w) a S n
 | .ins C dx fs=>H dx=some (.own a)/\fs.length<=1000/\dx≠a/\h.get? a=some (PySem.W.instObj C dx)/\
  ∃ mA,h.Ns1 dx mA/\(∀ f,nN (fs.lookup f) (mA f))/\PySem.Within mA (fs.map (·.1))
 | .own _=>∃ o,h.get? a=some o
 | .xd fs=>∃ mA,h.Ns1 a mA/\∀ f,nN (fs.lookup f) (mA f)
 | .DW lo hi=>∃ t u v,h.get? a=some { cls:=.type "range",data:=.fields #[.int lo t,.int hi u,.int 1 v]}
 | .jR o u=>h.get? a=some o/\bf H h a u
 | .iY qs=>∃ ps:Array Value,h.get? a=some { cls:=.none,data:=.fields ps}/\((qs.size=3/\(ps = #[]\/∃ c,ps = #[qs.getD 1 .none,qs.getD 2 .none,.ref c]/\H c=some (.own a)/\h.CodeRec (.ref c) (JJ qs)))\/∃ q l k,qs = #[q,l,k]++ps/\ps.size=3)
 | .met f x=>h.get? a=some (PySem.W.methodObj (.ref f) (.ref x))
 | .ext φ=>φ h/\(∃ o,h.get? a=some o)/\∀ h1 h2:Heap,φ h1->(∀ o,h1.get? a=some o->h2.get? a=some o)->φ h2
def kW(H:Hp)(h:Heap):Prop:=∀ a o,H a=some o->bf P w H h a o
end
section
variable {P:Program}{w:World}{H H' : Hp}{h h' : Heap}{a:Addr}{o:HO}
theorem bf.lt(x:bf P w H h a o):a<h.objs.size:=by
 cases o with
 | lst xs=>obtain⟨_,_,_,_,e⟩:=x;exact Heap.lt_size e
 | tup xs=>obtain⟨_,_,_,p⟩:=x;exact p.lt
 | dK kvs=>obtain⟨_,_,_,_,o,_,_,e,_⟩:=x;exact Heap.lt_size e
 | dT kvs=>obtain⟨_,_,_,_,o,_,_,e,_⟩:=x;exact Heap.lt_size e
 | set S n=>obtain⟨o,_,_,_,e,_⟩:=x;exact Heap.lt_size e
 | ins C dx fs=>obtain⟨_,_,_,e,_⟩:=x;exact Heap.lt_size e
 | own y=>obtain⟨_,e⟩:=x;exact Heap.lt_size e
 | xd fs=>obtain⟨_,⟨_,_,_,e,_⟩,_⟩:=x;exact Heap.lt_size e
 | DW lo hi=>obtain⟨_,_,_,e⟩:=x;exact Heap.lt_size e
 | jR ob u=>obtain⟨e,_⟩:=x;exact Heap.lt_size e
 | iY ps=>obtain⟨_,e,_⟩:=x;exact Heap.lt_size e
 | met f y=>exact Heap.lt_size (show h.get? a=some _ from x)
 | ext φ=>obtain⟨_,⟨_,e⟩,_⟩:=x;exact Heap.lt_size e
theorem Paired.w6{α β:Type}{F G:α->β->Prop}:∀{l₁:List α} {l₂:List β},Paired F l₁ l₂->(∀ a b,F a b->G a b)->Paired G l₁ l₂
 | _,_,.nil,_=>.nil
 | _,_,.cons r t,f=>.cons (f _ _ r) (Paired.w6 t f)
theorem Paired.imp'{α β:Type}{F G:α->β->Prop}(f:∀ a b,F a b->G a b){l₁:List α}{l₂:List β}(r:Paired F l₁ l₂):Paired G l₁ l₂:=Paired.w6 r f
theorem bf.stay(x:bf P w H h a o)(k:∀ b u,(b=a\/H b=some (.own a))->h.get? b=some u->h'.get? b=some u)
 (ho:∀ b,H b=some (.own a)->H' b=some (.own a)) (ht:∀ b xs,H b=some (.tup xs)->H' b=some (.tup xs)):bf P w H' h' a o:=by
 induction o with
 | lst xs=>obtain⟨z,its,n,r,e⟩:=x;exact⟨z,its,n,r,k _ _ (.inl rfl) e⟩
 | tup xs=>obtain⟨z,its,r,ob,e,c⟩:=x;exact⟨z,its,r,ob,k _ _ (.inl rfl) e,c⟩
 | dK kvs=>obtain⟨z,y,vs,r,ob,es,ep,e,c⟩:=x;exact⟨z,y,vs,r,ob,es,ep,k _ _ (.inl rfl) e,c⟩
 | dT kvs =>
   obtain⟨z,y,xs,r,ob,es,ep,e,c⟩:=x;exact⟨z,y,xs,Paired.w6 r fun p q z=>⟨z.1,ht _ _ z.2.1,z.2.2⟩,ob,es,ep,k _ _ (.inl rfl) e,c⟩
 | set S n=>obtain⟨ob,es,ep,t,e,c⟩:=x;exact⟨ob,es,ep,t,k _ _ (.inl rfl) e,c⟩
 | ins C dx fs =>
   obtain⟨d,z,ne,e,mA,⟨od,es,ep,e2,c⟩,r⟩:=x;exact⟨ho _ d,z,ne,k _ _ (.inl rfl) e,mA,⟨od,es,ep,k _ _ (.inr d) e2,c⟩,r⟩
 | own y=>obtain⟨ob,e⟩:=x;exact⟨ob,k _ _ (.inl rfl) e⟩
 | xd fs=>obtain⟨mA,⟨od,es,ep,e,c⟩,r⟩:=x;exact⟨mA,⟨od,es,ep,k _ _ (.inl rfl) e,c⟩,r⟩
 | DW lo hi=>obtain⟨t,u,v,e⟩:=x;exact⟨t,u,v,k _ _ (.inl rfl) e⟩
 | jR ob u ih=>obtain⟨e,q⟩:=x;exact⟨k _ _ (.inl rfl) e,ih q⟩
 | iY qs =>
   obtain⟨ps,e,f⟩:=x;refine⟨ps,k _ _ (.inl rfl) e,?_⟩;rcases f with⟨hz,f|⟨c,e1,e2,c',oc,vs,tq,hc,ho',hd,hv⟩⟩|f
   ·exact .inl ⟨hz,.inl f⟩
   ·cases hc;exact .inl ⟨hz,.inr ⟨c,e1,ho _ e2,c,oc,vs,tq,rfl,k _ _ (.inr e2) ho',hd,hv⟩⟩
   ·exact .inr f
 | met f y =>
   have e:h.get? a=some (PySem.W.methodObj (.ref f) (.ref y)):=x;show h'.get? a=some (PySem.W.methodObj (.ref f) (.ref y));exact k a _ (.inl rfl) e
 | ext φ=>obtain⟨p,⟨o,e⟩,st⟩:=x;exact⟨st _ _ p fun o q=>k _ _ (.inl rfl) q,⟨o,k _ _ (.inl rfl) e⟩,st⟩
theorem kW.lt(x:kW P w H h)(e:H a=some o):a<h.objs.size:=(x a o e).lt
theorem kW.fresh(x:kW P w H h)(e:h.objs.size<=a):H a=none:=by
 cases q:H a with
 | none=>rfl
 | some u=>exact absurd (Nat.lt_of_lt_of_le (x.lt q) e) (Nat.lt_irrefl _)
theorem kW.kept(x:kW P w H h)(k:∀ b u,h.get? b=some u->h'.get? b=some u):kW P w H h':=fun a o e =>
 (x a o e).stay (fun b u _ q=>k b u q) (fun _ q=>q) fun _ _ q=>q
theorem kW.laid(x:kW P w H h)(k:∀ b u,h.get? b=some u->h'.get? b=some u)(hp:h.objs.size<=a)(new:bf P w (upd H a o) h' a o):kW P w (upd H a o) h':=fun b u e=>by
 have hn:=x.fresh hp
 by_cases hb:b=a
 ·subst hb;rw[ae]at e;cases e;exact new
 ·rw[aj hb]at e;exact(x b u e).stay (fun c v _ q=>k c v q) (fun c q=>by rw[aj (aW q hn)];exact q) fun c xs q=>by rw[aj (aW q hn)];exact q
end
def Rd(H:Hp)(a:Addr)(u:HO):Prop:=H a=some u\/∃ o,H a=some (.jR o u)
theorem Rd.ok{P:Program}{w:World}{H:Hp}{h:Heap}{a:Addr}{u:HO}(r:Rd H a u)(x:kW P w H h):bf P w H h a u:=by
 rcases r with r|⟨o,r⟩
 ·exact x a u r
 ·obtain⟨_,q⟩:=x a _ r;exact q
def OT:Option HO->Prop
 | some (.lst _)=>True
 | some (.dK _)=>True
 | some (.dT _)=>True
 | some (.set _ _)=>True
 | some (.ins _ _ _)=>True
 | some (.ext _)=>True
 | _=>False
section
variable {P:Program}{w:World}{H:Hp}{h h' : Heap}{x e:Addr}{o' : HO}
theorem kW.write(ok:kW P w H h)(mu:OT (H x))(he:e=x\/H e=some (.own x))(k:∀ b u,b≠e->h.get? b=some u->h'.get? b=some u)(Of:∃ u,h'.get? e=some u)
 (new:bf P w (upd H x o') h' x o'):kW P w (upd H x o') h':=fun b u q=>by
 have OU:∀ c y,H c=some (.own y)->c≠x:=fun c y r z=>by subst z;rw[r]at mu;exact mu
 have Sj:∀ c xs,H c=some (.tup xs)->c≠x:=fun c xs r z=>by subst z;rw[r]at mu;exact mu
 by_cases hb:b=x
 ·subst hb;rw[ae]at q;cases q;exact new
 ·rw[aj hb]at q
  by_cases Mp:b=e
  ·have q' : H b=some (.own x):=by
    rcases he with z|z
    ·exact absurd (Mp.trans z) hb
    ·rw[Mp];exact z
   rw[q]at q';cases q';obtain⟨v,hv⟩:=Of;exact⟨v,by rw[Mp];exact hv⟩
  ·refine(ok b u q).stay (fun c v hc r=>k c v ?_ r) (fun c r=>by rw[aj (OU c b r)];exact r) fun c xs r=>by rw[aj (Sj c xs r)];exact r
   rcases hc with rfl|hc
   ·exact Mp
   ·rintro rfl;rcases he with z|z
    ·exact OU c b hc z
    ·rw[hc]at z;cases z;exact hb rfl
end
structure Un(fs ex:List Addr)(H H' : Hp)(h h' : Heap):Prop where
 keep:∀ b o,h.get? b=some o->H b=none->b∉fs->b∉ex->h'.get? b=some o
 slot:∀ b o,h.get? b=some o->H b=none->b∈fs->b∉ex->∃ sl,h'.get? b=some { o with slots:=sl}
 free:∀ b o,h.get? b=some o->H b=none->b∉ex->H' b=none
 there:∀ b o,h.get? b=some o->b∉ex->∃ o',h'.get? b=some o'
 tups:∀ b xs,H b=some (.tup xs)->H' b=some (.tup xs)
 jS:∀ b o u,H b=some (.jR o u)->H' b=some (.jR o u)
 kX:∀ b ps,H b=some (.iY ps)->∃ more,H' b=some (.iY (ps++more))
section
variable {fs fs' ex ex' : List Addr}{H H1 H2:Hp}{h h1 h2 h' : Heap}{a x e:Addr}{o:HO}
theorem Un.any(u:Un fs ex H H1 h h1){b:Addr}{ob:Obj}(q:h.get? b=some ob)(n:H b=none)(hx:b∉ex):∃ sl,h1.get? b=some { ob with slots:=sl}:=by
 by_cases hb:b∈fs
 ·exact u.slot b ob q n hb hx
 ·exact⟨ob.slots,u.keep b ob q n hb hx⟩
theorem Un.kept(k:∀ b u,h.get? b=some u->h'.get? b=some u):Un fs ex H H h h' :=
 ⟨fun b ob q _ _ _=>k b ob q,fun b ob q _ _ _=>⟨ob.slots,k b ob q⟩,fun _ _ _ n _=>n,fun b ob q _=>⟨ob,k b ob q⟩,fun _ _ q=>q,fun _ _ _ q=>q,fun _ ps q=>⟨#[],by rw[q];simp⟩⟩
theorem Un.refl:Un fs ex H H h h:=Un.kept fun _ _ q=>q
theorem Un.laid(k:∀ b u,h.get? b=some u->h'.get? b=some u)(hp:h.objs.size<=a)(hn:H a=none):Un fs ex H (upd H a o) h h' where
 keep:=fun b u q _ _ _=>k b u q
 slot:=fun b u q _ _ _=>⟨u.slots,k b u q⟩
 free:=fun b u q n _=>by rw[aj (Nat.ne_of_lt (Nat.lt_of_lt_of_le (Heap.lt_size q) hp))];exact n
 there:=fun b u q _=>⟨u,k b u q⟩
 tups:=fun b xs q=>by rw[aj (aW q hn)];exact q
 jS:=fun b u xs q=>by rw[aj (aW q hn)];exact q
 kX:=fun b ps q=>⟨#[],by rw[aj (aW q hn),q];simp⟩
theorem Un.write(mu:OT (H x))(he:e=x\/H e=some (.own x))(k:∀ b u,b≠e->h.get? b=some u->h'.get? b=some u)(Of:∃ u,h'.get? e=some u):Un fs ex H (upd H x o) h h':=by
 have hx:∀ b,H b=none->b≠x:=fun b n z=>by subst z;rw[n]at mu;exact mu
 have hb:∀ b,H b=none->b≠e:=fun b n z=>by
  subst z;rcases he with r|r
  ·exact hx b n r
  ·rw[n]at r;cases r
 have hm:∀ b u,H b=some u->¬ OT (some u)->b≠x:=fun b u q nm z=>by subst z;rw[q]at mu;exact nm mu
 refine⟨fun b u q n _ _=>k b u (hb b n) q,fun b u q n _ _=>⟨u.slots,k b u (hb b n) q⟩,fun b u q n _=>by rw[aj (hx b n)];exact n,fun b u q _=>?_,
  fun b xs q=>by rw[aj (hm b _ q fun z=>z)];exact q,fun b u xs q=>by rw[aj (hm b _ q fun z=>z)];exact q,fun b ps q=>⟨#[],by rw[aj (hm b _ q fun z=>z),q];simp⟩⟩
 by_cases Mp:b=e
 ·subst Mp;exact Of
 ·exact⟨u,k b u Mp q⟩
end
def Og(h:Heap)(H:Hp):List Addr:=(List.range h.objs.size).filter fun a=>(H a).isSome
def yY(h:Heap)(H:Hp):Heap:=PySem.W.hideAll h (Og h H)
theorem DX(h:Heap)(H:Hp):(yY h H).objs.size=h.objs.size:=PySem.W.hideAll_size _ _
theorem sq{h:Heap}{H:Hp}{b:Addr}{o:Obj}(e:h.get? b=some o)(n:H b=none):(yY h H).get? b=some o :=
 PySem.W.hideAll_get _ e fun hm=>by
  have q:(H b).isSome=true:=(List.mem_filter.mp hm).2;rw[n]at q;simp at q
theorem JK{h:Heap}{H:Hp}{b:Addr}{o:Obj}(e:(yY h H).get? b=some o):h.get? b=some o/\H b=none:=by
 have e' : h.get? b=some o:=PySem.W.of_hideAll (Og h H) e;refine⟨e',?_⟩;cases q:H b with
 | none=>rfl
 | some x =>
   have hm:b∈Og h H:=List.mem_filter.mpr ⟨List.mem_range.mpr (Heap.lt_size e'),by simp[q]⟩
   have z:(yY h H).get? b=none:=PySem.W.hideAll_none (Og h H) hm;rw[z]at e;cases e
def rQ(g h:Heap)(L:Addr):aQ:=(List.range h.objs.size).filterMap fun a=>if a=L\/(g.get? a).isSome=true then none else(h.get? a).map fun o=>(a,o)
theorem yZ{g h:Heap}{L a:Addr}{o:Obj}(h1:a≠L)(h2:g.get? a=none)(h3:h.get? a=some o):(a,o)∈rQ g h L :=
 List.mem_filterMap.mpr ⟨a,List.mem_range.mpr (Heap.lt_size h3),by simp[h1,h2,h3]⟩
theorem sr{g h:Heap}{L:Addr}{p:Addr×Obj}(hp:p∈rQ g h L):p.1≠L/\g.get? p.1=none/\h.get? p.1=some p.2:=by
 obtain⟨b,_,e⟩:=List.mem_filterMap.mp hp
 split at e
 ·cases e
 ·rename_i hn
  cases q:h.get? b with
  | none=>rw[q]at e;simp at e
  | some u =>
    rw[q]at e;simp only[Option.map_some,Option.some.injEq]at e;subst e;refine⟨fun z=>hn (.inl z),?_,q⟩
    show g.get? b=none;cases r:g.get? b with
    | none=>rfl
    | some v=>exact(hn (.inr (by simp[r]))).elim
def rest(g h:Heap)(L d:Addr):aQ:=(rQ g h L).filter fun p=>decide (p.1≠d)
theorem CQ{g h:Heap}{L d:Addr}:∀ p∈rest g h L d,p.1≠d:=fun p hp=>of_decide_eq_true (List.mem_filter.mp hp).2
theorem Gk{g h:Heap}{L d a:Addr}{o:Obj}(h1:a≠L)(h2:g.get? a=none)(h3:h.get? a=some o)(h4:a≠d):(a,o)∈rest g h L d :=
 List.mem_filter.mpr ⟨yZ h1 h2 h3,decide_eq_true h4⟩
theorem Gm{g h:Heap}{L:Addr}:News g L h (rQ g h L):=fun p hp=>let⟨a,b,c⟩:=sr hp;⟨c,a,b⟩
theorem nO{g h h' : Heap}{L d:Addr}{m:kU}(k:∀ b o,g.get? b=some o->h.get? b=some o)(F:Fr g L h' m)(N:News g L h' (rest g h L d)):
 ∀ b o,b≠L->b≠d->h.get? b=some o->h'.get? b=some o:=fun b o h1 h2 e=>by
 cases q:g.get? b with
 | some u =>
   have:=k b u q;rw[e]at this;cases this;exact F.keep b _ q
 | none=>exact(N (b,o) (Gk h1 q e h2)).1
structure Mod(K:bJ)(mg:kU)(base:Heap):Prop where
 Rx:K.In base
 glob:base.Ns mainGlobals mg
 blt:∃ mb,base.Ns builtinsNs mb/\∀ x:Str,x≠"__name__"->mb x=bootBuiltins x
 nolimit:base.NoLimit
 bmain:∃ bm ob,mg "__builtins__"=some (.ref bm)/\bm≠builtinsNs/\base.get? bm=some ob/\ob.cls = .type "module"/\ob.dict=some builtinsNs/\ob.data = .plain
structure Cx where
 prog:Program
 w:World
 K:bJ
 mg:Str->Option Value
 base:Heap
 A:Around
 N:List Str
 s₀:Shared
 H₀:Hp
 env:Env
 outer:List Env
 stack:List Env
 ex:List Addr
 fn:Str->Bool
 calm:Bool
 pn:aQ
 xe:Value->Shared->Prop
def frs(l:List Env):List Addr:=l.filterMap (·.frame)
abbrev Cx.fs(X:Cx):List Addr:=frs X.outer
def Ry(sc:Scope)(x:Str):Prop:=sc.names.lookup x=some .local\/sc.names.lookup x=some .cell\/sc.names.lookup x=some .free
def Loc(sc:Scope)(x:Str):Prop:=sc.names.lookup x=some .local\/sc.names.lookup x=some .cell
def Look(env:Env)(h:Heap)(m:kU)(x:Str)(u:Value):Prop :=
 (env.kindOf x=some .local/\m x=some u)\/((env.kindOf x=some .cell\/env.kindOf x=some .free)/\∃ c,env.cells.lookup x=some c/\h.IsCell c (some u))
structure Cx.Ok(X:Cx):Prop where
 mod:Mod X.K X.mg X.base
 kind:X.env.scope.kind = .function
 glob:X.env.globals=mainGlobals
 blt:X.env.builtins=builtinsNs
 above:X.s₀.heap.objs.size<=X.env.locals
 inj:∀ x y c,X.env.cells.lookup x=some c->X.env.cells.lookup y=some c->x=y
 has:∀ x,(X.env.kindOf x=some .cell\/X.env.kindOf x=some .free)->∃ c,X.env.cells.lookup x=some c
 OV:∀ x c,X.fn x=true->X.env.cells.lookup x=some c->X.s₀.heap.objs.size<=c
 hd:X.calm=true->X.A.handled=none
 frames:X.A.frames=some X.stack
 JL:X.stack=X.outer\/(X.stack=X.env::X.outer/\X.env.frame=some X.env.locals)
 UM:∀ b∈X.ex,b≠X.env.locals/\∀ x c,X.env.cells.lookup x=some c->c≠b
 bs:∀ b o,X.base.get? b=some o->X.s₀.heap.get? b=some o/\X.H₀ b=none
 JM:X.base.objs.size<=X.s₀.heap.objs.size
 Gn:∀ b o,X.base.get? b=some o->b∉X.ex
 JN:∀ b∈X.ex,b∉X.fs
 funs:X.s₀.heap.FunFrames X.base X.outer
 Mq:∀ b∈X.fs,X.H₀ b=none
structure Inv(X:Cx)(pins:aQ)(σ:List (Option V))(H:Hp)(s:Shared):Prop where
 ok:X.Ok
 os:s.os=X.s₀.os
 bare:AllBare s.gens
 base:Un X.fs X.ex X.H₀ H X.s₀.heap s.heap
 loc:∃ m,s.heap.Ns X.env.locals m/\∀(i:Nat) (x:Str) (v:V),X.N[i]?=some x->σ[i]?=some (some v)->Ry X.env.scope x->∃ u,RelV v u/\Look X.env s.heap m x u
 cell:∀ x c,X.env.cells.lookup x=some c->∃ v,s.heap.IsCell c v
 free:H X.env.locals=none
 eR:∀ x c,X.env.cells.lookup x=some c->H c=none
 pin:∀ p∈X.pn++pins,s.heap.get? p.1=some p.2/\H p.1=none/\p.1≠X.env.locals/\p.1∉X.fs/\∀ v,p.2.data≠.cell v
 hok:kW X.prog X.w H s.heap
 len:σ.length=X.N.length
section
variable {X:Cx}{pins:aQ}{σ:List (Option V)}{H H' : Hp}{s:Shared}{h' : Heap}
theorem Cx.Ok.Sk(ok:X.Ok){b:Addr}{o:Obj}(e:X.base.get? b=some o):b∉X.fs:=fun hb=>by
 have:=(ok.funs.mem hb).1;rw[e]at this;cases this
theorem Inv.bs(I:Inv X pins σ H s):∀ b o,X.base.get? b=some o->s.heap.get? b=some o/\H b=none:=fun b o e =>
 ⟨I.base.keep b o (I.ok.bs b o e).1 (I.ok.bs b o e).2 (I.ok.Sk e) (I.ok.Gn b o e),I.base.free b o (I.ok.bs b o e).1 (I.ok.bs b o e).2 (I.ok.Gn b o e)⟩
theorem Inv.bk(I:Inv X pins σ H s):∀ b o,X.base.get? b=some o->s.heap.get? b=some o:=fun b o e=>(I.bs b o e).1
theorem Inv.mod(I:Inv X pins σ H s):Mod X.K X.mg X.base:=I.ok.mod
theorem Inv.yU(I:Inv X pins σ H s):X.K.In s.heap:=I.ok.mod.Rx.keeps I.bk
theorem Inv.nolimit(I:Inv X pins σ H s):s.heap.NoLimit:=I.ok.mod.nolimit.keeps I.bk
theorem Inv.fr(I:Inv X pins σ H s):∃ m,Fr X.base X.env.locals s.heap m :=
 let⟨m,hn,_⟩:=I.loc
 ⟨m,hn,I.bk,Nat.le_trans I.ok.JM I.ok.above⟩
theorem Inv.lt(I:Inv X pins σ H s):X.env.locals<s.heap.objs.size:=let⟨_,hn,_⟩:=I.loc;hn.lt
theorem Inv.sz(I:Inv X pins σ H s):X.s₀.heap.objs.size<=s.heap.objs.size:=Nat.le_trans I.ok.above (Nat.le_of_lt I.lt)
theorem Inv.OX(I:Inv X pins σ H s){a:Addr}(h:s.heap.objs.size<=a):a∉X.fs:=fun hb=>by
 obtain⟨_,o,ho,_⟩:=I.ok.funs.mem hb;exact absurd (Nat.lt_of_lt_of_le (Heap.lt_size ho) (Nat.le_trans I.sz h)) (Nat.lt_irrefl _)
theorem Inv.Mr(I:Inv X pins σ H s):∀ x c,X.env.cells.lookup x=some c->c≠X.env.locals:=fun x c e z=>by
 obtain⟨v,o,ho,hd⟩:=I.cell x c e;obtain⟨m,⟨o',es,ep,ho',hd',_⟩,_⟩:=I.loc;rw[z,ho']at ho;cases ho;rw[hd']at hd;cases hd
theorem Inv.funs(I:Inv X pins σ H s):s.heap.FunFrames X.base X.outer:=by
 have all:∀(l:List Env),(∀ b∈frs l,b∈X.fs)->X.s₀.heap.FunFrames X.base l->s.heap.FunFrames X.base l:=by
  intro l
  induction l with
  | nil=>intro _ _;trivial
  | cons env r ih =>
    intro hs hl;obtain⟨hk,⟨L,o,hf,hn,ho,hd⟩,hr⟩:=hl;have hL:L∈X.fs:=hs L (by unfold frs;rw[List.filterMap_cons,hf];exact List.mem_cons_self)
    obtain⟨sl,e⟩:=I.base.slot L o ho (I.ok.Mq L hL) hL fun z=>I.ok.JN L z hL
    exact⟨hk,⟨L,_,hf,hn,e,hd⟩,ih (fun b hb=>hs b (by unfold frs;rw[List.filterMap_cons,hf];exact List.mem_cons_of_mem _ hb)) hr⟩
 exact all X.outer (fun _ hb=>hb) I.ok.funs
theorem Inv.stack(I:Inv X pins σ H s):s.heap.FunFrames X.base X.stack:=by
 rcases I.ok.JL with e|⟨e,hf⟩
 ·rw[e];exact I.funs
 ·rw[e];obtain⟨m,hn,_⟩:=I.loc;refine .cons (by rw[I.ok.kind];decide) hf hn ?_ I.funs
  exact Heap.get?_none_of_le (Nat.le_trans I.ok.JM I.ok.above)
theorem Inv.su(I:Inv X pins σ H s):∀ b∈frs X.stack,b∈X.env.locals::X.fs:=fun b hb=>by
 rcases I.ok.JL with e|⟨e,hf⟩
 ·rw[e]at hb;exact List.mem_cons_of_mem _ hb
 ·rw[e]at hb;unfold frs at hb;rw[List.filterMap_cons,hf]at hb;exact hb
theorem Inv.w9(I:Inv X pins σ H s):∀ b∈frs X.stack,H b=none:=fun b hb=>by
 rcases List.mem_cons.mp (I.su b hb) with e|hb
 ·rw[e];exact I.free
 ·obtain⟨_,o,ho,_⟩:=I.ok.funs.mem hb;exact I.base.free b o ho (I.ok.Mq b hb) fun z=>I.ok.JN b z hb
theorem Inv.step{g' : Array GenState}{t' : Nat}{d' : Drawn}{ch:List Addr}(I:Inv X pins σ H s)
 (hch:∀ b∈ch,(b∈X.ex\/X.s₀.heap.objs.size<=b)/\b≠X.env.locals/\(∀ x c,X.env.cells.lookup x=some c->c≠b)/\∀ p∈X.pn++pins,p.1≠b)
 (keep:∀ b o,b≠X.env.locals->b∉X.fs->b∉ch->s.heap.get? b=some o->H b=none->h'.get? b=some o)
 (slot:∀ b o,b≠X.env.locals->b∈X.fs->b∉ch->s.heap.get? b=some o->H b=none->∃ sl,h'.get? b=some { o with slots:=sl}) (free:∀ b o,b∉ch->s.heap.get? b=some o->H b=none->H' b=none)
 (there:∀ b o,b∉ch->s.heap.get? b=some o->∃ o',h'.get? b=some o')
 (tups:∀ b xs,H b=some (.tup xs)->H' b=some (.tup xs)) (jS:∀ b o u,H b=some (.jR o u)->H' b=some (.jR o u)) (kX:∀ b ps,H b=some (.iY ps)->∃ more,H' b=some (.iY (ps++more)))
 (ns:∀ m,s.heap.Ns X.env.locals m->h'.Ns X.env.locals m) (hok:kW X.prog X.w H' h') (hg:AllBare g') :
 Inv X pins σ H' { s with heap:=h',gens:=g',drawn:=d',toks:=t'}:=by
 have UN:∀ b o,X.s₀.heap.get? b=some o->b≠X.env.locals:=fun b o e=>Nat.ne_of_lt (Nat.lt_of_lt_of_le (Heap.lt_size e) I.ok.above)
 have Rz:∀ b o,X.s₀.heap.get? b=some o->b∉X.ex->b∉ch:=fun b o e hx hb=>by
  rcases(hch b hb).1 with z|z
  ·exact hx z
  ·exact absurd (Nat.lt_of_lt_of_le (Heap.lt_size e) z) (Nat.lt_irrefl _)
 have cellK:∀ x c,X.env.cells.lookup x=some c->∀ v,s.heap.IsCell c v->h'.IsCell c v:=fun x c e v ⟨o,ho,hd⟩=>by
  have OY:c∉ch:=fun z=>(hch c z).2.2.1 x c e rfl
  by_cases hc:c∈X.fs
  ·obtain⟨sl,q⟩:=slot c o (I.Mr x c e) hc OY ho (I.eR x c e);exact⟨_,q,hd⟩
  ·exact⟨o,keep c o (I.Mr x c e) hc OY ho (I.eR x c e),hd⟩
 refine⟨I.ok,I.os,hg,⟨fun b o e n hb hx=>?_,fun b o e n hb hx=>?_,fun b o e n hx=>?_,fun b o e hx=>?_,fun b xs e=>tups b xs (I.base.tups b xs e),fun b o xs e=>jS b o xs (I.base.jS b o xs e),fun b ps e=>?_⟩,?_,fun x c e=>?_,?_,fun x c e=>?_,fun p hp=>?_,hok,I.len⟩
 ·exact keep b o (UN b o e) hb (Rz b o e hx) (I.base.keep b o e n hb hx) (I.base.free b o e n hx)
 ·obtain⟨sl,e1⟩:=I.base.slot b o e n hb hx;obtain⟨RA,e2⟩:=slot b _ (UN b o e) hb (Rz b o e hx) e1 (I.base.free b o e n hx);exact⟨RA,e2⟩
 ·obtain⟨o',e1⟩:=I.base.there b o e hx;exact free b o' (Rz b o e hx) e1 (I.base.free b o e n hx)
 ·obtain⟨o',e1⟩:=I.base.there b o e hx;exact there b o' (Rz b o e hx) e1
 ·obtain⟨m1,e1⟩:=I.base.kX b ps e;obtain⟨m2,e2⟩:=kX b _ e1;exact⟨m1++m2,by rw[e2,Array.append_assoc]⟩
 ·obtain⟨m,hn,hl⟩:=I.loc;refine⟨m,ns m hn,fun i x v e1 e2 e3=>?_⟩
  obtain⟨u,r,l⟩:=hl i x v e1 e2 e3;refine⟨u,r,?_⟩;rcases l with l|⟨k,c,e,z⟩
  ·exact .inl l
  ·exact .inr ⟨k,c,e,cellK x c e _ z⟩
 ·obtain⟨v,z⟩:=I.cell x c e;exact⟨v,cellK x c e v z⟩
 ·obtain⟨m,⟨o,_,_,ho,_⟩,_⟩:=I.loc;exact free _ o (fun z=>(hch _ z).2.1 rfl) ho I.free
 ·obtain⟨v,o,ho,hd⟩:=I.cell x c e;exact free c o (fun z=>(hch c z).2.2.1 x c e rfl) ho (I.eR x c e)
 ·obtain⟨e,n,ne,nf,d⟩:=I.pin p hp;have OY:p.1∉ch:=fun z=>(hch p.1 z).2.2.2 p hp rfl
  exact⟨keep p.1 p.2 ne nf OY e n,free p.1 p.2 OY e n,ne,nf,d⟩
theorem Inv.un{t' : Nat}(I:Inv X pins σ H s)(u:Un X.fs [] H H' s.heap h')(hok:kW X.prog X.w H' h'):Inv X pins σ H' { s with heap:=h',toks:=t'}:=by
 obtain⟨m,⟨o,es,ep,ho,r⟩,_⟩:=id I.loc;obtain⟨sl,hL⟩:=u.any ho I.free (by simp)
 exact I.step (g':=s.gens) (d':=s.drawn) (ch:=[]) (fun _ z=>nomatch z) (fun b o _ hb _ e n=>u.keep b o e n hb (by simp)) (fun b o _ hb _ e n=>u.slot b o e n hb (by simp)) (fun b o _ e n=>u.free b o e n (by simp)) (fun b o _ e=>u.there b o e (by simp)) u.tups u.jS u.kX (fun m' hm=>by
  obtain⟨o',es',CS,ho',r'⟩:=hm;rw[ho]at ho';cases ho';exact⟨_,es',CS,hL,r'⟩) hok I.bare
theorem Inv.call{g' : Array GenState}{t' : Nat}{d' : Drawn}{ch:List Addr}(I:Inv X pins σ H s)(u:Un (frs X.stack) ch H H' s.heap h')(hok:kW X.prog X.w H' h')(hg:AllBare g')
 (hch:∀ b∈ch,(b∈X.ex\/X.s₀.heap.objs.size<=b)/\b≠X.env.locals/\(∀ x c,X.env.cells.lookup x=some c->c≠b)/\∀ p∈X.pn++pins,p.1≠b) :
 Inv X pins σ H' { s with heap:=h',gens:=g',drawn:=d',toks:=t'}:=by
 obtain⟨m,⟨o,es,ep,ho,r⟩,_⟩:=id I.loc;obtain⟨sl,hL⟩:=u.any ho I.free fun z=>(hch _ z).2.1 rfl
 exact I.step (ch:=ch) hch (fun b o hL hb hc e n=>u.keep b o e n (fun z=>(List.mem_cons.mp (I.su b z)).elim hL hb) hc) (fun b o _ _ hc e n=>u.any e n hc) (fun b o hc e n=>u.free b o e n hc) (fun b o hc e=>u.there b o e hc) u.tups u.jS u.kX (fun m' hm=>by
  obtain⟨o',es',CS,ho',r'⟩:=hm;rw[ho]at ho';cases ho';exact⟨_,es',CS,hL,r'⟩) hok hg
theorem Inv.turned{t' : Nat}{it:Addr}(I:Inv X pins σ H s)(k:∀ b o,b≠it->s.heap.get? b=some o->h'.get? b=some o)(hn:H it=none)(hL:it≠X.env.locals)
 (h1:it∈X.ex\/X.s₀.heap.objs.size<=it) (h2:∀ x c,X.env.cells.lookup x=some c->c≠it) (h3:∀ p∈X.pn++pins,p.1≠it):Inv X pins σ H { s with heap:=h',toks:=t'}:=by
 have UO:∀ b u,H b=some u->b≠it:=fun b u e z=>by rw[z,hn]at e;cases e
 refine I.step (g':=s.gens) (d':=s.drawn) (ch:=[it]) (fun b hb=>?_) (fun b o _ _ hc e _=>k b o (fun z=>hc (by simp[z])) e) (fun b o _ _ hc e _=>⟨o.slots,k b o (fun z=>hc (by simp[z])) e⟩) (fun _ _ _ _ n=>n)
  (fun b o hc e=>⟨o,k b o (fun z=>hc (by simp[z])) e⟩) (fun _ _ e=>e) (fun _ _ _ e=>e) (fun b ps e=>⟨#[],by rw[e];simp⟩) (fun m hm=>?_) (fun b u e=>?_) I.bare
 ·have e:b=it:=by simpa using hb
  subst e;exact⟨h1,hL,h2,h3⟩
 ·obtain⟨o,es,ep,ho,r⟩:=hm;exact⟨o,es,ep,k _ o (Ne.symm hL) ho,r⟩
 ·refine(I.hok b u e).stay (fun c v hc q=>k c v ?_ q) (fun _ q=>q) fun _ _ q=>q
  rcases hc with z|z
  ·rw[z];exact UO b u e
  ·exact UO c _ z
theorem Inv.tok(I:Inv X pins σ H s)(t:Nat):Inv X pins σ H { s with toks:=t}:=I.un (h':=s.heap) (t':=t) Un.refl I.hok
theorem Inv.kept{t' : Nat}(I:Inv X pins σ H s)(k:∀ b u,s.heap.get? b=some u->h'.get? b=some u):Inv X pins σ H { s with heap:=h',toks:=t'}:=I.un (Un.kept k) (I.hok.kept k)
theorem Inv.laid{a:Addr}{o:HO}{t' : Nat}(I:Inv X pins σ H s)(k:∀ b u,s.heap.get? b=some u->h'.get? b=some u)(hp:s.heap.objs.size<=a)(new:bf X.prog X.w (upd H a o) h' a o):
 Inv X pins σ (upd H a o) { s with heap:=h',toks:=t'}:=I.un (Un.laid k hp (I.hok.fresh hp)) (I.hok.laid k hp new)
theorem Inv.write{x e:Addr}{o:HO}{t' : Nat}(I:Inv X pins σ H s)(mu:OT (H x))(he:e=x\/H e=some (.own x))(k:∀ b u,b≠e->s.heap.get? b=some u->h'.get? b=some u)(Of:∃ u,h'.get? e=some u)
 (new:bf X.prog X.w (upd H x o) h' x o):Inv X pins σ (upd H x o) { s with heap:=h',toks:=t'}:=I.un (Un.write mu he k Of) (I.hok.write mu he k Of new)
theorem Inv.weak{σ' : List (Option V)}(I:Inv X pins σ H s)(hl:σ'.length=σ.length)(w:∀(i:Nat) v,σ'[i]?=some (some v)->σ[i]?=some (some v)):Inv X pins σ' H s :=
 ⟨I.ok,I.os,I.bare,I.base,let⟨m,hn,hl'⟩:=I.loc;⟨m,hn,fun i x v e1 e2 e3=>hl' i x v e1 (w i v e2) e3⟩,I.cell,I.free,I.eR,I.pin,I.hok,hl.trans I.len⟩
theorem Inv.fC{CT:aQ}(I:Inv X pins σ H s)(h:∀ p∈CT,s.heap.get? p.1=some p.2/\H p.1=none/\p.1≠X.env.locals/\p.1∉X.fs/\∀ v,p.2.data≠.cell v):Inv X CT σ H s :=
 ⟨I.ok,I.os,I.bare,I.base,I.loc,I.cell,I.free,I.eR,fun p hp=>(List.mem_append.mp hp).elim (fun z=>I.pin p (List.mem_append_left _ z)) (h p),I.hok,I.len⟩
theorem y9{N:List Str}(hN:N.Nodup){i j:Nat}{x:Str}(a:N[i]?=some x)(b:N[j]?=some x):i=j:=by
 obtain⟨h1,e1⟩:=List.getElem?_eq_some_iff.mp a;obtain⟨h2,e2⟩:=List.getElem?_eq_some_iff.mp b;exact(List.getElem_inj hN).mp (e1.trans e2.symm)
theorem DY{M:Model}{A:Around}{E:dh}{i:Nat}{x:Str}{v:V}{u:Value}{Q:Unit->Shared->Prop}(I:Inv X pins σ H s)(hN:X.N.Nodup)(hi:X.N[i]?=some x)(hx:Loc X.env.scope x)(r:RelV v u)
 (h:∀ s',Inv X pins (σ.set i (some v)) H s'->(∃ a,Heap.SameBut a s.heap s'.heap/\(a=X.env.locals\/X.env.cells.lookup x=some a))->Q () s') (hf:X.fn x=true\/X.env.scope.names.lookup x=some .local:=by first | exact .inl rfl | exact .inr rfl | assumption):wpAny M A (storeName X.env x u) Q E s:=by
 obtain⟨m,hn,hl⟩:=id I.loc;have hcls:(X.env.scope.kind == .class || (X.env.scope.kind == .module&&X.env.locals != X.env.globals))=false:=by rw[I.ok.kind];rfl
 have UP:i<σ.length:=by rw[I.len];exact(List.getElem?_eq_some_iff.mp hi).1
 have Mr:=I.Mr;have tracked:∀{a:Addr} {h' : Heap},(∃ o,s.heap.get? a=some o/\H a=none)->Heap.SameBut a s.heap h'->kW X.prog X.w H h':=fun {a h'} ha hs b ob e=>by
  obtain⟨_,_,hfree⟩:=ha;refine(I.hok b ob e).stay (fun c w' hc q=>(hs.2 c ?_).trans q) (fun _ q=>q) fun _ _ q=>q
  rintro rfl;rcases hc with rfl|hc
  ·rw[hfree]at e;cases e
  ·rw[hfree]at hc;cases hc
 rcases hx with hk|hk
 ·refine wpAny_storeName_local hk hn (fun h' hn' hs=>?_) hcls
  obtain⟨oL,_,_,A8,_⟩:=id hn;refine h _ ⟨I.ok,I.os,I.bare,⟨fun b o e n hb hx=>?_,fun b o e n hb hx=>?_,I.base.free,fun b o e hx=>?_,I.base.tups,I.base.jS,I.base.kX⟩,⟨_,hn',fun j y v' e1 e2 e3=>?_⟩,fun y c e=>?_,I.free,I.eR,fun p hp=>?_,tracked ⟨oL,A8,I.free⟩ hs,by simpa using I.len⟩ ⟨_,hs,.inl rfl⟩
  ·exact(hs.2 b (Nat.ne_of_lt (Nat.lt_of_lt_of_le (Heap.lt_size e) I.ok.above))).trans (I.base.keep b o e n hb hx)
  ·obtain⟨sl,e1⟩:=I.base.slot b o e n hb hx;exact⟨sl,(hs.2 b (Nat.ne_of_lt (Nat.lt_of_lt_of_le (Heap.lt_size e) I.ok.above))).trans e1⟩
  ·obtain⟨o',e1⟩:=I.base.there b o e hx;exact⟨o',(hs.2 b (Nat.ne_of_lt (Nat.lt_of_lt_of_le (Heap.lt_size e) I.ok.above))).trans e1⟩
  ·by_cases hj:j=i
   ·subst hj;rw[hi]at e1;cases e1;rw[List.getElem?_set_self UP]at e2;cases e2;exact⟨u,r,.inl ⟨hk,by simp⟩⟩
   ·rw[List.getElem?_set_ne (Ne.symm hj)]at e2;obtain⟨u',r',q⟩:=hl j y v' e1 e2 e3;refine⟨u',r',?_⟩;rcases q with⟨k,e⟩|⟨k,c,e,z⟩
    ·refine .inl ⟨k,?_⟩;have:y≠x:=fun e=>hj (y9 hN e1 (e▸hi))
     simp[this,e]
    ·exact .inr ⟨k,c,e,z.sameBut hs (Mr y c e)⟩
  ·obtain⟨w',z⟩:=I.cell y c e;exact⟨w',z.sameBut hs (Mr y c e)⟩
  ·obtain⟨e,n,ne,nf,d⟩:=I.pin p hp;exact⟨(hs.2 p.1 ne).trans e,n,ne,nf,d⟩
 ·have hfn:X.fn x=true:=by
   rcases hf with z|z
   ·exact z
   ·rw[z]at hk;cases hk
  obtain⟨c,hc⟩:=I.ok.has x (.inl hk);obtain⟨w',z⟩:=I.cell x c hc;refine wpAny_storeName_cell I.ok.kind hk hc z (fun h' hc' hs=>?_)
  obtain⟨oc,hoc,Sl⟩:=id z;refine h { s with heap:=h'} ⟨I.ok,I.os,I.bare,⟨fun b o e n hb hx=>?_,fun b o e n hb hx=>?_,I.base.free,fun b o e hx=>?_,I.base.tups,I.base.jS,I.base.kX⟩,⟨m,hn.sameBut hs (Ne.symm (Mr x c hc)),fun j y v' e1 e2 e3=>?_⟩,fun y c' e=>?_,I.free,I.eR,fun p hp=>?_,tracked ⟨oc,hoc,I.eR x c hc⟩ hs,by simpa using I.len⟩ ⟨c,hs,.inr hc⟩
  ·exact(hs.2 b (Nat.ne_of_lt (Nat.lt_of_lt_of_le (Heap.lt_size e) (I.ok.OV x c hfn hc)))).trans (I.base.keep b o e n hb hx)
  ·obtain⟨sl,e1⟩:=I.base.slot b o e n hb hx;exact⟨sl,(hs.2 b (Nat.ne_of_lt (Nat.lt_of_lt_of_le (Heap.lt_size e) (I.ok.OV x c hfn hc)))).trans e1⟩
  ·obtain⟨o',e1⟩:=I.base.there b o e hx;exact⟨o',(hs.2 b (Nat.ne_of_lt (Nat.lt_of_lt_of_le (Heap.lt_size e) (I.ok.OV x c hfn hc)))).trans e1⟩
  ·by_cases hj:j=i
   ·subst hj;rw[hi]at e1;cases e1;rw[List.getElem?_set_self UP]at e2;cases e2;exact⟨u,r,.inr ⟨.inl hk,c,hc,hc'⟩⟩
   ·rw[List.getElem?_set_ne (Ne.symm hj)]at e2;obtain⟨u',r',q⟩:=hl j y v' e1 e2 e3;refine⟨u',r',?_⟩;rcases q with q|⟨k,c',e,z'⟩
    ·exact .inl q
    ·refine .inr ⟨k,c',e,z'.sameBut hs ?_⟩;rintro rfl;exact hj (y9 hN e1 (I.ok.inj _ _ _ e hc▸hi))
  ·by_cases hcc:c' = c
   ·subst hcc;exact⟨_,hc'⟩
   ·obtain⟨w2,z2⟩:=I.cell y c' e;exact⟨w2,z2.sameBut hs hcc⟩
  ·obtain⟨e,n,ne,nf,d⟩:=I.pin p hp;refine⟨(hs.2 p.1 ?_).trans e,n,ne,nf,d⟩;intro q;rw[q,hoc]at e;have q' : oc=p.2:=Option.some.inj e;exact d w' (by rw[<-q'];exact Sl)
theorem nQ{M:Model}{A:Around}{E:dh}{i:Nat}{x:Str}{v:V}{u:Value}{Q:Unit->Shared->Prop}(I:Inv X pins σ H s)(hN:X.N.Nodup)(hi:X.N[i]?=some x)(hx:Loc X.env.scope x)(r:RelV v u)
 (h:∀ s',Inv X pins (σ.set i (some v)) H s'->Q () s') (hf:X.fn x=true\/X.env.scope.names.lookup x=some .local:=by first | exact .inl rfl | exact .inr rfl | assumption):wpAny M A (storeName X.env x u) Q E s :=
 DY I hN hi hx r (fun s' I' _=>h s' I') hf
theorem Inv.Gp{s' : Shared}{ch:List Addr}(I:Inv X pins σ H s)(ho:s'.os=s.os)(u:Un (frs X.stack) ch H H' s.heap s'.heap)(hok:kW X.prog X.w H' s'.heap)(hg:AllBare s'.gens)
 (hch:∀ b∈ch,(b∈X.ex\/X.s₀.heap.objs.size<=b)/\b≠X.env.locals/\(∀ x c,X.env.cells.lookup x=some c->c≠b)/\∀ p∈X.pn++pins,p.1≠b):Inv X pins σ H' s':=by
 obtain⟨h',g',d',t',o'⟩:=s';have e:o' = s.os:=ho;subst e;exact I.call (g':=g') (t':=t') (d':=d') u hok hg hch
end
abbrev XK:=Value->Option Addr->Hp->Prop
abbrev St:=List (Option V)
abbrev VK:=V->Hp->Prop
abbrev TE:=St->Hp->VK->Prop
abbrev TT:=St->Hp->(Bool->Hp->Prop)->Prop
abbrev TA:=St->Hp->(List V->Hp->Prop)->Prop
structure Ends where
 nx:St->Hp->Prop
 rt:VK
 bk:St->Hp->Prop:=fun _ _=>False
 ct:St->Hp->Prop:=fun _ _=>False
abbrev TS:=Ends->St->Hp->Prop
def EP(X:Cx)(pins:aQ)(σ:St)(Q:VK)(u:Value)(s' : Shared):Prop:=∃ v H',Inv X pins σ H' s'/\RelV v u/\Q v H'
def TP(X:Cx)(pins:aQ)(σ:St)(Q:Bool->Hp->Prop)(b:Bool)(s' : Shared):Prop:=∃ H',Inv X pins σ H' s'/\Q b H'
def AP(X:Cx)(pins:aQ)(σ:St)(Q:List V->Hp->Prop)(us:List Value)(s' : Shared):Prop:=∃ vs H',Inv X pins σ H' s'/\Vals vs us/\Q vs H'
def SP(X:Cx)(pins:aQ)(D:Ends)(f:Flow)(s' : Shared):Prop :=
 match f with
 | .next=>∃ σ' H',Inv X pins σ' H' s'/\D.nx σ' H'
 | .brk=>∃ σ' H',Inv X pins σ' H' s'/\D.bk σ' H'
 | .cont=>∃ σ' H',Inv X pins σ' H' s'/\D.ct σ' H'
 | .ret u=>∃ v σ' H',Inv X pins σ' H' s'/\RelV v u/\D.rt v H'
def PE(X:Cx)(e:Expr)(t:TE):Prop :=
 ∀(pins:aQ) (s:Shared) (σ:St) (H:Hp) (Q:VK),Inv X pins σ H s->t σ H Q->wpAny (model X.prog X.w) X.A (eval e X.env) (EP X pins σ Q) X.xe s
def PT(X:Cx)(e:Expr)(t:TT):Prop :=
 ∀(pins:aQ) (s:Shared) (σ:St) (H:Hp) (Q:Bool->Hp->Prop),Inv X pins σ H s->t σ H Q->wpAny (model X.prog X.w) X.A (isTrue e X.env (eval e X.env)) (TP X pins σ Q) X.xe s
def PW(X:Cx)(e:Expr)(t:TT):Prop :=
 ∀(whole:Sem Value) (pins:aQ) (s:Shared) (σ:St) (H:Hp) (Q:Bool->Hp->Prop),Inv X pins σ H s->t σ H Q->wpAny (model X.prog X.w) X.A (isTrue e X.env whole) (TP X pins σ Q) X.xe s
theorem PW.pt{X:Cx}{e:Expr}{t:TT}(h:PW X e t):PT X e t:=h _
def PA(X:Cx)(es:List Expr)(t:TA):Prop :=
 ∀(pos:Pos) (pins:aQ) (s:Shared) (σ:St) (H:Hp) (Q:List V->Hp->Prop),Inv X pins σ H s->t σ H Q->wpAny (model X.prog X.w) X.A (spliced (backTo pos (starEach es X.env))) (AP X pins σ Q) X.xe s
def PS(X:Cx)(st:Stmt)(t:TS):Prop :=
 ∀(pins:aQ) (s:Shared) (σ:St) (H:Hp) (D:Ends),Inv X pins σ H s->t D σ H->wpAny (model X.prog X.w) X.A (exec st X.env) (SP X pins D) X.xe s
def vE(X:Cx)(st:List Stmt)(t:TS):Prop :=
 ∀(pins:aQ) (s:Shared) (σ:St) (H:Hp) (D:Ends),Inv X pins σ H s->t D σ H->wpAny (model X.prog X.w) X.A (execs st X.env) (SP X pins D) X.xe s
theorem cT{α:Type}{t:Sem α}{Q Q' : α->Shared->Prop}{M:Model}{A:Around}{E:dh}{s:Shared}(h:wpAny M A t Q E s)(hQ:∀ a s,Q a s->Q' a s):wpAny M A t Q' E s:=wpAny_mono h hQ fun _ _ x=>x
section
variable {X:Cx}
def OZ(i:Nat):TE:=fun σ H Q=>∃ v,σ[i]?=some (some v)/\Q v H
def tC(v:V):TE:=fun _ H Q=>Q v H
theorem Ms{i:Nat}{x:Str}{pos:Pos}(hN:X.N[i]?=some x)(hv:Ry X.env.scope x)(hd:(x==("__debug__":Str))=false:=by decide)(hcd:(x==("__classdict__":Str))=false:=by decide):PE X (.Name x pos) (OZ i):=by
 intro pins s σ H Q I h;obtain⟨v,e,h⟩:=h;obtain⟨m,hn,hl⟩:=I.loc;obtain⟨u,r,l⟩:=hl i x v hN e hv;have fin:EP X pins σ Q u s:=⟨v,H,I,r,h⟩;rcases l with⟨hk,hm⟩|⟨hk,c,hc,hcell⟩
 ·exact wpAny_Name (wpAny_loadName_local I.ok.kind hk hn hm fin) hd
 ·rcases hk with hk|hk
  ·exact wpAny_Name (wpAny_loadName_cell I.ok.kind hk hc hcell fin) hd
  ·exact wpAny_Name (wpAny_loadName_free I.ok.kind hk hc hcell fin hcd) hd
theorem ai{i j pos}:PE X (.Constant (.int i) j pos) (tC (.int i)):=fun _ _ _ H _ I h=>wpAny_Constant_int ⟨.int i,H,I.tok _,⟨_,rfl⟩,h⟩
theorem nR{b j pos}:PE X (.Constant (.bool b) j pos) (tC (.bl b)):=fun _ _ _ H _ I h=>Constant_bool ⟨.bl b,H,I,rfl,h⟩
theorem o9{j pos}:PE X (.Constant .none j pos) (tC .dR):=fun _ _ _ H _ I h=>Constant_none ⟨.dR,H,I,rfl,h⟩
theorem pe{x j pos}:PE X (.Constant (.str x) j pos) (tC (.str x)):=fun _ _ _ H _ I h=>Calls.Constant_str ⟨.str x,H,I.tok _,⟨_,rfl⟩,h⟩
def Gl(X:Cx)(x:Str):Prop:=X.env.kindOf x=some .globalImplicit
theorem xg{E:dh}{pins:aQ}{s:Shared}{σ:St}{H:Hp}{x:Str}{u:Value}{pos:Pos}{Q:dh}(I:Inv X pins σ H s)(hg:Gl X x)(hm:X.mg x=some u)(h:Q u s)
 (hd:(x==("__debug__":Str))=false:=by decide):wpAny (model X.prog X.w) X.A (eval (.Name x pos) X.env) Q E s :=
 Calls.Name_function_global I.ok.kind hg (Calls.loadGlobal_global (by rw[I.ok.glob];exact I.mod.glob.keeps I.bk) hm h) hd
theorem jr{E:dh}{pins:aQ}{s:Shared}{σ:St}{H:Hp}{x:Str}{u:Value}{pos:Pos}{Q:dh}(I:Inv X pins σ H s)(hg:Gl X x)(hm:X.mg x=none)(hv:bootBuiltins x=some u)(h:Q u s)
 (hn:x≠"__name__":=by decide) (hd:(x==("__debug__":Str))=false:=by decide):wpAny (model X.prog X.w) X.A (eval (.Name x pos) X.env) Q E s:=by
 obtain⟨mb,h1,h2⟩:=I.mod.blt;exact Calls.Name_function_global I.ok.kind hg (Calls.loadGlobal_builtin (by rw[I.ok.glob];exact I.mod.glob.keeps I.bk) hm (by rw[I.ok.blt];exact h1.keeps I.bk) ((h2 x hn).trans hv) h) hd
theorem JO{x:Str}{v:V}{u:Value}{pos:Pos}(hg:Gl X x)(hm:X.mg x=some u)(r:RelV v u)(hd:(x==("__debug__":Str))=false:=by decide):PE X (.Name x pos) (tC v) :=
 fun _ _ _ H _ I h=>xg I hg hm ⟨v,H,I,r,h⟩ hd
theorem JP{x:Str}{v:V}{u:Value}{pos:Pos}(hg:Gl X x)(hm:X.mg x=none)(hv:bootBuiltins x=some u)(r:RelV v u)(hn:x≠"__name__":=by decide)(hd:(x==("__debug__":Str))=false:=by decide):PE X (.Name x pos) (tC v) :=
 fun _ _ _ H _ I h=>jr I hg hm hv ⟨v,H,I,r,h⟩ hn hd
variable {a b:Expr}{ta tb:TE}{pos:Pos}
def tB(t:TE):TT:=fun σ H Q=>t σ H fun x H1=>∃ c,x = .bl c/\Q c H1
theorem dJ{e:Expr}{t:TE}(h:PE X e t)(he:∀ whole,isTrue e X.env whole=(do let v←whole;standAt e.pos;holding [v] (truthy v)):=by intro _;rfl):PT X e (tB t):=by
 intro pins s σ H Q I hw;refine isTrue_plain (cT (h pins s σ H _ I hw) fun v s1 ⟨x,H1,I1,r1,q1⟩=>?_) (he _)
 obtain⟨d,rfl,q⟩:=q1;cases r1;exact wpAny_truthy_bool ⟨H1,I1,q⟩
variable {tA RB:TT}{rest:List Expr}
def Sm(t u:TT):TT:=fun σ H Q=>t σ H fun c H1=>if c=true then u σ H1 Q else Q false H1
def Xb(t u:TT):TT:=fun σ H Q=>t σ H fun c H1=>if c=true then Q true H1 else u σ H1 Q
def Sn(t:TT):TT:=fun σ H Q=>t σ H fun c H1=>Q (!c) H1
theorem xh(ha:PT X a tA):PW X (.BoolOp .And [a] pos) tA:=by
 intro wh pins s σ H Q I h;refine isTrue_and (cT (ha pins s σ H Q I h) fun c s1 e=>?_)
 cases c with
 | true=>exact isTrue_and_nil e
 | false=>exact e
theorem pq(ha:PT X a tA):PW X (.BoolOp .Or [a] pos) tA:=by
 intro wh pins s σ H Q I h;refine isTrue_or (cT (ha pins s σ H Q I h) fun c s1 e=>?_)
 cases c with
 | false=>exact isTrue_or_nil e
 | true=>exact e
theorem Bc(ha:PT X a tA)(hb:PW X (.BoolOp .And (b::rest) pos) RB):PW X (.BoolOp .And (a::b::rest) pos) (Sm tA RB):=by
 intro wh pins s σ H Q I h;refine isTrue_and (cT (ha pins s σ H _ I h) fun c s1 ⟨H1,I1,q1⟩=>?_)
 cases c with
 | true=>exact hb wh pins s1 σ H1 Q I1 q1
 | false=>exact⟨H1,I1,q1⟩
theorem sy(ha:PT X a tA)(hb:PW X (.BoolOp .Or (b::rest) pos) RB):PW X (.BoolOp .Or (a::b::rest) pos) (Xb tA RB):=by
 intro wh pins s σ H Q I h;refine isTrue_or (cT (ha pins s σ H _ I h) fun c s1 ⟨H1,I1,q1⟩=>?_)
 cases c with
 | true=>exact⟨H1,I1,q1⟩
 | false=>exact hb wh pins s1 σ H1 Q I1 q1
theorem pA(ha:PT X a tA):PT X (.UnaryOp .Not a pos) (Sn tA):=by
 intro pins s σ H Q I h;exact isTrue_not (ha pins s σ H (fun c H1=>Q (!c) H1) I h)
def O0(ta tb:TE):TE:=fun σ H Q=>ta σ H fun x H1=>∃ c,x = .bl c/\if c=true then tb σ H1 Q else Q (.bl false) H1
def O1(ta:TE):TE:=fun σ H Q=>ta σ H fun x H1=>∃ c,x = .bl c/\Q (.bl (!c)) H1
theorem sA{op}{t:TE}(h:PE X a t):PE X (.BoolOp op [a] pos) t:=fun pins s σ H Q I hw=>BoolOp_one (h pins s σ H Q I hw)
theorem sC(ha:PE X a ta)(hb:PE X (.BoolOp .And (b::rest) pos) tb):PE X (.BoolOp .And (a::b::rest) pos) (O0 ta tb):=by
 intro pins s σ H Q I h;refine BoolOp_and (cT (ha pins s σ H _ I h) fun v s1 ⟨x,H1,I1,r1,q1⟩=>?_)
 obtain⟨c,rfl,q1⟩:=q1;cases r1;refine wpAny_truthy_bool ?_;cases c with
 | true=>exact hb pins s1 σ H1 Q I1 q1
 | false=>exact⟨.bl false,H1,I1,rfl,q1⟩
theorem Gq(ha:PE X a ta):PE X (.UnaryOp .Not a pos) (O1 ta):=by
 intro pins s σ H Q I h;refine UnaryOp_ (cT (ha pins s σ H _ I h) fun v s1 ⟨x,H1,I1,r1,q1⟩=>?_)
 obtain⟨c,rfl,q1⟩:=q1;cases r1;exact not_of (wpAny_truthy_bool ⟨.bl (!c),H1,I1,rfl,q1⟩)
def Xc(t:TT)(ta tb:TE):TE:=fun σ H Q=>t σ H fun c H1=>if c=true then ta σ H1 Q else tb σ H1 Q
theorem kY{c:Expr}(hc:PT X c tA)(ha:PE X a ta)(hb:PE X b tb):PE X (.IfExp c a b pos) (Xc tA ta tb):=by
 intro pins s σ H Q I h;refine wpAny_IfExp (cT (hc pins s σ H _ I h) fun d s1 ⟨H1,I1,q1⟩=>?_)
 cases d with
 | true=>exact ha pins s1 σ H1 Q I1 q1
 | false=>exact hb pins s1 σ H1 Q I1 q1
end
def aL(K:bJ)(H:Hp)(a:Addr)(xs:List V):Prop :=
 Rd H a (.lst xs)\/
  ∃(o:Obj) (its:Array Value) (n:Nat),K.lookup a=some o/\o.cls = .type "list"/\o.dict=none/\o.data = .seq its n/\its.size<=sizeLine/\Vals xs its.toList
def aV(K:bJ)(H:Hp)(a:Addr)(xs:List V):Prop :=
 Rd H a (.tup xs)\/
  ∃(o:Obj) (its:Array Value) (n:Nat),K.lookup a=some o/\o.cls = .type "tuple"/\o.data = .seq its n/\its.size<=sizeLine/\Vals xs its.toList
def So:Value->Option V
 | .none=>some .dR
 | .bool b=>some (.bl b)
 | .int i _=>some (.int i)
 | .str x _=>some (.str x)
 | .bytes b _=>some (.Gj b)
 | .float b _=>some (.Oe b)
 | .ref a=>some (.ref a)
 | .type n=>some (.ty n)
 | _=>none
theorem RelV.abs{x:V}{u:Value}(r:RelV x u):So u=some x:=by
 cases x with
 | dR=>cases r;rfl
 | bl _=>cases r;rfl
 | int _=>obtain⟨t,rfl⟩:=r;rfl
 | str _=>obtain⟨t,rfl⟩:=r;rfl
 | Gj _=>obtain⟨t,rfl⟩:=r;rfl
 | Oe _=>obtain⟨t,rfl⟩:=r;rfl
 | ref _=>cases r;rfl
 | ty _=>cases r;rfl
theorem RelV.inj{x y:V}{u:Value}(r:RelV x u)(q:RelV y u):x=y:=Option.some.inj (r.abs.symm.trans q.abs)
theorem Vals.inj:∀{xs ys:List V} {us:List Value},Vals xs us->Vals ys us->xs=ys
 | _,_,_,.nil,.nil=>rfl
 | _,_,_,.cons r t,.cons r' t'=>by rw[r.inj r',Vals.inj t t']
section
variable {X:Cx}{pins:aQ}{σ:St}{H:Hp}{s:Shared}{a:Addr}{xs ys:List V}
theorem aL.of{K:bJ}(h:H a=some (.lst xs)):aL K H a xs:=.inl (.inl h)
theorem aV.of{K:bJ}(h:H a=some (.tup xs)):aV K H a xs:=.inl (.inl h)
theorem Inv.list(I:Inv X pins σ H s)(h:aL X.K H a xs):∃ its:List Value,Vals xs its/\PlainL s.heap a its.toArray/\xs.length<=sizeLine:=by
 rcases h with h|⟨o,its,n,hk,hc,hd,hs,hz,r⟩
 ·obtain⟨z,its,n,r,e⟩:=h.ok I.hok;exact⟨its,r,⟨_,n,e,rfl,rfl,rfl⟩,z⟩
 ·refine⟨its.toList,r,⟨o,n,I.yU a o hk,hc,hd,by simpa using hs⟩,?_⟩
  have e:=r.length;simp only[Array.length_toList]at e
  lia
theorem Inv.tuple(I:Inv X pins σ H s)(h:aV X.K H a xs):∃ its:List Value,Vals xs its/\IsTup s.heap a its.toArray/\xs.length<=sizeLine:=by
 rcases h with h|⟨o,its,n,hk,hc,hs,hz,r⟩
 ·obtain⟨z,its,r,p⟩:=h.ok I.hok;exact⟨its,r,p,z⟩
 ·refine⟨its.toList,r,⟨o,I.yU a o hk,hc,n,by simpa using hs⟩,?_⟩
  have e:=r.length;simp only[Array.length_toList]at e
  lia
theorem Inv.nS(I:Inv X pins σ H s)(h:aL X.K H a xs)(h' : aL X.K H a ys):xs=ys:=by
 obtain⟨its,r,⟨o,n,e,_,_,d⟩,_⟩:=I.list h;obtain⟨its',r',⟨o',n',e',_,_,d'⟩,_⟩:=I.list h';rw[e]at e';cases e';rw[d]at d';injection d' with d1 _
 have:its=its':=by simpa using congrArg Array.toList d1
 subst this;exact r.inj r'
theorem Inv.DZ(I:Inv X pins σ H s)(h:aV X.K H a xs)(h' : aV X.K H a ys):xs=ys:=by
 obtain⟨its,r,⟨o,e,_,n,d⟩,_⟩:=I.tuple h;obtain⟨its',r',⟨o',e',_,n',d'⟩,_⟩:=I.tuple h';rw[e]at e';cases e';rw[d]at d';injection d' with d1 _
 have:its=its':=by simpa using congrArg Array.toList d1
 subst this;exact r.inj r'
end
abbrev Cx.sD(X:Cx)(E:dh):Cx:={ X with xe:=E}
abbrev Cx.A9(X:Cx):Cx:=X.sD fun _ _=>False
theorem Cx.Ok.sD{X:Cx}(ok:X.Ok)(E:dh):(X.sD E).Ok :=
 ⟨ok.mod,ok.kind,ok.glob,ok.blt,ok.above,ok.inj,ok.has,ok.OV,ok.hd,ok.frames,ok.JL,ok.UM,ok.bs,ok.JM,ok.Gn,ok.JN,ok.funs,ok.Mq⟩
theorem Cx.Ok.iD{X:Cx}{E:dh}(ok:(X.sD E).Ok):X.Ok :=
 ⟨ok.mod,ok.kind,ok.glob,ok.blt,ok.above,ok.inj,ok.has,ok.OV,ok.hd,ok.frames,ok.JL,ok.UM,ok.bs,ok.JM,ok.Gn,ok.JN,ok.funs,ok.Mq⟩
section
variable {X:Cx}{pins:aQ}{σ:St}{H:Hp}{s:Shared}{E:dh}
theorem Inv.sD(I:Inv X pins σ H s)(E:dh):Inv (X.sD E) pins σ H s:=⟨I.ok.sD E,I.os,I.bare,I.base,I.loc,I.cell,I.free,I.eR,I.pin,I.hok,I.len⟩
theorem Inv.iD(I:Inv (X.sD E) pins σ H s):Inv X pins σ H s:=⟨I.ok.iD,I.os,I.bare,I.base,I.loc,I.cell,I.free,I.eR,I.pin,I.hok,I.len⟩
theorem SP.iD{D:Ends}{f:Flow}{s' : Shared}(h:SP (X.sD E) pins D f s'):SP X pins D f s':=by
 cases f with
 | next=>obtain⟨σ',H',I,q⟩:=h;exact⟨σ',H',I.iD,q⟩
 | brk=>obtain⟨σ',H',I,q⟩:=h;exact⟨σ',H',I.iD,q⟩
 | cont=>obtain⟨σ',H',I,q⟩:=h;exact⟨σ',H',I.iD,q⟩
 | ret u=>obtain⟨v,σ',H',I,r,q⟩:=h;exact⟨v,σ',H',I.iD,r,q⟩
theorem vE.A9{st:List Stmt}{t:TS}(h:vE X.A9 st t):vE X st t:=fun pins s σ H D I hw =>
 wpAny_mono (h pins s σ H D (I.sD _) hw) (fun _ _ q=>q.iD) fun _ _ z=>False.elim z
end
section
variable {X:Cx}{st:Stmt}{rest:List Stmt}{t u:TS}{e:Expr}{te:TE}{pos:Pos}
def bE:TS:=fun D σ H=>D.nx σ H
def Ends.on(D:Ends)(u:TS):Ends:={ D with nx:=u D}
def az(t u:TS):TS:=fun D σ H=>t (D.on u) σ H
theorem bh:vE X [] bE:=fun _ _ σ H _ I h=>wpAny_execs_nil ⟨σ,H,I,h⟩
theorem ak(h1:PS X st t)(h2:vE X rest u):vE X (st::rest) (az t u):=by
 intro pins s σ H D I h;refine wpAny_execs_cons (cT (h1 pins s σ H { D with nx:=u D} I h) fun f s1 q=>?_)
 cases f with
 | next =>
   obtain⟨σ',H',I',q⟩:=q;exact h2 pins s1 σ' H' D I' q
 | ret v=>exact q
 | brk=>exact q
 | cont=>exact q
theorem av(h1:PS X st t):vE X [st] t:=by
 intro pins s σ H D I h;refine wpAny_execs_cons (cT (h1 pins s σ H D I h) fun f s1 q=>?_)
 cases f with
 | next=>exact wpAny_execs_nil q
 | ret v=>exact q
 | brk=>exact q
 | cont=>exact q
theorem Inv.quiet{pins:aQ}{σ:St}{H:Hp}{s:Shared}(I:Inv X pins σ H s):interactive X.env=false:=by simp[interactive,I.ok.kind]
def O2(te:TE):TS:=fun D σ H=>te σ H fun _ H1=>D.nx σ H1
theorem cK(he:PE X e te)(hs:swapsWith e none pos.line X.env=pure false:=by rfl):PS X (.Expr e pos) (O2 te):=by
 intro pins s σ H D I h;exact wpAny_Expr_any (cT (he pins s σ H _ I h) fun v s1 ⟨x,H1,I1,r1,q1⟩=>⟨σ,H1,I1,q1⟩) I.quiet hs
def Sq(te:TE):TS:=fun D σ H=>te σ H D.rt
theorem aH(he:PE X e te):PS X (.Return (some e) pos) (Sq te):=by
 intro pins s σ H D I h;exact wpAny_Return_some (cT (he pins s σ H _ I h) fun v s1 ⟨x,H1,I1,r1,q1⟩=>⟨x,σ,H1,I1,r1,q1⟩)
def cH(c:TT)(t u:TS):TS:=fun D σ H=>c σ H fun b H1=>if b=true then t D σ H1 else u D σ H1
theorem cJ{c:Expr}{a b:List Stmt}{tc:TT}(hc:PT X c tc)(ha:vE X a t)(hb:vE X b u):PS X (.If c a b pos) (cH tc t u):=by
 intro pins s σ H D I h;refine wpAny_If (cT (hc pins s σ H _ I h) fun d s1 ⟨H1,I1,q1⟩=>?_)
 cases d with
 | true=>exact ha pins s1 σ H1 D I1 q1
 | false=>exact hb pins s1 σ H1 D I1 q1
def Mt:TS:=fun _ _ _=>False
theorem vF{sts:List Stmt}:vE X sts Mt:=fun _ _ _ _ _ _ h=>h.elim
end
abbrev TG:=V->St->Hp->(St->Hp->Prop)->Prop
abbrev Jz:=List V->St->Hp->(St->Hp->Prop)->Prop
def PG(X:Cx)(target:Expr)(t:TG):Prop :=
 ∀(pins:aQ) (s:Shared) (σ:St) (H:Hp) (v:V) (u:Value) (Q:St->Hp->Prop),Inv X pins σ H s->RelV v u->t v σ H Q->
  wpAny (model X.prog X.w) X.A (assign target X.env u) (fun _ s'=>∃ σ' H',Inv X pins σ' H' s'/\Q σ' H') X.xe s
def Oh(X:Cx)(ts:List Expr)(t:Jz):Prop :=
 ∀(pins:aQ) (s:Shared) (σ:St) (H:Hp) (vs:List V) (us:List Value) (Q:St->Hp->Prop),Inv X pins σ H s->Vals vs us->t vs σ H Q->
  wpAny (model X.prog X.w) X.A (assignInOrder ((assignEach ts X.env).map (·.2)) us) (fun _ s'=>∃ σ' H',Inv X pins σ' H' s'/\Q σ' H') X.xe s
abbrev Gr:=V->V->V->Hp->(Hp->Prop)->Prop
def Mu(X:Cx)(t:Gr):Prop :=
 ∀(pins:aQ) (s:Shared) (σ:St) (H:Hp) (o i v:V) (ov iv u:Value) (Q:Hp->Prop),Inv X pins σ H s->RelV o ov->RelV i iv->RelV v u->t o i v H Q->
  wpAny (model X.prog X.w) X.A (setItem ov iv u) (fun _ s'=>∃ H',Inv X pins σ H' s'/\Q H') X.xe s
abbrev O3:=V->V->Hp->VK->Prop
def UQ(X:Cx)(op:Operator)(t:O3):Prop :=
 ∀(pins:aQ) (s:Shared) (σ:St) (H:Hp) (x y:V) (v u:Value) (Q:VK),Inv X pins σ H s->RelV x v->RelV y u->t x y H Q->
  wpAny (model X.prog X.w) X.A (inplaceOp op v u) (EP X pins σ Q) X.xe s
section
variable {X:Cx}{pos:Pos}
def Gs(i:Nat):TG:=fun v σ H Q=>Q (σ.set i (some v)) H
theorem xj{i:Nat}{x:Str}(hN:X.N.Nodup)(hi:X.N[i]?=some x)(hx:Loc X.env.scope x)(hf:X.fn x=true\/X.env.scope.names.lookup x=some .local:=by first | exact .inl rfl | exact .inr rfl | assumption):PG X (.Name x pos) (Gs i):=by
 intro pins s σ H v u Q I r h;exact wpAny_assign_Name (nQ I hN hi hx r (fun s' I'=>⟨_,H,I',h⟩) hf)
def Ss:Jz:=fun vs σ H Q=>vs=[]/\Q σ H
def O4(t:TG)(u:Jz):Jz:=fun vs σ H Q=>∃ v r,vs=v::r/\t v σ H fun σ' H'=>u r σ' H' Q
theorem gC:Oh X [] Ss:=by
 intro pins s σ H vs us Q I r h;obtain⟨e,h⟩:=h;subst e;cases r;exact assignInOrder_nil ⟨σ,H,I,h⟩
theorem aZ{e:Expr}{es:List Expr}{t:TG}{u:Jz}(h1:PG X e t)(h2:Oh X es u)
 (hs:(assignEach (e::es) X.env).map (·.2)=assign e X.env::(assignEach es X.env).map (·.2):=by rfl):Oh X (e::es) (O4 t u):=by
 intro pins s σ H vs us Q I r h;obtain⟨v,vr,e1,h⟩:=h;subst e1;cases r with
 | cons r rr =>
   rw[hs];refine assignInOrder_cons (cT (h1 pins s σ H _ _ _ I r h) fun _ s1 ⟨σ1,H1,I1,q1⟩=>?_)
   exact h2 pins s1 σ1 H1 _ _ Q I1 rr q1
def O5(K:bJ)(n:Nat)(t:Jz):TG:=fun v σ H Q=>∃ a xs,v = .ref a/\aV K H a xs/\xs.length=n/\t xs σ H Q
theorem Mv{es:List Expr}{k:Nat}{t:Jz}{n:Nat}(hc:X.calm=true)(h:Oh X es t)
 (hn:(assignEach es X.env).length=n:=by rfl) (hst:(assignEach es X.env).findIdx? (·.1)=none:=by rfl):PG X (.Tuple es k pos) (O5 X.K n t):=by
 intro pins s σ H v u Q I r hw;obtain⟨a,xs,e1,hq,hl,hw⟩:=hw;subst e1;cases r;obtain⟨its,rv,ht,hz⟩:=I.tuple hq;refine assign_Tuple_tuple (I.ok.hd hc) ht (by simp[hn,<-hl,rv.length]) hst fun h' hx=>?_
 have I1:Inv X pins σ H { s with heap:=h'}:=I.kept (t':=s.toks) fun b o e=>hx b o (Nat.ne_of_lt (Heap.lt_size e)) e
 exact h pins _ σ H xs _ Q I1 (by simpa using rv) hw
def Su(to ti:TE)(t:Gr):TG:=fun v σ H Q=>to σ H fun o H1=>ti σ H1 fun i H2=>t o i v H2 fun H3=>Q σ H3
theorem Bd{o i:Expr}{to ti:TE}{t:Gr}(ho:PE X o to)(hi:PE X i ti)(hs:Mu X t)
 (ha:∀ v,assign (.Subscript o i pos) X.env v=(do
  let ov←holding [v] (eval o X.env)
  let iv←holding [v,ov] (eval i X.env)
  standAt pos
  holding [v,ov,iv] (setItem ov iv v)
  release [v,ov,iv] []):=by intro _;rfl):PG X (.Subscript o i pos) (Su to ti t):=by
 intro pins s σ H v u Q I r h;rw[ha];refine wpAny_bind (wpAny_holding (cT (ho pins s σ H _ I h) fun ov s1 ⟨x,H1,I1,r1,q1⟩=>?_))
 refine wpAny_bind (wpAny_holding (cT (hi pins s1 σ H1 _ I1 q1) fun iv s2 ⟨y,H2,I2,r2,q2⟩=>?_))
 refine wpAny_bind (wpAny_standAt (wpAny_bind (wpAny_holding (cT (hs pins s2 σ H2 x y v ov iv u _ I2 r1 r2 r q2) fun _ s3 ⟨H3,I3,q3⟩=>?_))))
 exact wpAny_release ⟨σ,H3,I3,q3⟩
def O6(te:TE)(g:TG):TS:=fun D σ H=>te σ H fun x H1=>g x σ H1 D.nx
theorem Be{tg e:Expr}{te:TE}{g:TG}(he:PE X e te)(hg:PG X tg g)(hs:swapsWithSole [tg] e pos.line X.env=pure false:=by rfl)(hw:swappedStores [tg] e X.env=pure none:=by rfl)
 (h1:(assignEach [tg] X.env).map (·.2)=[assign tg X.env]:=by rfl):PS X (.Assign [tg] e pos) (O6 te g):=by
 intro pins s σ H D I h;refine wpAny_Assign_stores (cT (he pins s σ H _ I h) fun v s1 ⟨x,H1,I1,r1,q1⟩=>?_) hs hw
 rw[h1];exact cT (hg pins s1 σ H1 x v _ I1 r1 q1) fun _ s2 q=>q
theorem aF{i:Nat}{x:Str}{e:Expr}{te:TE}{pos' : Pos}(hN:X.N.Nodup)(hi:X.N[i]?=some x)(hx:Loc X.env.scope x)(he:PE X e te)(hs:swapsWith e (some (.Name x pos')) pos.line X.env=pure false:=by rfl)(hf:X.fn x=true\/X.env.scope.names.lookup x=some .local:=by first | exact .inl rfl | exact .inr rfl | assumption):
 PS X (.Assign [.Name x pos'] e pos) (O6 te (Gs i)):=by
 intro pins s σ H D I h;refine wpAny_Assign_Name (cT (he pins s σ H _ I h) fun v s1 ⟨y,H1,I1,r1,q1⟩=>?_) hs
 exact nQ I1 hN hi hx r1 (fun s2 I2=>⟨_,H1,I2,q1⟩) hf
def Sv(i:Nat)(te:TE)(ti:O3):TS:=fun D σ H=>∃ x,σ[i]?=some (some x)/\te σ H fun y H1=>ti x y H1 fun z H2=>D.nx (σ.set i (some z)) H2
theorem xm{i:Nat}{x:Str}{e:Expr}{te:TE}{op:Operator}{ti:O3}{pos' : Pos}(hN:X.N.Nodup)(hi:X.N[i]?=some x)(hx:Loc X.env.scope x)(he:PE X e te)(ho:UQ X op ti)(hf:X.fn x=true\/X.env.scope.names.lookup x=some .local:=by first | exact .inl rfl | exact .inr rfl | assumption):
 PS X (.AugAssign (.Name x pos') op e pos) (Sv i te ti):=by
 intro pins s σ H D I h;obtain⟨v,e1,h⟩:=h;obtain⟨m,hn,hl⟩:=I.loc;have Xd:Ry X.env.scope x:=by rcases hx with k | k;exact .inl k;exact .inr (.inl k)
 obtain⟨u,r,l⟩:=hl i x v hi e1 Xd;refine wpAny_AugAssign_Name ?_;have go:wpAny (model X.prog X.w) X.A (eval e X.env) (fun w s₂=>wpAny (model X.prog X.w) X.A (inplaceOp op u w) (fun r s₃=>wpAny (model X.prog X.w) X.A (storeName X.env x r) (fun _=>SP X pins D .next) X.xe s₃) X.xe s₂) X.xe s:=by
  refine cT (he pins s σ H _ I h) fun w s1 ⟨y,H1,I1,r1,q1⟩=>?_
  refine cT (ho pins s1 σ H1 v y u w _ I1 r r1 q1) fun z s2 ⟨zv,H2,I2,r2,q2⟩=>?_
  exact nQ I2 hN hi hx r2 (fun s3 I3=>⟨_,H2,I3,q2⟩) hf
 rcases l with⟨hk,hm⟩|⟨hk,c,hc,hcell⟩
 ·exact wpAny_loadName_local I.ok.kind hk hn hm go
 ·rcases hk with hk|hk
  ·exact wpAny_loadName_cell I.ok.kind hk hc hcell go
  ·rcases hx with k|k
   ·have:X.env.scope.names.lookup x=some .free:=hk;rw[k]at this;cases this
   ·have:X.env.scope.names.lookup x=some .free:=hk;rw[k]at this;cases this
def O7(to ti te:TE)(JQ:V->V->Hp->VK->Prop)(RC:O3)(JR:Gr):TS:=fun D σ H=>to σ H fun o H1=>ti σ H1 fun i H2=>JQ o i H2 fun x H3=>te σ H3 fun y H4=>RC x y H4 fun z H5=>JR o i z H5 fun H6=>D.nx σ H6
def O8(X:Cx)(t:V->V->Hp->VK->Prop):Prop :=
 ∀(pins:aQ) (s:Shared) (σ:St) (H:Hp) (o i:V) (ov iv:Value) (Q:VK),Inv X pins σ H s->RelV o ov->RelV i iv->t o i H Q->
  wpAny (model X.prog X.w) X.A (getItem ov iv) (EP X pins σ Q) X.xe s
theorem CU{o i e:Expr}{to ti te:TE}{JQ:V->V->Hp->VK->Prop}{RC:O3}{JR:Gr}{op:Operator}{tpos:Pos}(ho:PE X o to)(hi:PE X i ti)(hg:O8 X JQ)(he:PE X e te)(hp:UQ X op RC)(hs:Mu X JR)
 (ha:∀ ov iv new,augStore i ov iv new=(do holding [new,ov,iv] (setItem ov iv new);release [new,ov,iv] [];pure .next):=by intros;rfl):PS X (.AugAssign (.Subscript o i tpos) op e pos) (O7 to ti te JQ RC JR):=by
 intro pins s σ H D I h;refine wpAny_AugAssign_SubscriptAny (cT (ho pins s σ H _ I h) fun ov s1 ⟨x1,H1,I1,r1,q1⟩=>?_) ha
 refine cT (hi pins s1 σ H1 _ I1 q1) fun iv s2 ⟨x2,H2,I2,r2,q2⟩=>?_
 refine cT (hg pins s2 σ H2 x1 x2 ov iv _ I2 r1 r2 q2) fun old s3 ⟨x3,H3,I3,r3,q3⟩=>?_
 refine cT (he pins s3 σ H3 _ I3 q3) fun v s4 ⟨x4,H4,I4,r4,q4⟩=>?_
 refine cT (hp pins s4 σ H4 x3 x4 old v _ I4 r3 r4 q4) fun new s5 ⟨x5,H5,I5,r5,q5⟩=>?_
 exact cT (hs pins s5 σ H5 x1 x2 x5 ov iv new _ I5 r1 r2 r5 q5) fun _ s6 ⟨H6,I6,q6⟩=>⟨σ,H6,I6,q6⟩
def sE(c:TT)(tb:TS):TS:=fun D σ H=>∃ W:Nat->St->Hp->Prop,(∃ m,W m σ H)/\∀ m σ H,W m σ H->
 c σ H fun b H1=>if b=true then ∃ N:St->Hp->Prop,(∀ σ' H',N σ' H'->∃ m',m'<m/\W m' σ' H')/\tb { D with nx:=N,ct:=N,bk:=D.nx} σ H1 else D.nx σ H1
theorem za{c:Expr}{body:List Stmt}{tc:TT}{tb:TS}(hp:PassesOwn (model X.prog X.w) X.A X.env X.xe)(hc:PT X c tc)(hb:vE X body tb):PS X (.While c body [] pos) (sE tc tb):=by
 intro pins s σ H D I h;obtain⟨W,⟨m0,w0⟩,turn⟩:=h;refine wpAny_While (codeAny_whileLoop (fun n s'=>∃ σ' H',Inv X pins σ' H' s'/\W n σ' H') ?_ m0 ⟨σ,H,I,w0⟩)
 rintro n s1 ⟨σ1,H1,I1,w1⟩;refine wpAny_passesOwn hp (cT (hc pins s1 σ1 H1 _ I1 (turn n σ1 H1 w1)) fun b s2 ⟨H2,I2,q2⟩=>?_)
 cases b with
 | true =>
   obtain⟨N,hN,q2⟩:=q2;rw[if_pos rfl];refine wpAny_passesOwn hp (cT (hb pins s2 σ1 H2 _ I2 q2) fun f s3 q3=>?_)
   cases f with
   | next =>
     obtain⟨σ3,H3,I3,n3⟩:=q3;obtain⟨m',hm,w3⟩:=hN σ3 H3 n3;exact⟨m',hm,σ3,H3,I3,w3⟩
   | cont =>
     obtain⟨σ3,H3,I3,n3⟩:=q3;obtain⟨m',hm,w3⟩:=hN σ3 H3 n3;exact⟨m',hm,σ3,H3,I3,w3⟩
   | brk=>exact q3
   | ret v=>exact q3
 | false =>
   rw[if_neg Bool.false_ne_true];exact wpAny_execs_nil ⟨σ1,H2,I2,q2⟩
end
structure It where
 go:Nat->Hp->Prop
 JA:Nat->Hp->V->Hp->Prop
 stop:Nat->Hp->Prop
def ni(X:Cx)(pins:aQ)(H:Hp)(b:Addr):Prop :=
 H b=none/\b≠X.env.locals/\b∉X.fs/\(b∈X.ex\/X.s₀.heap.objs.size<=b)/\(∀ x c,X.env.cells.lookup x=some c->c≠b)/\∀ p∈X.pn++pins,p.1≠b
theorem Inv.D0{X:Cx}{pins:aQ}{σ:St}{H H' : Hp}{s:Shared}{b:Addr}(I:Inv X pins σ H s)(hb:s.heap.objs.size<=b)(hn:H' b=none):ni X pins H' b:=by
 refine⟨hn,Nat.ne_of_gt (Nat.lt_of_lt_of_le I.lt hb),I.OX hb,.inr (Nat.le_trans I.sz hb),fun x c e z=>?_,fun p hp z=>?_⟩
 ·obtain⟨v,q⟩:=I.cell x c e;exact absurd (Nat.lt_of_lt_of_le q.lt (by rw[z];exact hb)) (Nat.lt_irrefl _)
 ·exact absurd (Nat.lt_of_lt_of_le (Heap.lt_size (I.pin p hp).1) (by rw[z];exact hb)) (Nat.lt_irrefl _)
structure Turn(P:Program)(w:World)(K:bJ)(tg:Expr)(J:It)(fp:List Addr)(it:Addr)(tn:Nat->Heap->Prop):Prop where
 mem:it∈fp
 obj:∀ i h,tn i h->∀ b∈fp,∃ o,h.get? b=some o/\∀ v,o.data≠.cell v
 keep:∀ i h h',tn i h->(∀ b∈fp,∀ o,h.get? b=some o->h'.get? b=some o)->tn i h'
 item:∀(X:Cx),X.prog=P->X.w=w->X.K=K->X.calm=true->∀(i:Nat) (pins:aQ) (s:Shared) (σ:St) (H:Hp) (E:dh),Inv X pins σ H s->(∀ b∈fp,ni X pins H b)->tn i s.heap->J.go i H->
  wpAny (model P w) X.A (pyNext (.ref it)) (fun r s1=>∃ u,r=some u/\
   wpAny (model P w) X.A (letOwnedTupleGo tg (.ref it) u) (fun _ s2=>∃ x H',Inv X pins σ H' s2/\RelV x u/\J.JA i H x H'/\tn (i+1) s2.heap/\∀ b∈fp,H' b=none) E s1) E s
 done:∀(X:Cx),X.prog=P->X.w=w->X.K=K->X.calm=true->∀(i:Nat) (pins:aQ) (s:Shared) (σ:St) (H:Hp) (E:dh),Inv X pins σ H s->(∀ b∈fp,ni X pins H b)->tn i s.heap->J.stop i H->
  wpAny (model P w) X.A (pyNext (.ref it)) (fun r s1=>r=none/\Inv X pins σ H s1) E s
 self:∀(A:Around) (i:Nat) (s:Shared) (Q:dh) (E:dh),tn i s.heap->Q (.ref it) s->wpAny (model P w) A (pyIter (.ref it)) Q E s
abbrev TI:=St->Hp->(It->Hp->Prop)->Prop
def UR(X:Cx)(pins:aQ)(σ:St)(tg:Expr)(R:It->Hp->Prop)(itv:Value)(s2:Shared):Prop :=
 ∃(it:Addr) (fp:List Addr) (tn:Nat->Heap->Prop) (J:It) (H' : Hp),itv = .ref it/\Inv X pins σ H' s2/\Turn X.prog X.w X.K tg J fp it tn/\tn 0 s2.heap/\(∀ b∈fp,ni X pins H' b)/\R J H'
def PI(X:Cx)(tg iter:Expr)(wi:TI):Prop :=
 ∀(pins:aQ) (s:Shared) (σ:St) (H:Hp) (R:It->Hp->Prop),Inv X pins σ H s->wi σ H R->
  wpAny (model X.prog X.w) X.A (eval iter X.env) (fun v s1=>wpAny (model X.prog X.w) X.A (pyIter v) (UR X pins σ tg R) X.xe s1) X.xe s
theorem Lz{M:Model}{A:Around}{E:dh}{s:Shared}{tg:Expr}{it:Addr}{u:Value}{o:Obj}{n:String}{vs:Array Value}{Q:Unit->Shared->Prop}(ho:s.heap.get? it=some o)(hc:o.cls = .type n)(hd:o.data = .fields vs)
 (hn:["enumerate","zip","dict_itemiterator","dict_reverseitemiterator","odict_iterator","itertools.zip_longest","itertools.pairwise"].contains n=false) (hQ:Q () s):wpAny M A (letOwnedTupleGo tg (.ref it) u) Q E s:=by
 unfold letOwnedTupleGo;cases tg<;>first
  | exact wpAny_pure hQ
  | (cases u<;>first
   | exact wpAny_pure hQ
   | (refine wpAny_bind (wpAny_load ho ?_)
      rw[hc,hd];show wpAny M A (if(["enumerate","zip","dict_itemiterator","dict_reverseitemiterator","odict_iterator","itertools.zip_longest","itertools.pairwise"].contains n&&vs[0]? == some (rawInt _))=true then _ else _) Q E s
      rw[if_neg (by intro h;rw[hn,Bool.false_and]at h;cases h)]
      exact wpAny_pure hQ))
def JS(K:bJ)(a:Addr):It :=
 ⟨fun i H=>∃ xs x,aL K H a xs/\xs[i]?=some x,fun i H x H'=>H' = H/\∀ xs,aL K H a xs->xs[i]?=some x,fun i H=>∃ xs,aL K H a xs/\xs.length<=i⟩
def Gu(lo:Int)(n:Nat):It:=⟨fun i _=>i<n,fun i H x H'=>H' = H/\x = .int (lo+i),fun i _=>n<=i⟩
theorem D3{P:Program}{w:World}{K:bJ}{tg:Expr}(a it:Addr):Turn P w K tg (JS K a) [it] it (fun i h=>h.IsListIter it a i) where
 mem:=by simp
 obj:=fun i h st b hb=>by
  have e:b=it:=by simpa using hb
  subst e;obtain⟨o,e,c,d⟩:=st;exact⟨o,e,fun v z=>by rw[d]at z;cases z⟩
 keep:=fun i h h' st k=>st.at fun o e=>k it (by simp) o e
 item:=by
  intro X hP hw hK hc i pins s σ H E I hf st hg;subst hP hw hK;obtain⟨xs,x,hq,hx⟩:=hg;obtain⟨its,rv,p,hz⟩:=I.list hq;obtain⟨u,hu,ru⟩:=rv.get hx;obtain⟨f0,f1,f2,f3,f4,f5⟩:=hf it (by simp)
  refine wpAny_pyNext_list_item st p.isList (x:=u) (by simpa using hu) fun h' st' sb=>?_
  have I1:Inv X pins σ H { s with heap:=h'}:=I.turned (t':=s.toks) (fun b o hb e=>(sb.2 b hb).trans e) f0 f1 f3 f4 f5
  obtain⟨o,e,c,d⟩:=id st';exact⟨u,rfl,Lz (s:={ s with heap:=h'}) e c d (by decide) ⟨x,H,I1,ru,⟨rfl,fun ys hy=>by rw[I.nS hy hq];exact hx⟩,st',fun b hb=>(hf b hb).1⟩⟩
 done:=by
  intro X hP hw hK hc i pins s σ H E I hf st hg;subst hP hw hK;obtain⟨xs,hq,hx⟩:=hg;obtain⟨its,rv,p,hz⟩:=I.list hq;obtain⟨f0,f1,f2,f3,f4,f5⟩:=hf it (by simp)
  have hl:=rv.length;exact wpAny_pyNext_list_end (I.ok.hd hc) st p.isList (by simp;lia) fun h' eb=>⟨rfl,I.turned (t':=s.toks) (fun b o hb e=>eb b o hb e) f0 f1 f3 f4 f5⟩
 self:=fun _ _ _ _ _ st h=>wpAny_pyIter_listiter st h
theorem Bf{P:Program}{w:World}{K:bJ}{tg:Expr}(it:Addr)(lo:Int)(n:Nat):Turn P w K tg (Gu lo n) [it] it (fun i h=>IsRangeIter h it (lo+(i:Nat)*1) ((n:Int)-(i:Nat)) 1) where
 mem:=by simp
 obj:=fun i h st b hb=>by
  have e:b=it:=by simpa using hb
  subst e;exact⟨_,st,fun v z=>by
   have z' : Data.fields _=Data.cell v:=z;cases z'⟩
 keep:=fun i h h' st k=>k it (by simp) _ st
 item:=by
  intro X hP hw hK hc i pins s σ H E I hf st hg;subst hP hw hK;obtain⟨f0,f1,f2,f3,f4,f5⟩:=hf it (by simp)
  have W:=Walks.range (prog:=X.prog) (w:=X.w) (I.ok.hd hc) it lo 1 n;refine W.item i s _ _ hg st fun v h' tk hv st' kk=>?_
  obtain⟨t,rfl⟩:=hv;have I1:Inv X pins σ H { s with heap:=h',toks:=tk}:=I.turned (fun b o hb e=>kk b o (by simpa using hb) e) f0 f1 f3 f4 f5
  refine⟨_,rfl,Lz (s:={ s with heap:=h',toks:=tk}) (n:="range_iterator") st' rfl rfl (by decide) ⟨.int (lo+i),H,I1,⟨t,?_⟩,⟨rfl,rfl⟩,st',fun b hb=>(hf b hb).1⟩⟩
  rw[Int.mul_one]
 done:=by
  intro X hP hw hK hc i pins s σ H E I hf st hg;subst hP hw hK;obtain⟨f0,f1,f2,f3,f4,f5⟩:=hf it (by simp)
  exact wpAny_pyNext_range_end (I.ok.hd hc) st (by have:n<=i:=hg;lia) fun h' eb=>⟨rfl,I.turned (t':=s.toks) (fun b o hb e=>eb b o hb e) f0 f1 f3 f4 f5⟩
 self:=fun _ _ _ _ _ st h=>wpAny_pyIter_rangeiter st h
section
variable {X:Cx}{tg:Expr}
def LA(K:bJ)(tl:TE):TI:=fun σ H R=>tl σ H fun x H1=>∃ a,x = .ref a/\(∃ xs,aL K H1 a xs)/\R (JS K a) H1
theorem JT{l:Expr}{tl:TE}(hl:PE X l tl):PI X tg l (LA X.K tl):=by
 intro pins s σ H R I h;refine cT (hl pins s σ H _ I h) fun v s1 ⟨x,H1,I1,r1,q1⟩=>?_
 obtain⟨a,e,⟨xs,hq⟩,q⟩:=q1;subst e;cases r1;obtain⟨its,rv,p,hz⟩:=I1.list hq;refine wpAny_pyIter_list p.isList ?_;refine⟨s1.heap.objs.size,[s1.heap.objs.size],_,_,H1,rfl,I1.kept (t':=s1.toks) fun b o e=>Heap.get?_push_of_some _ e,D3 a _,⟨_,Heap.get?_push_size _ rfl,rfl,rfl⟩,fun b hb=>?_,q⟩
 have e:b=s1.heap.objs.size:=by simpa using hb
 subst e;exact I1.D0 (Nat.le_refl _) (I1.hok.fresh (Nat.le_refl _))
theorem zb{pins:aQ}{σ:St}{H:Hp}{s:Shared}{R:It->Hp->Prop}{E:dh}{lo hi:Int}{t u v:Tok}{tk:Nat}(I:Inv X pins σ H s)(h1 : -(2^62)<=lo)(h2:lo<2^62)(h3 : -(2^62)<=hi)(h4:hi<2^62)
 (q:R (Gu lo (hi-lo).toNat) H):wpAny (model X.prog X.w) X.A (pyIter (.ref s.heap.objs.size)) (UR X pins σ tg R) E { s with heap:=s.heap.push { cls:=.type "range",data:=.fields #[.int lo t,.int hi u,.int 1 v]},toks:=tk}:=by
 refine wpAny_pyIter_range (IsRange.new ..) (small_one h1 h2 h3 h4) ?_;have I1:Inv X pins σ H { s with heap:=s.heap.push { cls:=.type "range",data:=.fields #[.int lo t,.int hi u,.int 1 v]},toks:=tk}:=I.kept fun b o e=>Heap.get?_push_of_some _ e
 refine⟨(s.heap.push { cls:=.type "range",data:=.fields #[.int lo t,.int hi u,.int 1 v]}).objs.size,[(s.heap.push { cls:=.type "range",data:=.fields #[.int lo t,.int hi u,.int 1 v]}).objs.size],_,_,H,rfl,
  I1.kept (t':=tk) fun b o e=>Heap.get?_push_of_some _ e,Bf _ lo (hi-lo).toNat,?_,fun b hb=>?_,q⟩
 ·have e1:lo+((0:Nat):Int)*1=lo:=by simp
  have e2:(((hi-lo).toNat:Nat):Int)-((0:Nat):Int)=Builtin.Range.rangeSize lo hi 1:=by rw[rangeSize_one];split<;>lia
  show IsRangeIter _ _ (lo+((0:Nat):Int)*1) ((((hi-lo).toNat:Nat):Int)-((0:Nat):Int)) 1;rw[e1,e2];exact Heap.get?_push_size _ rfl
 ·have e:b=(s.heap.push { cls:=.type "range",data:=.fields #[.int lo t,.int hi u,.int 1 v]}).objs.size:=by simpa using hb
  subst e;exact I1.D0 (Nat.le_refl _) (I1.hok.fresh (Nat.le_refl _))
def O9(ta:TA):TI:=fun σ H R=>ta σ H fun vs H1=>∃ j:Int,vs=[.int j]/\-(2^62)<=j/\j<2^62/\R (Gu 0 j.toNat) H1
def Pa(ta:TA):TI:=fun σ H R=>ta σ H fun vs H1=>∃ i j:Int,vs=[.int i,.int j]/\(-(2^62)<=i/\i<2^62/\-(2^62)<=j/\j<2^62)/\R (Gu i (j-i).toNat) H1
theorem bF{a:Expr}{ta:TA}{p pos:Pos}(hg:Gl X "range")(hm:X.mg "range"=none)(ha:PA X [a] ta)(hs:starEach [a] X.env=[(false,eval a X.env)]:=by rfl):PI X tg (.Call (.Name "range" p) [a] [] pos) (O9 ta):=by
 intro pins s σ H R I h;refine Call_ (jr I hg hm boot_range (PyProof.Rows.callWith_type1 (cT (ha pos pins s σ H _ I h) fun us s1 ⟨vs,H1,I1,r1,q1⟩=>?_) hs rfl))
 obtain⟨j,e,q1,q2,q⟩:=q1;subst e;cases r1 with
 | cons r rr =>
   cases rr;obtain⟨t,rfl⟩:=r;exact call_range_1 (zb I1 (by lia) (by lia) q1 q2 (by simpa using q))
theorem D5{a b:Expr}{ta:TA}{p pos:Pos}(hg:Gl X "range")(hm:X.mg "range"=none)(ha:PA X [a,b] ta)(hs:starEach [a,b] X.env=[(false,eval a X.env),(false,eval b X.env)]:=by rfl)(hs2:starEach [b] X.env=[(false,eval b X.env)]:=by rfl):
 PI X tg (.Call (.Name "range" p) [a,b] [] pos) (Pa ta):=by
 intro pins s σ H R I h;refine Call_ (jr I hg hm boot_range (PyProof.Rows.callWith_type1 (cT (ha pos pins s σ H _ I h) fun us s1 ⟨vs,H1,I1,r1,q1⟩=>?_) (by rw[hs,hs2]) (by rw[hs2];rfl)))
 obtain⟨i,j,e,⟨q1,q2,q3,q4⟩,q⟩:=q1;subst e;cases r1 with
 | cons r rr =>
   cases rr with
   | cons r' rr =>
     cases rr;obtain⟨t,rfl⟩:=r;obtain⟨t',rfl⟩:=r';exact call_range_2 (zb I1 q1 q2 q3 q4 q)
def dS(wi:TI)(g:TG)(tb:TS):TS:=fun D σ H=>wi σ H fun J H1=>∃ W:Nat->Nat->St->Hp->Prop,(∃ m,W 0 m σ H1)/\∀ i m σ H,W i m σ H->
 (J.stop i H/\D.nx σ H)\/(J.go i H/\∃ N:St->Hp->Prop,(∀ σ' H',N σ' H'->∃ m',m'<m/\W (i+1) m' σ' H')/\∀ x H',J.JA i H x H'->g x σ H' fun σ2 H2=>tb { D with nx:=N,ct:=N,bk:=D.nx} σ2 H2)
def pB(fp:List Addr)(h:Heap):aQ:=fp.filterMap fun b=>(h.get? b).map fun o=>(b,o)
theorem fT{fp:List Addr}{h:Heap}{b:Addr}{o:Obj}(hb:b∈fp)(e:h.get? b=some o):(b,o)∈pB fp h:=List.mem_filterMap.mpr ⟨b,hb,by rw[e];rfl⟩
theorem D6{fp:List Addr}{h:Heap}{p:Addr×Obj}(hp:p∈pB fp h):p.1∈fp/\h.get? p.1=some p.2:=by
 obtain⟨b,hb,e⟩:=List.mem_filterMap.mp hp;cases q:h.get? b with
 | none=>rw[q]at e;cases e
 | some o =>
   rw[q]at e;have e' : (b,o)=p:=Option.some.inj e;subst e';exact⟨hb,q⟩
theorem Inv.pinned{pins:aQ}{σ:St}{H:Hp}{s:Shared}{fp:List Addr}(I:Inv X pins σ H s)(hf:∀ b∈fp,ni X pins H b)(ho:∀ b∈fp,∃ o,s.heap.get? b=some o/\∀ v,o.data≠.cell v):Inv X (pins++pB fp s.heap) σ H s :=
 I.fC fun p hp=>(List.mem_append.mp hp).elim (fun z=>I.pin p (List.mem_append_right _ z)) fun z=>by
  obtain⟨hb,e⟩:=D6 z;obtain⟨f0,f1,f2,_⟩:=hf p.1 hb;obtain⟨o,e',d⟩:=ho p.1 hb;rw[e]at e';cases e';exact⟨e,f0,f1,f2,d⟩
theorem Inv.iE{pins pl:aQ}{σ:St}{H:Hp}{s:Shared}(I:Inv X (pins++pl) σ H s):Inv X pins σ H s:=I.fC fun p hp=>I.pin p (List.mem_append_right _ (List.mem_append_left _ hp))
theorem eJ{iter:Expr}{body:List Stmt}{wi:TI}{g:TG}{tb:TS}{pos:Pos}(hp:PassesOwn (model X.prog X.w) X.A X.env X.xe)(hc:X.calm=true)(hi:PI X tg iter wi)(hg:PG X tg g)(hb:vE X body tb)
 (hs:∀ x,foldedSetIterable iter X.env x=pure x:=by intro _;rfl):PS X (.For tg iter body [] pos) (dS wi g tb):=by
 intro pins s σ H D I h;refine wpAny_For (cT (hi pins s σ H _ I h) fun v s1 h1=>cT h1 fun itv s2 h2=>?_) hs
 obtain⟨it,fp,tn,J,H2,e,I2,T,st2,f2,W,⟨m0,w0⟩,turn⟩:=h2;subst e;have Bg:∀{H' : Hp},(∀ b∈fp,H' b=none)->∀ b∈fp,ni X pins H' b:=fun hn b hb=>⟨hn b hb,(f2 b hb).2⟩
 refine codeAny_forLoop_any (fun n s'=>∃ i σ' H',Inv X pins σ' H' s'/\tn i s'.heap/\(∀ b∈fp,H' b=none)/\W i n σ' H') ?_ m0 ⟨0,σ,H2,I2,st2,fun b hb=>(f2 b hb).1,w0⟩
 rintro n s3 ⟨i,σ3,H3,I3,st3,LC,w3⟩;rcases turn i n σ3 H3 w3 with⟨stop,qn⟩|⟨go,N,hN,step⟩
 ·refine wpAny_passesOwn hp (cT (T.done X rfl rfl rfl hc i pins s3 σ3 H3 X.xe I3 (Bg LC) st3 stop) fun r s4 ⟨hr,I4⟩=>?_)
  subst hr;exact wpAny_execs_nil ⟨σ3,H3,I4,qn⟩
 ·refine wpAny_passesOwn hp (cT (T.item X rfl rfl rfl hc i pins s3 σ3 H3 X.xe I3 (Bg LC) st3 go) fun r s4 ⟨u,hr,h4⟩=>?_)
  subst hr;refine wpAny_passesOwn hp (cT h4 fun _ s5 ⟨x,H5,I5,r5,y5,Gv,Pb⟩=>?_)
  have Pc:=I5.pinned (Bg Pb) (T.obj _ _ Gv);refine wpAny_passesOwn hp (cT (hg _ s5 σ3 H5 x u _ Pc r5 (step x H5 y5)) fun _ s6 ⟨σ6,H6,I6,q6⟩=>?_)
  refine wpAny_passesOwn hp (cT (hb _ s6 σ6 H6 _ I6 q6) fun f s7 q7=>?_)
  have again:∀{σ7:St} {H7:Hp},Inv X (pins++pB fp s5.heap) σ7 H7 s7->N σ7 H7->∃ m,m<n/\∃ i σ' H',Inv X pins σ' H' s7/\tn i s7.heap/\(∀ b∈fp,H' b=none)/\W i m σ' H':=fun {σ7 H7} I7 n7=>by
   obtain⟨m',hm,w7⟩:=hN σ7 H7 n7;refine⟨m',hm,i+1,σ7,H7,I7.iE,T.keep _ _ _ Gv fun b hb o e=>(I7.pin (b,o) (List.mem_append_right _ (List.mem_append_right _ (fT hb e)))).1,fun b hb=>?_,w7⟩
   obtain⟨o,e,d⟩:=T.obj _ _ Gv b hb;exact(I7.pin (b,o) (List.mem_append_right _ (List.mem_append_right _ (fT hb e)))).2.1
  cases f with
  | next=>obtain⟨σ7,H7,I7,n7⟩:=q7;exact again I7 n7
  | cont=>obtain⟨σ7,H7,I7,n7⟩:=q7;exact again I7 n7
  | brk=>obtain⟨σ7,H7,I7,q7⟩:=q7;exact⟨σ7,H7,I7.iE,q7⟩
  | ret v=>obtain⟨x7,σ7,H7,I7,r7,q7⟩:=q7;exact⟨x7,σ7,H7,I7.iE,r7,q7⟩
end
theorem sF{K:bJ}{a:Addr}{xs:List V}{g:TG}{tb:TS}{D:Ends}{σ:St}{H:Hp}(Pv:Nat->St->Hp->Prop)(h0:Pv 0 σ H)(hl:∀ i σ H,i<=xs.length->Pv i σ H->aL K H a xs)
 (hs:∀ i x σ H,xs[i]?=some x->Pv i σ H->g x σ H fun σ2 H2=>tb { D with nx:=Pv (i+1),ct:=Pv (i+1),bk:=D.nx} σ2 H2) (hd:∀ σ H,Pv xs.length σ H->D.nx σ H) :
 ∃ W:Nat->Nat->St->Hp->Prop,(∃ m,W 0 m σ H)/\∀ i m σ H,W i m σ H->
   ((JS K a).stop i H/\D.nx σ H)\/((JS K a).go i H/\∃ N:St->Hp->Prop,(∀ σ' H',N σ' H'->∃ m',m'<m/\W (i+1) m' σ' H')/\∀ x H',(JS K a).JA i H x H'->g x σ H' fun σ2 H2=>tb { D with nx:=N,ct:=N,bk:=D.nx} σ2 H2):=by
 refine⟨fun i m σ H=>m=xs.length-i/\i<=xs.length/\Pv i σ H,⟨xs.length,by simp,Nat.zero_le _,h0⟩,?_⟩
 rintro i m σ H ⟨rfl,hi,p⟩;have q:=hl i σ H hi p
 by_cases hlt:i<xs.length
 ·refine .inr ⟨⟨xs,xs[i],q,by simp[hlt]⟩,Pv (i+1),fun σ' H' p'=>⟨xs.length-(i+1),by lia,rfl,hlt,p'⟩,fun x H' y=>?_⟩
  obtain⟨e,y⟩:=y;subst e;exact hs i x σ _ (y xs q) p
 ·have e:i=xs.length:=by lia
  subst e;exact .inl ⟨⟨xs,q,Nat.le_refl _⟩,hd σ H p⟩
theorem D7{lo:Int}{n:Nat}{g:TG}{tb:TS}{D:Ends}{σ:St}{H:Hp}(Pv:Nat->St->Hp->Prop)(h0:Pv 0 σ H)
 (hs:∀ i σ H,i<n->Pv i σ H->g (.int (lo+i)) σ H fun σ2 H2=>tb { D with nx:=Pv (i+1),ct:=Pv (i+1),bk:=D.nx} σ2 H2) (hd:∀ σ H,Pv n σ H->D.nx σ H) :
 ∃ W:Nat->Nat->St->Hp->Prop,(∃ m,W 0 m σ H)/\∀ i m σ H,W i m σ H->
   ((Gu lo n).stop i H/\D.nx σ H)\/((Gu lo n).go i H/\∃ N:St->Hp->Prop,(∀ σ' H',N σ' H'->∃ m',m'<m/\W (i+1) m' σ' H')/\∀ x H',(Gu lo n).JA i H x H'->g x σ H' fun σ2 H2=>tb { D with nx:=N,ct:=N,bk:=D.nx} σ2 H2):=by
 refine⟨fun i m σ H=>m=n-i/\i<=n/\Pv i σ H,⟨n,by simp,Nat.zero_le _,h0⟩,?_⟩
 rintro i m σ H ⟨rfl,hi,p⟩
 by_cases hlt:i<n
 ·refine .inr ⟨hlt,Pv (i+1),fun σ' H' p'=>⟨n-(i+1),by lia,rfl,hlt,p'⟩,fun x H' y=>?_⟩
  obtain⟨e,y⟩:=y;subst e y;exact hs i σ _ hlt p
 ·have e:i=n:=by lia
  subst e;exact .inl ⟨Nat.le_refl _,hd σ H p⟩
abbrev R2:=V->V->Hp->VK->Prop
def jT(X:Cx)(f:Value->Value->Sem Value)(r:R2):Prop :=
 ∀(pins:aQ) (s:Shared) (σ:St) (H:Hp) (x y:V) (v u:Value) (Q:VK),Inv X pins σ H s->RelV x v->RelV y u->r x y H Q->
  wpAny (model X.prog X.w) X.A (f v u) (EP X pins σ Q) X.xe s
def Sw(X:Cx)(f:Value->Sem Value)(r:V->Hp->VK->Prop):Prop :=
 ∀(pins:aQ) (s:Shared) (σ:St) (H:Hp) (x:V) (v:Value) (Q:VK),Inv X pins σ H s->RelV x v->r x H Q->
  wpAny (model X.prog X.w) X.A (f v) (EP X pins σ Q) X.xe s
def fg(X:Cx)(f:Value)(r:List V->Hp->VK->Prop):Prop :=
 ∀(pins:aQ) (s:Shared) (σ:St) (H:Hp) (xs:List V) (us:List Value) (Q:VK),Inv X pins σ H s->Vals xs us->r xs H Q->
  wpAny (model X.prog X.w) X.A (call f us) (EP X pins σ Q) X.xe s
def Pd(r:R2)(ta tb:TE):TE:=fun σ H Q=>ta σ H fun x H1=>tb σ H1 fun y H2=>r x y H2 Q
def Xe(r:V->Hp->VK->Prop)(ta:TE):TE:=fun σ H Q=>ta σ H fun x H1=>r x H1 Q
def rI(C:Int->Int->Prop)(g:Int->Int->V):R2:=fun x y H Q=>∃ i j,x = .int i/\y = .int j/\C i j/\Q (g i j) H
def D8(g:Int->Int->V):R2:=fun x y H Q=>∃ i j,x = .int i/\y = .int j/\Q (g i j) H
def rU(g:Int->V):V->Hp->VK->Prop:=fun x H Q=>∃ i,x = .int i/\Q (g i) H
section
variable {X:Cx}{a b c:Expr}{ta tb tc:TE}{pos:Pos}
theorem Mw(ha:PE X a ta)(hb:PE X b tb){pins:aQ}{s:Shared}{σ:St}{H:Hp}{R:V->V->Hp->Prop}(I:Inv X pins σ H s)
 (h:ta σ H fun x H1=>tb σ H1 fun y H2=>R x y H2) {Q:dh} {f:Value->Value->Sem Value}
 (hf:∀ v u s2 x y H2,Inv X pins σ H2 s2->RelV x v->RelV y u->R x y H2->wpAny (model X.prog X.w) X.A (f v u) Q X.xe s2) :
 wpAny (model X.prog X.w) X.A (eval a X.env) (fun v s₁=>wpAny (model X.prog X.w) X.A (eval b X.env) (fun u s₂=>wpAny (model X.prog X.w) X.A (f v u) Q X.xe s₂) X.xe s₁) X.xe s:=by
 refine cT (ha pins s σ H _ I h) fun v s1 ⟨x,H1,I1,r1,q1⟩=>?_
 refine cT (hb pins s1 σ H1 _ I1 q1) fun u s2 ⟨y,H2,I2,r2,q2⟩=>?_
 exact hf v u s2 x y H2 I2 r1 r2 q2
theorem aK{op:Operator}{r:R2}(ho:jT X (binaryOp op) r)(ha:PE X a ta)(hb:PE X b tb):PE X (.BinOp a op b pos) (Pd r ta tb):=by
 intro pins s σ H Q I h;exact wpAny_BinOp (Mw ha hb I h fun v u s2 x y H2 I2 rx ry q=>ho pins s2 σ H2 x y v u Q I2 rx ry q)
theorem Pe{op:UnaryOp}{r:V->Hp->VK->Prop}(ho:Sw X (unaryOp op) r)(ha:PE X a ta):PE X (.UnaryOp op a pos) (Xe r ta):=by
 intro pins s σ H Q I h;exact UnaryOp_ (cT (ha pins s σ H _ I h) fun v s1 ⟨x,H1,I1,r1,q1⟩=>ho pins s1 σ H1 x v Q I1 r1 q1)
theorem Oi{f:Value->Value->Sem Value}{C:Int->Int->Prop}{g:Int->Int->Int}
 (rule:∀(i j:Int) (t u:Tok) (s:Shared) (Q:dh) (E:dh),C i j->Q (.int (g i j) s.toks) { s with toks:=s.toks+1}->wpAny (model X.prog X.w) X.A (f (.int i t) (.int j u)) Q E s) :
 jT X f (rI C fun i j=>.int (g i j)):=by
 intro pins s σ H x y v u Q I rx ry h;obtain⟨i,j,rfl,rfl,hc,q⟩:=h;obtain⟨t,rfl⟩:=rx;obtain⟨t',rfl⟩:=ry;exact rule i j t t' s _ _ hc ⟨.int (g i j),H,I.tok _,⟨_,rfl⟩,q⟩
theorem Bh{f:Value->Value->Sem Value}{g:Int->Int->Int}
 (rule:∀(i j:Int) (t u:Tok) (s:Shared) (Q:dh) (E:dh),Q (.int (g i j) s.toks) { s with toks:=s.toks+1}->wpAny (model X.prog X.w) X.A (f (.int i t) (.int j u)) Q E s) :
 jT X f (D8 fun i j=>.int (g i j)):=by
 intro pins s σ H x y v u Q I rx ry h;obtain⟨i,j,rfl,rfl,q⟩:=h;obtain⟨t,rfl⟩:=rx;obtain⟨t',rfl⟩:=ry;exact rule i j t t' s _ _ ⟨.int (g i j),H,I.tok _,⟨_,rfl⟩,q⟩
theorem JU{f:Value->Value->Sem Value}{g:Int->Int->Bool}
 (rule:∀(i j:Int) (t u:Tok) (s:Shared) (Q:dh) (E:dh),Q (.bool (g i j)) s->wpAny (model X.prog X.w) X.A (f (.int i t) (.int j u)) Q E s) :
 jT X f (D8 fun i j=>.bl (g i j)):=by
 intro pins s σ H x y v u Q I rx ry h;obtain⟨i,j,rfl,rfl,q⟩:=h;obtain⟨t,rfl⟩:=rx;obtain⟨t',rfl⟩:=ry;exact rule i j t t' s _ _ ⟨.bl (g i j),H,I,rfl,q⟩
def Sx(i j:Int):Prop:=0<j/\j<1073741824
def Pf(i j:Int):Prop:=0<=j/\j<=1000000/\i.natAbs<2^64
def Mx(i j:Int):Prop:=(-(2^64)<i/\i<2^64)\/(-(2^64)<j/\j<2^64)
theorem Mx.ok{i j:Int}(h:Mx i j):IntMulOk i j:=by
 rcases h with⟨h1,h2⟩|⟨h1,h2⟩
 ·exact .of_left (intBits_le_64 h1 h2)
 ·exact .of_right (intBits_le_64 h1 h2)
theorem Bj(k:Nat):(0:Int)<=2^k:=by
 rw[two_pow_cast];exact Int.natCast_nonneg _
theorem eK:jT X (binaryOp .Add) (D8 fun i j=>.int (i+j)):=Bh fun _ _ _ _ _ _ _ q=>add_int q
theorem pC:jT X (binaryOp .Sub) (D8 fun i j=>.int (i-j)):=Bh fun _ _ _ _ _ _ _ q=>sub_int q
theorem Bk:jT X (binaryOp .Mult) (rI Mx fun i j=>.int (i*j)):=Oi fun _ _ _ _ _ _ _ hc q=>mul_int q hc.ok
theorem nU:jT X (binaryOp .FloorDiv) (rI Sx fun i j=>.int (i/j)):=Oi fun i j _ _ _ _ _ hc q=>by
 have h1:(0:Int)<j:=hc.1;have h2:j<1073741824:=hc.2;exact floordiv_int (by lia) (by rw[Int.fdiv_eq_ediv_of_nonneg i (by lia)];exact q) (.inl (PyProof.noPylong_small (by lia)))
theorem dB:jT X (binaryOp .Mod) (rI (fun _ j=>0<j) fun i j=>.int (i%j)):=Oi fun i j _ _ _ _ _ hc q=>by
 have h1:(0:Int)<j:=hc;exact mod_int' (by lia) (by rw[Int.fmod_eq_emod_of_nonneg i (by lia)];exact q)
theorem My:jT X (binaryOp .Pow) (rI Pf fun i j=>.int (i^j.toNat)):=Oi fun _ _ _ _ _ _ _ hc q=>pow_int_small hc.1 hc.2.1 hc.2.2 q
theorem kZ:jT X (binaryOp .LShift) (rI Pf fun i j=>.int (i*2^j.toNat)):=Oi fun _ _ _ _ _ _ _ hc q=>lshift_int_small hc.1 hc.2.1 hc.2.2 q
theorem xn:jT X (binaryOp .RShift) (rI (fun _ j=>0<=j) fun i j=>.int (i/2^j.toNat)):=Oi fun i j _ _ _ _ _ hc q =>
 rshift_int hc (by rw[Int.fdiv_eq_ediv_of_nonneg i (Bj _)];exact q)
theorem Gw:jT X (binaryOp .BitAnd) (D8 fun i j=>.int (Builtin.bitAnd i j)):=Bh fun _ _ _ _ _ _ _ q=>and_int q
theorem fb:jT X (binaryOp .BitXor) (D8 fun i j=>.int (Builtin.bitXor i j)):=Bh fun _ _ _ _ _ _ _ q=>xor_int q
theorem CV:jT X (inplaceOp .Add) (D8 fun i j=>.int (i+j)):=Bh fun _ _ _ _ _ _ _ q=>iadd_int q
theorem Gx:jT X (inplaceOp .BitOr) (D8 fun i j=>.int (Builtin.bitOr i j)):=Bh fun _ _ _ _ _ _ _ q=>ior_int q
theorem CW:jT X (inplaceOp .BitXor) (D8 fun i j=>.int (Builtin.bitXor i j)):=Bh fun _ _ _ _ _ _ _ q=>ixor_int q
theorem Xf{f:Value->Sem Value}{g:Int->Int}
 (rule:∀(i:Int) (t:Tok) (s:Shared) (Q:dh) (E:dh),Q (.int (g i) s.toks) { s with toks:=s.toks+1}->wpAny (model X.prog X.w) X.A (f (.int i t)) Q E s) :
 Sw X f (rU fun i=>.int (g i)):=by
 intro pins s σ H x v Q I rx h;obtain⟨i,rfl,q⟩:=h;obtain⟨t,rfl⟩:=rx;exact rule i t s _ _ ⟨.int (g i),H,I.tok _,⟨_,rfl⟩,q⟩
theorem Mz:Sw X (unaryOp .USub) (rU fun i=>.int (-i)):=Xf fun _ _ _ _ _ q=>neg_int q
end
def Pg:V->V->Bool
 | .dR,.dR=>true | .dR,.int _=>true | .int _,.dR=>true | .dR,.bl _=>true | .bl _,.dR=>true | .dR,.str _=>true | .str _,.dR=>true
 | .int _,.int _=>true | .bl _,.bl _=>true | .str _,.str _=>true | .Gj _,.Gj _=>true
 | .int _,.str _=>true | .str _,.int _=>true | .bl _,.str _=>true | .str _,.bl _=>true
 | _,_=>false
def Xg:R2:=fun x y H Q=>Pg x y=true/\Q (.bl (decide (x=y))) H
def Xh:R2:=fun x y H Q=>Pg x y=true/\Q (.bl (!decide (x=y))) H
theorem CY{i j:Int}:decide (V.int i=V.int j)=(i==j):=by
 rw[Bool.eq_iff_iff];simp
theorem Gy{i j:Bool}:decide (V.bl i=V.bl j)=(i==j):=by
 rw[Bool.eq_iff_iff];simp
theorem CZ{i j:Str}:decide (V.str i=V.str j)=(i==j):=by
 rw[Bool.eq_iff_iff];simp
theorem C1{i j:Array UInt8}:decide (V.Gj i=V.Gj j)=(i.toList==j.toList):=by
 rw[Bool.eq_iff_iff];cases i;cases j;simp
section
variable {X:Cx}{a b c:Expr}{ta tb tc:TE}{pos:Pos}
theorem bx{pins:aQ}{σ:St}{H:Hp}{s:Shared}{Q:VK}{k k' : Bool}(I:Inv X pins σ H s)(q:Q (.bl k) H)(e:k=k'):EP X pins σ Q (.bool k') s:=by
 subst e;exact⟨.bl k,H,I,rfl,q⟩
theorem eI:jT X (compareOp .Eq) Xg:=by
 intro pins s σ H x y v u Q I rx ry h;obtain⟨hs,q⟩:=h;cases x with
 | dR =>
   cases rx;cases y with
   | dR=>cases ry;exact PySem.EqNone.eq_none_none (bx I q (by simp))
   | bl j=>cases ry;exact PySem.EqNone.eq_none_bool (bx I q (by simp))
   | int j=>obtain⟨t',rfl⟩:=ry;exact PySem.EqNone.eq_none_int (bx I q (by simp))
   | str j=>obtain⟨t',rfl⟩:=ry;exact PySem.EqNone.eq_none_str (bx I q (by simp))
   | _=>exact absurd (show false=true from hs) Bool.false_ne_true
 | bl i =>
   cases rx;cases y with
   | dR=>cases ry;exact PySem.EqNone.eq_bool_none (bx I q (by simp))
   | bl j=>cases ry;exact eq_bool (bx I q Gy)
   | str j=>obtain⟨t',rfl⟩:=ry;exact PySem.EqMixed.eq_bool_str (bx I q (by simp))
   | _=>exact absurd (show false=true from hs) Bool.false_ne_true
 | int i =>
   obtain⟨t,rfl⟩:=rx;cases y with
   | dR=>cases ry;exact PySem.EqNone.eq_int_none (bx I q (by simp))
   | int j=>obtain⟨t',rfl⟩:=ry;exact eq_int (bx I q CY)
   | str j=>obtain⟨t',rfl⟩:=ry;exact PySem.EqMixed.eq_int_str (bx I q (by simp))
   | _=>exact absurd (show false=true from hs) Bool.false_ne_true
 | str i =>
   obtain⟨t,rfl⟩:=rx;cases y with
   | dR=>cases ry;exact PySem.EqNone.eq_str_none (bx I q (by simp))
   | bl j=>cases ry;exact PySem.EqMixed.eq_str_bool (bx I q (by simp))
   | int j=>obtain⟨t',rfl⟩:=ry;exact PySem.EqMixed.eq_str_int (bx I q (by simp))
   | str j=>obtain⟨t',rfl⟩:=ry;exact eq_str (bx I q CZ)
   | _=>exact absurd (show false=true from hs) Bool.false_ne_true
 | Gj i =>
   obtain⟨t,rfl⟩:=rx;cases y with
   | Gj j=>obtain⟨t',rfl⟩:=ry;exact PySem.W.eq_bytes (bx I q C1)
   | _=>exact absurd (show false=true from hs) Bool.false_ne_true
 | _=>cases y<;>exact absurd (show false=true from hs) Bool.false_ne_true
theorem C3:jT X (compareOp .NotEq) Xh:=by
 intro pins s σ H x y v u Q I rx ry h;obtain⟨hs,q⟩:=h;cases x with
 | dR =>
   cases rx;cases y with
   | dR=>cases ry;exact PySem.EqNone.ne_none_none (bx I q (by simp))
   | bl j=>cases ry;exact PySem.EqNone.ne_none_bool (bx I q (by simp))
   | int j=>obtain⟨t',rfl⟩:=ry;exact PySem.EqNone.ne_none_int (bx I q (by simp))
   | str j=>obtain⟨t',rfl⟩:=ry;exact PySem.EqNone.ne_none_str (bx I q (by simp))
   | _=>exact absurd (show false=true from hs) Bool.false_ne_true
 | bl i =>
   cases rx;cases y with
   | dR=>cases ry;exact PySem.EqNone.ne_bool_none (bx I q (by simp))
   | bl j=>cases ry;exact ne_bool (bx I q (congrArg not Gy))
   | str j=>obtain⟨t',rfl⟩:=ry;exact PySem.EqMixed.ne_bool_str (bx I q (by simp))
   | _=>exact absurd (show false=true from hs) Bool.false_ne_true
 | int i =>
   obtain⟨t,rfl⟩:=rx;cases y with
   | dR=>cases ry;exact PySem.EqNone.ne_int_none (bx I q (by simp))
   | int j=>obtain⟨t',rfl⟩:=ry;exact ne_int (bx I q (congrArg not CY))
   | str j=>obtain⟨t',rfl⟩:=ry;exact PySem.EqMixed.ne_int_str (bx I q (by simp))
   | _=>exact absurd (show false=true from hs) Bool.false_ne_true
 | str i =>
   obtain⟨t,rfl⟩:=rx;cases y with
   | dR=>cases ry;exact PySem.EqNone.ne_str_none (bx I q (by simp))
   | bl j=>cases ry;exact PySem.EqMixed.ne_str_bool (bx I q (by simp))
   | int j=>obtain⟨t',rfl⟩:=ry;exact PySem.EqMixed.ne_str_int (bx I q (by simp))
   | str j=>obtain⟨t',rfl⟩:=ry;exact ne_str (bx I q (congrArg not CZ))
   | _=>exact absurd (show false=true from hs) Bool.false_ne_true
 | Gj i =>
   obtain⟨t,rfl⟩:=rx;cases y with
   | Gj j=>obtain⟨t',rfl⟩:=ry;exact PySem.W.ne_bytes (bx I q (congrArg not C1))
   | _=>exact absurd (show false=true from hs) Bool.false_ne_true
 | _=>cases y<;>exact absurd (show false=true from hs) Bool.false_ne_true
theorem C4:jT X (compareOp .Lt) (D8 fun i j=>.bl (decide (i<j))):=JU fun _ _ _ _ _ _ _ q=>lt_int q
theorem Gz:jT X (compareOp .LtE) (D8 fun i j=>.bl (decide (i<=j))):=JU fun _ _ _ _ _ _ _ q=>le_int q
theorem qV:jT X (compareOp .Gt) (D8 fun i j=>.bl (decide (j<i))):=JU fun _ _ _ _ _ _ _ q=>gt_int q
theorem GA:jT X (compareOp .GtE) (D8 fun i j=>.bl (decide (j<=i))):=JU fun _ _ _ _ _ _ _ q=>ge_int q
theorem GB:jT X (compareOp .Is) (fun x y H Q=>y = .dR/\Q (.bl (decide (x = .dR))) H):=by
 intro pins s σ H x y v u Q I rx ry h;obtain⟨rfl,q⟩:=h;cases ry;refine is_none_gen (bx I q ?_);cases x<;>first
  | (cases rx;rfl)
  | (obtain⟨t,rfl⟩:=rx;rfl)
theorem JV:jT X (compareOp .IsNot) (fun x y H Q=>y = .dR/\Q (.bl (!decide (x = .dR))) H):=by
 intro pins s σ H x y v u Q I rx ry h;obtain⟨rfl,q⟩:=h;cases ry;refine isnot_none_gen (bx I q ?_);cases x<;>first
  | (cases rx;rfl)
  | (obtain⟨t,rfl⟩:=rx;rfl)
theorem aN(b:Expr){op:CmpOp}(h:op≠.In:=by decide)(h2:op≠.NotIn:=by decide):behindInMarks op b=false:=by
 have e1:(op==CmpOp.In)=false:=by cases op<;>first | rfl | exact absurd rfl h
 have e2:(op==CmpOp.NotIn)=false:=by cases op<;>first | rfl | exact absurd rfl h2
 cases b<;>simp[behindInMarks,e1,e2]
theorem cD{op:CmpOp}{r:R2}(ho:jT X (compareOp op) r)(ha:PE X a ta)(hb:PE X b tb)(hm:behindInMarks op b=false):PE X (.Compare a [op] [b] pos) (Pd r ta tb):=by
 intro pins s σ H Q I h;exact wpAny_Compare1 (Mw ha hb I h fun v u s2 x y H2 I2 rx ry q=>ho pins s2 σ H2 x y v u Q I2 rx ry q) hm
def Ph(t:TE):TT:=fun σ H Q=>t σ H fun x H'=>∃ k,x = .bl k/\Q k H'
theorem aO{op:CmpOp}{r:R2}(ho:jT X (compareOp op) r)(ha:PE X a ta)(hb:PE X b tb)(hm:behindInMarks op b=false):PT X (.Compare a [op] [b] pos) (Ph (Pd r ta tb)):=by
 intro pins s σ H Q I h;refine wpAny_isTrue_Compare1 (cT (ha pins s σ H _ I h) fun v s1 ⟨x,H1,I1,r1,q1⟩=>cT (hb pins s1 σ H1 _ I1 q1) fun u s2 ⟨y,H2,I2,r2,q2⟩ =>
  cT (ho pins s2 σ H2 x y v u _ I2 r1 r2 q2) fun c s3 ⟨z,H3,I3,r3,k,e,q3⟩=>?_) hm
 subst e;cases r3;exact wpAny_truthy_bool ⟨H3,I3,q3⟩
theorem sG:(sizeLine:Nat)<2^63:=by rw[sizeLine_eq];decide
theorem vals1{x:V}{us:List Value}(r:Vals [x] us):∃ u,us=[u]/\RelV x u:=by
 cases r with
 | cons r1 r2=>cases r2;exact⟨_,rfl,r1⟩
theorem vals2{x y:V}{us:List Value}(r:Vals [x,y] us):∃ u w',us=[u,w']/\RelV x u/\RelV y w':=by
 cases r with
 | cons r1 r2 =>
   cases r2 with
   | cons r3 r4=>cases r4;exact⟨_,_,rfl,r1,r3⟩
theorem vG(hc:X.calm=true):fg X (.builtin "max") (fun xs H Q=>∃ i j,xs=[.int i,.int j]/\Q (.int (if j > i then j else i)) H):=by
 intro pins s σ H xs us Q I r h;obtain⟨i,j,rfl,q⟩:=h;obtain⟨u,w',rfl,⟨t,rfl⟩,⟨t',rfl⟩⟩:=vals2 r;refine max_two_ints (I.ok.hd hc) fun h' tk k=>⟨_,H,I.kept k,?_,q⟩
 by_cases hj:j > i
 ·rw[if_pos hj,if_pos hj];exact⟨_,rfl⟩
 ·rw[if_neg hj,if_neg hj];exact⟨_,rfl⟩
theorem vH(hc:X.calm=true):fg X (.builtin "min") (fun xs H Q=>∃ i j,xs=[.int i,.int j]/\Q (.int (if j<i then j else i)) H):=by
 intro pins s σ H xs us Q I r h;obtain⟨i,j,rfl,q⟩:=h;obtain⟨u,w',rfl,⟨t,rfl⟩,⟨t',rfl⟩⟩:=vals2 r;refine min_two_ints (I.ok.hd hc) fun h' tk k=>⟨_,H,I.kept k,?_,q⟩
 by_cases hj:j<i
 ·rw[if_pos hj,if_pos hj];exact⟨_,rfl⟩
 ·rw[if_neg hj,if_neg hj];exact⟨_,rfl⟩
theorem pD:fg X (.type "int") (fun xs H Q=>(∃ i,xs=[.int i]/\Q (.int i) H)\/∃ k,xs=[.bl k]/\Q (.int (if k then 1 else 0)) H):=by
 intro pins s σ H xs us Q I r h;rcases h with⟨i,rfl,q⟩|⟨k,rfl,q⟩
 ·obtain⟨u,rfl,t,rfl⟩:=vals1 r;exact call_int_int ⟨.int i,H,I,⟨_,rfl⟩,q⟩
 ·obtain⟨u,rfl,r1⟩:=vals1 r;cases r1;exact call_int_bool ⟨.int (if k then 1 else 0),H,I.tok _,⟨_,rfl⟩,q⟩
end
structure MA(h:Heap)(x dx C:Addr)(mA:kU):Prop where
 obj:h.get? x=some (PySem.W.instObj C dx)
 ns:h.Ns1 dx mA
 ne:dx≠x
theorem D9{h:Heap}{dx:Addr}{mA:kU}(n:h.Ns1 dx mA):∃ od,h.get? dx=some od/\∀ name,PySem.W.lookIn name od=some (mA name):=by
 obtain⟨o,es,ep,ho,hd,hk,_,hm⟩:=n;refine⟨o,ho,fun name=>?_⟩
 have e:=hm name;unfold nsFind findBy at e;rw[<-Array.find?_toList]at e;unfold PySem.W.lookIn;rw[hd];dsimp only
 split
 ·rename_i y q
  rw[q]at e;exact congrArg some e
 ·rename_i q
  rw[q]at e;have a:es.toList.any (·.refKey)=false:=by
   rw[List.any_eq_false];intro y hy;obtain⟨z,t,hkey⟩:=hk y (Array.mem_toList_iff.mp hy);simp[DictEntry.refKey,hkey]
  have a' : ¬ es.toList.any (·.refKey)=true:=by rw[a];exact Bool.false_ne_true
  rw[if_neg a'];exact congrArg some e
theorem MA.look{h:Heap}{x dx C:Addr}{mA:kU}(I:MA h x dx C mA):∃ od,PySem.W.InstAt h x (PySem.W.instObj C dx) C (some od)/\∀ name,PySem.W.lookIn name od=some (mA name) :=
 let⟨od,ho,hl⟩:=D9 I.ns
 ⟨od,⟨I.obj,rfl,rfl,ho⟩,hl⟩
theorem nN.some_of{v:V}{o:Option Value}(r:nN (some v) o):∃ u,o=some u/\RelV v u:=by
 cases o with
 | none=>exact(show False from r).elim
 | some u=>exact⟨u,rfl,r⟩
section
variable {P:Program}{w:World}{H H' : Hp}{h h' : Heap}{a C dx:Addr}{fs fs' : List (Str×V)}
theorem JW(hok:kW P w H h)(e:H a=some (.ins C dx fs)):∃ mA,MA h a dx C mA/\(∀ f,nN (fs.lookup f) (mA f))/\PySem.Within mA (fs.map (·.1))/\fs.length<=1000/\H dx=some (.own a):=by
 obtain⟨d,z,ne,ob,mA,n,r,q⟩:=(show bf P w H h a (.ins C dx fs) from hok a _ e)
 exact⟨mA,⟨ob,n,ne⟩,r,q,z,d⟩
end
structure Sy(K:bJ)(C:Addr):Prop where
 pg:PySem.W.plainGet K C Str.empty=true
 hd:PySem.W.hasDictIn K C=true
 po:PySem.W.plainOver K C=true
 sa:PySem.W.findIn K (.ref C) "__setattr__"=some (some (.builtin "object.__setattr__"))
theorem Sy.get{K:bJ}{C:Addr}(c:Sy K C)(f:Str):PySem.W.plainGet K C f=true:=c.pg
section
variable {X:Cx}{pins:aQ}{σ:St}{H:Hp}{s:Shared}{A:Around}{E:dh}{Q:dh}{c:Value}{b:Bool}
inductive pF(K:bJ)(H:Hp):V->Value->Prop where
 | dR:pF K H .dR (.type "NoneType")
 | bl (x:Bool):pF K H (.bl x) (.type "bool")
 | int (i:Int):pF K H (.int i) (.type "int")
 | str (x:Str):pF K H (.str x) (.type "str")
 | Oe (x:UInt64):pF K H (.Oe x) (.type "float")
 | lst {a:Addr} {xs:List V} (e:H a=some (.lst xs)):pF K H (.ref a) (.type "list")
 | jR {a:Addr} {o:Obj} {xs:List V} (e:H a=some (.jR o (.lst xs))):pF K H (.ref a) (.type "list")
 | tup {a:Addr} {xs:List V} (e:H a=some (.tup xs)):pF K H (.ref a) (.type "tuple")
 | dK {a:Addr} {kvs:List (Key×V)} (e:H a=some (.dK kvs)):pF K H (.ref a) (.type "dict")
 | dT {a:Addr} {kvs:List (List Key×V)} (e:H a=some (.dT kvs)):pF K H (.ref a) (.type "dict")
 | ins {a C dx:Addr} {fs:List (Str×V)} (e:H a=some (.ins C dx fs)) (cl:Sy K C) (ha:PySem.W.findIn K (.ref C) "__class__"=some (some (.builtin "object.__class__")))
  (hn:PySem.W.specialIn K (.builtin "object.__class__") "__get__"=some (some (.builtin "getset_descriptor.__get__"))) (htk:PySem.W.takesIn K (.builtin "object.__class__")=some true)
  (hm:PySem.W.mroIn K C (.type "object")=some true):pF K H (.ref a) (.ref C)
theorem Ea{x:V}{u t:Value}(I:Inv X pins σ H s)(rx:RelV x u)(ty:pF X.K H x t)(e:PySem.W.kitOne X.K t c=some b)(h:∀ tk,Q (.bool b) { s with toks:=tk}):
 wpAny (model X.prog X.w) A (call (.builtin "isinstance") [u,c]) Q E s:=by
 cases ty with
 | dR=>cases(show u=Value.none from rx);exact PySem.W.kia_one PySem.W.kitx_none I.yU True.intro e (fun z=>nomatch z) h
 | bl y=>cases(show u=Value.bool y from rx);exact PySem.W.kia_one PySem.W.kitx_bool I.yU True.intro e (fun z=>nomatch z) h
 | int i=>obtain⟨t,q⟩:=(show ∃ t,u=Value.int i t from rx);cases q;exact PySem.W.kia_one PySem.W.kitx_int I.yU True.intro e (fun z=>nomatch z) h
 | str y=>obtain⟨t,q⟩:=(show ∃ t,u=Value.str y t from rx);cases q;exact PySem.W.kia_one PySem.W.kitx_str I.yU True.intro e (fun z=>nomatch z) h
 | Oe y=>obtain⟨t,q⟩:=(show ∃ t,u=Value.float y t from rx);cases q;exact PySem.W.kia_one PySem.W.kitx_float I.yU True.intro e (fun z=>nomatch z) h
 | @lst a xs ea =>
   cases(show u=Value.ref a from rx)
   obtain⟨_,_,n,_,h1⟩:=(show bf X.prog X.w H s.heap a (.lst xs) from I.hok a _ ea)
   exact PySem.W.kia_one PySem.W.kitx_list I.yU ⟨_,h1,rfl⟩ e (fun z=>nomatch z) h
 | @jR a ob xs ea =>
   cases(show u=Value.ref a from rx)
   obtain⟨_,_,_,n,_,h1⟩:=(show bf X.prog X.w H s.heap a (.jR ob (.lst xs)) from I.hok a _ ea)
   exact PySem.W.kia_one PySem.W.kitx_list I.yU ⟨_,h1,rfl⟩ e (fun z=>nomatch z) h
 | @tup a xs ea =>
   cases(show u=Value.ref a from rx)
   obtain⟨_,_,_,p⟩:=(show bf X.prog X.w H s.heap a (.tup xs) from I.hok a _ ea)
   obtain⟨o,h1,h2,_⟩:=p;exact PySem.W.kia_one PySem.W.kitx_tuple I.yU ⟨o,h1,h2⟩ e (fun z=>nomatch z) h
 | @dK a kvs ea =>
   cases(show u=Value.ref a from rx)
   obtain⟨_,_,vs,_,p⟩:=(show bf X.prog X.w H s.heap a (.dK kvs) from I.hok a _ ea)
   obtain⟨o,es,ep,h1,h2,_⟩:=p;exact PySem.W.kia_one PySem.W.kitx_dict I.yU ⟨o,h1,h2.1⟩ e (fun z=>nomatch z) h
 | @dT a kvs ea =>
   cases(show u=Value.ref a from rx)
   obtain⟨_,_,xs,_,o,es,ep,h1,h2,_⟩:=(show bf X.prog X.w H s.heap a (.dT kvs) from I.hok a _ ea)
   exact PySem.W.kia_one PySem.W.kitx_dict I.yU ⟨o,h1,h2.1⟩ e (fun z=>nomatch z) h
 | @ins a C dx fs ea cl ha hn htk hm =>
   cases(show u=Value.ref a from rx)
   obtain⟨mA,O,_⟩:=JW I.hok ea;obtain⟨od,J,_⟩:=O.look;exact PySem.W.kia_one (PySem.W.kitx_own (cl.get _) cl.hd ha hn htk hm) I.yU J e (fun z=>nomatch z) h
end
structure eM(k:Nat)(A:Around):Prop where
 hd:A.handled=none
 dp:A.depth+3*k+5<recursionLimit
 un:A.units+16*k+200<cLine
theorem eM.mono{j k:Nat}{A:Around}(r:eM k A)(h:j<=k):eM j A:=⟨r.hd,by have:=r.dp;lia,by have:=r.un;lia⟩
theorem eM.deeper{k:Nat}{A:Around}(r:eM (k+1) A)(env:Env):eM k (A.deeper env) :=
 ⟨r.hd,by have:=r.dp;show A.depth+1+3*k+5<_;lia,by have:=r.un;show A.units+3+16*k+200<_;lia⟩
theorem eM.in1{k:Nat}{A:Around}(r:eM (k+1) A):eM k A.in1 :=
 ⟨r.hd,by have:=r.dp;show A.depth+3*k+5<_;lia,by have:=r.un;show A.units+1+16*k+200<_;lia⟩
theorem eM.depth{k:Nat}{A:Around}(r:eM k A):A.depth<recursionLimit:=by have:=r.dp;lia
theorem eM.units{k:Nat}{A:Around}(r:eM k A):A.units+64<cLine:=by have:=r.un;lia
theorem eM.Bm{k:Nat}{A:Around}(r:eM k A):A.units<cLine:=by have:=r.un;lia
def Sz:TA:=fun _ H Q=>Q [] H
def Pj(ta:TE)(tr:TA):TA:=fun σ H Q=>ta σ H fun x H1=>tr σ H1 fun xs H2=>Q (x::xs) H2
section
variable {X:Cx}{e:Expr}{es:List Expr}{te:TE}{t:TA}{pos:Pos}
theorem af:PA X [] Sz:=fun _ _ _ _ H Q I h=>Calls.spliced_nil ⟨[],H,I,.nil,h⟩
theorem aa(ha:PE X e te)(hr:PA X es t)(hs:starEach (e::es) X.env=(false,eval e X.env)::starEach es X.env:=by rfl):PA X (e::es) (Pj te t):=by
 intro pos pins s σ H Q I h;rw[hs];show wpAny _ _ (spliced ((false,eval e X.env)::backTo pos (starEach es X.env))) _ _ s;refine Calls.spliced_cons (cT (ha pins s σ H _ I h) fun u s1 ⟨x,H1,I1,r1,q1⟩=>?_)
 exact cT (hr pos pins s1 σ H1 _ I1 q1) fun us s2 ⟨xs,H2,I2,r2,q2⟩=>⟨x::xs,H2,I2,.cons r1 r2,q2⟩
def SA(t:TA):TE:=fun σ H Q=>t σ H fun xs H1=>xs.length<=sizeLine/\∀ p,H1 p=none->Q (.ref p) (upd H1 p (.tup xs))
def SD(t:TA):TE:=fun σ H Q=>t σ H fun xs H1=>xs.length<=sizeLine/\∀ p,H1 p=none->Q (.ref p) (upd H1 p (.lst xs))
theorem cU{x1}(h:PA X es t):PE X (.Tuple es x1 pos) (SA t):=by
 intro pins s σ H Q I hq;refine wpAny_Tuple_spliced (cT (h pos pins s σ H _ I hq) fun us s1 ⟨xs,H1,I1,r,z,q⟩=>⟨by rw[<-r.length];exact z,?_⟩)
 have hf:H1 s1.heap.objs.size=none:=I1.hok.fresh (Nat.le_refl _);refine⟨.ref s1.heap.objs.size,upd H1 s1.heap.objs.size (.tup xs),I1.laid (t':=s1.toks) (fun b u e=>Heap.get?_push_of_some _ e) (Nat.le_refl _) ?_,rfl,q _ hf⟩
 exact⟨z,us,r,⟨_,Heap.get?_push_size _ rfl,rfl,_,rfl⟩⟩
theorem dD(h:PA X es t):PE X (.List es pos) (SD t):=by
 intro pins s σ H Q I hq;refine wpAny_List_spliced (cT (h pos pins s σ H _ I hq) fun us s1 ⟨xs,H1,I1,r,z,q⟩=>⟨by rw[<-r.length];exact z,?_⟩)
 have hf:H1 s1.heap.objs.size=none:=I1.hok.fresh (Nat.le_refl _);refine⟨.ref s1.heap.objs.size,upd H1 s1.heap.objs.size (.lst xs),I1.laid (t':=s1.toks) (fun b u e=>Heap.get?_push_of_some _ e) (Nat.le_refl _) ?_,rfl,q _ hf⟩
 exact⟨z,us,0,r,Heap.get?_push_size _ rfl⟩
end
abbrev Sp:=List V->Hp->VK->XK->Prop
abbrev F9:=List Env->Hp->Shared->XK->Value->Shared->Prop
structure JX(P:Program)(w:World)(K:bJ)(mg:kU)(base:Heap)(A:Around)(outer:List Env)(s:Shared)(H:Hp):Prop where
 frames:A.frames=some outer
 mod:Mod K mg base
 bs:∀ b o,base.get? b=some o->s.heap.get? b=some o/\H b=none
 JM:base.objs.size<=s.heap.objs.size
 funs:s.heap.FunFrames base outer
 Mq:∀ b∈frs outer,H b=none
 hok:kW P w H s.heap
 bare:AllBare s.gens
def CE(outer:List Env)(P:Program)(w:World)(H:Hp)(s:Shared)(Q:VK)(u:Value)(s' : Shared):Prop :=
 ∃ v H',s'.os=s.os/\AllBare s'.gens/\Un (frs outer) [] H H' s.heap s'.heap/\kW P w H' s'.heap/\RelV v u/\Q v H'
def CR(CX:F9)(outer:List Env)(P:Program)(w:World)(H:Hp)(s:Shared)(Q:VK)(E:XK)(r:Result)(s' : Shared):Prop :=
 match r with
 | .ok (.ret u)=>CE outer P w H s Q u s'
 | .ok _=>False
 | .error e=>CX outer H s E e s'
structure k6(P:Program)(w:World)(K:bJ)(mg:kU)(base:Heap)(CX:F9)(k:Nat)(f:Addr)(fd:FuncData)(ps:List Str)(sp:Sp):Prop where
 len:∀ vs H Q E,sp vs H Q E->vs.length=ps.length
 run:∀(A:Around) (outer:List Env) (s:Shared) (H:Hp) (args:Args) (us:List Value) (vs:List V) (Q:VK) (E:XK),eM k A->JX P w K mg base A outer s H->BindsTo s fd args (ps.zip us)->Vals vs us->sp vs H Q E->
  codeAny (model P w) A (.call (.ref f) args) (CR CX outer P w H s Q E) s
section
variable {X:Cx}{pins:aQ}{σ:St}{H:Hp}{s s' : Shared}
theorem Inv.SE(I:Inv X pins σ H s):JX X.prog X.w X.K X.mg X.base X.A X.stack s H :=
 ⟨I.ok.frames,I.ok.mod,I.bs,Nat.le_trans I.ok.JM I.sz,I.stack,I.w9,I.hok,I.bare⟩
theorem Inv.after{Q:VK}{u:Value}(I:Inv X pins σ H s)(h:CE X.stack X.prog X.w H s Q u s'):EP X pins σ Q u s':=by
 obtain⟨v,H',os,bare,un,hok,r,q⟩:=h;obtain⟨hh,g,d,t,os'⟩:=s';obtain rfl:os' = s.os:=os;exact⟨v,H',I.call (h':=hh) (g':=g) (d':=d) (t':=t) (ch:=[]) un hok bare (fun b z=>absurd z (by simp)),r,q⟩
end
def LD(sp:Sp)(LF:List V)(E:XK)(t:TA):TE:=fun σ H Q=>t σ H fun vs H1=>sp (vs++LF) H1 Q E
def Binds(K:bJ)(fd:FuncData)(ps:List Str)(ds:List Value):Prop :=
 ∀(s:Shared) (us:List Value),K.In s.heap->(us++ds).length=ps.length->BindsTo s fd ⟨us,[]⟩ (ps.zip (us++ds))
theorem Binds.all{K:bJ}{fd:FuncData}{ps:List Str}(h:∀ us:List Value,us.length=ps.length->bindArgs fd ⟨us,[]⟩=pure (ps.zip us)):Binds K fd ps []:=fun s us _ hl=>by
 rw[List.append_nil]at hl ⊢;exact .of_eq (h us hl)
def Passes(CX:F9)(X:Cx)(E:XK):Prop:=∀(pins:aQ) (σ:St) (H:Hp) (s:Shared) (e:Value) (s' : Shared),Inv X pins σ H s->CX X.stack H s E e s'->X.xe e s'
section
variable {X:Cx}{CX:F9}{k:Nat}{f C:Addr}{fd:FuncData}{ps:List Str}{sp:Sp}{LF:List V}{ds:List Value}{E:XK}{x m:Str}{p pos apos:Pos}{e o:Expr}{es:List Expr}{ta:TE}{t:TA}
theorem MB{pins:aQ}{σ:St}{H:Hp}{s:Shared}{Q:VK}{us:List Value}{vs:List V}(F:k6 X.prog X.w X.K X.mg X.base CX k f fd ps sp)(hr:eM k X.A)(hb:Binds X.K fd ps ds)(hd:Vals LF ds)(hx:Passes CX X E)
 (I:Inv X pins σ H s) (r:Vals vs us) (h:sp (vs++LF) H Q E):wpAny (model X.prog X.w) X.A (call (.ref f) us) (EP X pins σ Q) X.xe s:=by
 have r2:Vals (vs++LF) (us++ds):=r.append hd;have hl:(us++ds).length=ps.length:=by rw[<-r2.length];exact F.len _ _ _ _ h
 refine wpAny_call (codeAny_mono (F.run X.A X.stack s H ⟨us,[]⟩ (us++ds) (vs++LF) Q E hr I.SE (hb s us I.yU hl) r2 h) fun r s' hq=>?_)
 cases r with
 | error e=>exact hx pins σ H s e s' I hq
 | ok fl =>
   cases fl with
   | ret u=>exact I.after hq
   | next=>exact False.elim hq
   | brk=>exact False.elim hq
   | cont=>exact False.elim hq
theorem JY(F:k6 X.prog X.w X.K X.mg X.base CX k f fd ps sp)(hr:eM k X.A)(hg:Gl X x)(hm:X.mg x=some (.ref f))(hk:PySem.W.keepIn X.K (.ref f)=true)(hb:Binds X.K fd ps ds)(hd:Vals LF ds)(hx:Passes CX X E)
 (ha:PA X (e::es) t) (hdb:(x==("__debug__":Str))=false:=by decide) (he:starEach (e::es) X.env=(false,eval e X.env)::starEach es X.env:=by rfl) (hpl:(backTo pos (starEach es X.env)).any (·.1)=false:=by rfl) :
 PE X (.Call (.Name x p) (e::es) [] pos) (LD sp LF E t):=by
 intro pins s σ H Q I h;refine wpAny_Call_Name_kw (xg I hg hm ?_ hdb);refine PySem.W.callWith_K (h₀:=X.base) I.ok.mod.Rx hk (cT (ha pos pins s σ H _ I h) fun us s1 ⟨vs,H1,I1,r,q⟩=>⟨I1.yU,?_⟩) he hpl
 exact MB F hr hb hd hx I1 r q
end
structure aE(N P:List Str)(sc:Scope):Prop where
 kind:sc.kind = .function
 co:sc.isCoroutine=false
 gen:sc.isGenerator=false
 nd:N.Nodup
 pre:N.take P.length=P
 par:∀ x∈P,sc.names.lookup x=some .local\/sc.names.lookup x=some .cell
 MC:∀ y∈sc.names,y.2≠.free
theorem vI{kindOf:Str->Option NameKind}{x:Str}:∀{binds:List (Str×Value)} {m:kU},(∀ v,(x,v)∉binds)->bindL kindOf binds m x=m x
 | [],_,_=>rfl
 | (n,v)::r,m,h=>by
   unfold bindL;rw[vI fun w hw=>h w (List.mem_cons_of_mem _ hw)]
   split
   ·have:x≠n:=by rintro rfl;exact h v List.mem_cons_self
    simp[this]
   ·rfl
theorem vJ{kindOf:Str->Option NameKind}{x:Str}:∀{binds:List (Str×Value)} {m:kU},(∀ v,(x,v)∉binds)->bindC kindOf binds m x=m x
 | [],_,_=>rfl
 | (n,v)::r,m,h=>by
   unfold bindC;rw[vJ fun w hw=>h w (List.mem_cons_of_mem _ hw)]
   split
   ·rfl
   ·have:x≠n:=by rintro rfl;exact h v List.mem_cons_self
    simp[this]
theorem vK{kindOf:Str->Option NameKind}{x:Str}{v:Value}:∀{P:List Str} {vs:List Value} {i:Nat} {m:kU},P.Nodup->P[i]?=some x->vs[i]?=some v->kindOf x=some .local->
 bindL kindOf (P.zip vs) m x=some v
 | [],_,_,_,_,h,_,_=>by simp at h
 | _::_,[],_,_,_,_,h,_=>by simp at h
 | p::P,w::vs,0,m,nd,h1,h2,hk=>by
   simp at h1 h2;subst h1;subst h2;show bindL kindOf ((p,w)::P.zip vs) m p=_;unfold bindL;rw[vI fun v hv=>(List.nodup_cons.mp nd).1 (List.of_mem_zip hv).1,if_pos hk]
   simp
 | p::P,w::vs,i+1,m,nd,h1,h2,hk=>by
   show bindL kindOf ((p,w)::P.zip vs) m x=_;unfold bindL;exact vK (i:=i) (List.nodup_cons.mp nd).2 (by simpa using h1) (by simpa using h2) hk
theorem vL{kindOf:Str->Option NameKind}{x:Str}{v:Value}:∀{P:List Str} {vs:List Value} {i:Nat} {m:kU},P.Nodup->P[i]?=some x->vs[i]?=some v->kindOf x≠some .local->
 bindC kindOf (P.zip vs) m x=some v
 | [],_,_,_,_,h,_,_=>by simp at h
 | _::_,[],_,_,_,_,h,_=>by simp at h
 | p::P,w::vs,0,m,nd,h1,h2,hk=>by
   simp at h1 h2;subst h1;subst h2;show bindC kindOf ((p,w)::P.zip vs) m p=_;unfold bindC;rw[vJ fun v hv=>(List.nodup_cons.mp nd).1 (List.of_mem_zip hv).1,if_neg hk]
   simp
 | p::P,w::vs,i+1,m,nd,h1,h2,hk=>by
   show bindC kindOf ((p,w)::P.zip vs) m x=_;unfold bindC;exact vL (i:=i) (List.nodup_cons.mp nd).2 (by simpa using h1) (by simpa using h2) hk
def start(N:List Str)(vs:List V):St:=vs.map some++List.replicate (N.length-vs.length) none
def rB(CX:F9)(P:Program)(w:World)(K:bJ)(mg:kU)(base:Heap)(N:List Str)(qual:Str)(scope:Scope)(f:Addr)(cd:Value)(A:Around)(outer:List Env)(s:Shared)(H:Hp)(E:XK):Cx where
 prog:=P
 w:=w
 K:=K
 mg:=mg
 base:=base
 A:=A.deeper (envOfC qual scope s.heap.objs.size f cd)
 N:=N
 s₀:=s
 H₀:=H
 env:=envOfC qual scope s.heap.objs.size f cd
 outer:=outer
 stack:=envOfC qual scope s.heap.objs.size f cd::outer
 ex:=[]
 calm:=true
 fn:=fun _=>true
 pn:=[]
 xe:=fun e s'=>wpAny (model P w) (A.deeper (envOfC qual scope s.heap.objs.size f cd)) (leaving (envOfC qual scope s.heap.objs.size f cd) e) (fun _ s''=>CX outer H s E e s'') (fun e' s''=>CX outer H s E e' s'') s'
theorem zc{sc:Scope}{n:Nat}{x:Str}(h:sc.names.lookup x=some .cell):∃ c,(cellsFrom n sc.names []).lookup x=some c:=by
 have q:=PySem.W.cellsFrom_some sc.names n [] (.inl h);exact Option.isSome_iff_exists.mp q
theorem Eb{CX:F9}{P:Program}{w:World}{K:bJ}{mg:kU}{base:Heap}{N ps:List Str}{qual:Str}{scope:Scope}{f:Addr}{cd:Value}{A:Around}{outer:List Env}{s s1:Shared}{H:Hp}{E:XK}{us:List Value}{vs:List V}
 (S:aE N ps scope) (hd:A.handled=none) (e0:JX P w K mg base A outer s H) (hl:vs.length=ps.length) (r:Vals vs us)
 (x:InCallC s s.heap.objs.size (bindL (envOfC qual scope s.heap.objs.size f cd).kindOf (ps.zip us) fun _=>none) (cellsFrom (s.heap.objs.size+1) scope.names []) (bindC (envOfC qual scope s.heap.objs.size f cd).kindOf (ps.zip us) fun _=>none) s1) :
 Inv (rB CX P w K mg base N qual scope f cd A outer s H E) [] (start N vs) H s1:=by
 have hpl:ps.length<=N.length:=by have:=congrArg List.length S.pre;rw[List.length_take]at this;lia
 obtain⟨h1,tk,rfl,hk⟩:=x.done;have SG:∀ b:Addr,b∉(rB CX P w K mg base N qual scope f cd A outer s H E).ex:=fun b z=>absurd (show b∈([]:List Addr) from z) (by simp)
 refine⟨⟨e0.mod,S.kind,rfl,rfl,Nat.le_refl _,fun y z c h1 h2=>?_,fun y hy=>?_,fun y c _ h=>?_,fun _=>hd,Around.frames_deeper e0.frames,.inr ⟨rfl,rfl⟩,fun b z=>absurd z (SG b),e0.bs,e0.JM,fun b _ _=>SG b,fun b z=>absurd z (SG b),e0.funs,e0.Mq⟩,
  rfl,e0.bare,Un.kept hk,⟨_,x.toInCall.ns,fun i y v h1 h2 h3=>?_⟩,fun y c h=>⟨_,x.cell y c h⟩,e0.hok.fresh (Nat.le_refl _),fun y c h=>?_,fun p hp=>absurd (show p∈([]:aQ) from hp) (by simp),e0.hok.kept hk,?_⟩
 ·exact name_of_addr x.apart (PySem.mem_of_lookup h1) (PySem.mem_of_lookup h2)
 ·have hy:scope.names.lookup y=some .cell\/scope.names.lookup y=some .free:=hy;rcases hy with hy|hy
  ·exact zc hy
  ·exact absurd rfl (S.MC _ (PySem.mem_of_lookup hy))
 ·exact Nat.le_of_lt (x.above y c (PySem.mem_of_lookup h))
 ·have hi:i<vs.length:=by
   unfold start at h2
   by_cases hi:i<vs.length
   ·exact hi
   ·rw[List.getElem?_append_right (by simpa using hi)]at h2
    rw[List.getElem?_replicate]at h2
    split at h2<;>cases h2
  have ha:vs[i]?=some v:=by
   unfold start at h2;rw[List.getElem?_append_left (by simpa using hi),List.getElem?_map]at h2
   cases e:vs[i]? with
   | none=>rw[e]at h2;cases h2
   | some a=>rw[e]at h2;cases h2;rfl
  obtain⟨u,hu,rv⟩:=r.get ha;have hp:ps[i]?=some y:=by
   rw[<-S.pre,List.getElem?_take_of_lt (by lia)];exact h1
  have US:ps.Nodup:=by rw[<-S.pre];exact S.nd.sublist (List.take_sublist _ _)
  refine⟨u,rv,?_⟩;rcases S.par y (List.mem_of_getElem? hp) with k|k
  ·exact .inl ⟨k,vK US hp hu k⟩
  ·obtain⟨c,e⟩:=zc (n:=s.heap.objs.size+1) k;refine .inr ⟨.inl k,c,e,?_⟩;have q:=x.cell y c e;rw[vL US hp hu (by show scope.names.lookup y≠_;rw[k];decide)]at q
   exact q
 ·exact e0.hok.fresh (Nat.le_of_lt (x.above y c (PySem.mem_of_lookup h)))
 ·unfold start;show _=N.length;rw[List.length_append,List.length_map,List.length_replicate]
  lia
theorem GC{CX:F9}{P:Program}{w:World}{K:bJ}{mg:kU}{base:Heap}{k:Nat}{f:Addr}{name qual:Str}{params:Arguments}{body:List Stmt}{scope:Scope}{dV kV doc pm cdv ct oc:Value}{an od:Option Addr}
 {osl:Array (Option Value)} {N ps:List Str} {sp:Sp} (lk:K.lookup f=some ⟨oc,od,.func (PySem.W.fnOf name qual params body scope dV kV doc pm an cdv ct),osl⟩) (hcd:PySem.W.codeIn K cdv qual=true) (S:aE N ps scope)
 (len:∀ vs H Q E,sp vs H Q E->vs.length=ps.length)
 (hbody:∀(A:Around) (outer:List Env) (s:Shared) (H:Hp) (vs:List V) (Q:VK) (E:XK),eM k (A.deeper (envOfC qual scope s.heap.objs.size f cdv))->sp vs H Q E->
  ∃ t,vE (rB CX P w K mg base N qual scope f cdv A outer s H E) body t/\t { nx:=fun _ H'=>Q .dR H',rt:=Q} (start N vs) H) :
 k6 P w K mg base CX (k+1) f (PySem.W.fnOf name qual params body scope dV kV doc pm an cdv ct) ps sp:=by
 refine⟨len,fun A outer s H args us vs Q E hr e0 hb r rC=>?_⟩
 have hl:=len _ _ _ _ rC;have KX:K.In s.heap:=e0.mod.Rx.keeps fun b o e=>(e0.bs b o e).1
 have lim:s.heap.NoLimit:=e0.mod.nolimit.keeps fun b o e=>(e0.bs b o e).1
 have hkind:∀ y∈ps.zip us,scope.names.lookup y.1=some .local\/(scope.names.lookup y.1=some .cell/\((cellsFrom (s.heap.objs.size+1) scope.names []).lookup y.1).isSome=true):=fun⟨n,v⟩ hy=>by
  rcases S.par n (List.of_mem_zip hy).1 with q|q
  ·exact .inl q
  ·exact .inr ⟨q,PySem.W.cellsFrom_some _ _ _ (.inl q)⟩
 refine codeAny_call_function hr.depth (KX _ _ lk) rfl S.co S.gen rfl (PySem.W.codeRec_of KX hcd) (hb _ _ _ _ ?_);refine wpAny_newFunctionEnv_cells S.kind hkind fun env he s1 x=>?_
 subst he;refine⟨lim.keeps x.toInCall.keep,codeAny_func ?_⟩;obtain⟨t,ht,hq⟩:=hbody A outer s H vs Q E (hr.deeper _) rC;have I:Inv (rB CX P w K mg base N qual scope f cdv A outer s H E) [] (start N vs) H s1:=Eb S hr.hd e0 hl r x;refine wpAny_mono (ht [] s1 (start N vs) H _ I hq) (fun fl s' hs=>?_) fun e s' hs=>hs
 have fin:∀{σ' : St} {H' : Hp} {v:V} {u:Value},Inv (rB CX P w K mg base N qual scope f cdv A outer s H E) [] σ' H' s'->RelV v u->Q v H'->CE outer P w H s Q u s' :=
  fun {σ' H' v u} J rv q=>⟨v,H',J.os,J.bare,J.base,J.hok,rv,q⟩
 cases fl with
 | ret u =>
   obtain⟨v,σ',H',J,rv,q⟩:=hs;exact fin J rv q
 | next =>
   obtain⟨σ',H',J,q⟩:=hs;exact fin (v:=V.dR) (u:=Value.none) J rfl q
 | brk =>
   obtain⟨_,_,_,q⟩:=hs;exact False.elim q
 | cont =>
   obtain⟨_,_,_,q⟩:=hs;exact False.elim q
section
variable {X:Cx}{x:Str}{p pos:Pos}{e:Expr}{es:List Expr}{t:TA}{id T:String}{r:List V->Hp->VK->Prop}
def UT(r:List V->Hp->VK->Prop)(t:TA):TE:=fun σ H Q=>t σ H fun vs H1=>r vs H1 Q
theorem aM(hc:fg X (.builtin id) r)(hg:Gl X x)(hm:X.mg x=none)(hv:bootBuiltins x=some (.builtin id))(ha:PA X (e::es) t)(hn:x≠"__name__":=by decide)(hdb:(x==("__debug__":Str))=false:=by decide)
 (he:starEach (e::es) X.env=(false,eval e X.env)::starEach es X.env:=by rfl) (hpl:(backTo pos (starEach es X.env)).any (·.1)=false:=by rfl):PE X (.Call (.Name x p) (e::es) [] pos) (UT r t):=by
 intro pins s σ H Q I h;refine wpAny_Call_Name_kw (jr I hg hm hv ?_ hn hdb);exact PyProof.Rows.callWith_builtin1 (cT (ha pos pins s σ H _ I h) fun us s1 ⟨vs,H1,I1,r1,q1⟩=>hc pins s1 σ H1 vs us Q I1 r1 q1) he hpl
theorem cL(hc:fg X (.type T) r)(hg:Gl X x)(hm:X.mg x=none)(hv:bootBuiltins x=some (.type T))(ha:PA X (e::es) t)(hn:x≠"__name__":=by decide)(hdb:(x==("__debug__":Str))=false:=by decide)
 (he:starEach (e::es) X.env=(false,eval e X.env)::starEach es X.env:=by rfl) (hpl:(backTo pos (starEach es X.env)).any (·.1)=false:=by rfl):PE X (.Call (.Name x p) (e::es) [] pos) (UT r t):=by
 intro pins s σ H Q I h;refine wpAny_Call_Name_kw (jr I hg hm hv ?_ hn hdb);exact PyProof.Rows.callWith_type1 (cT (ha pos pins s σ H _ I h) fun us s1 ⟨vs,H1,I1,r1,q1⟩=>hc pins s1 σ H1 vs us Q I1 r1 q1) he hpl
end
end L2
namespace HT
open PySem PyProof.Rows
def lexLt:List Int->List Int->Bool
 | [],[]=>false
 | [],_::_=>true
 | _::_,[]=>false
 | x::xs,y::ys=>if x=y then lexLt xs ys else decide (x<y)
theorem fU(x y:Int)(xs ys:List Int):lexLt (x::xs) (y::ys)=if x=y then lexLt xs ys else decide (x<y):=rfl
theorem mZ:lexLt [] []=false:=rfl
theorem sH(y:Int)(ys:List Int):lexLt [] (y::ys)=true:=rfl
theorem fD(x:Int)(xs:List Int):lexLt (x::xs) []=false:=rfl
theorem zd(A:Around)(s:Shared)(a:Int)(t:Tok)(c:Int)(u:Tok):∃ e,SeqAt.EqAt A s (.int a t) (.int c u) e/\(e=true↔a=c) :=
 ⟨(a==c),SeqAt.EqAt.int_int a t c u,by simp⟩
theorem GD(A:Around)(s:Shared)(a:Int)(t:Tok)(c:Int)(u:Tok)(prog:Program)(w:World)(E:dh)(Q:dh)(h:Q (.bool (decide (a<c))) s):
 wpAny (model prog w) A (richCompare .Lt (.int a t) (.int c u)) Q E s :=
 (PyProof.Rows.lt_int h:wpAny (model prog w) A (compareOp .Lt (.int a t) (.int c u)) Q E s)
section
open PySem.SeqAt
open PySem.AutoSeq1 (wpAny_loadPart')
open PySem.MeetsSeq PySem.MeetsSeq2 PySem.MeetsSeq3
theorem uS(l b:Addr)(items items2:Array Value)(n n2:Nat)(dd dd2:Option Addr)(sl sl2:Array (Option Value))(ns ms:List Int)(hi:IntsAre items.toList ns)(hj:IntsAre items2.toList ms):
 Meets (Builtin.«tuple.__lt__» ⟨[.ref l,.ref b],[]⟩)
  (fun _ R s=>s.heap.get? l=some { cls:=.type "tuple",dict:=dd,data:=.seq items n,slots:=sl}/\s.heap.get? b=some { cls:=.type "tuple",dict:=dd2,data:=.seq items2 n2,slots:=sl2}/\
   R (.ok (.ret (.bool (lexLt ns ms)))) s) :=
 .of_wp fun prog w A R s h=>by
  obtain⟨hp,g,d,tk,os⟩:=s;obtain⟨hl,hb,h⟩:=h;have f2:=AutoSeq1.sub_tuple_tuple;have z1:items.size=ns.length:=by rw[<-hi.length];simp
  have z2:items2.size=ms.length:=by rw[<-hj.length];simp
  wp_walk using wpAny_loadPart' hl,wpAny_loadPart' hb,wpAny_forIn_list _ (fun rest b s'=>b.1=none/\s' = ⟨hp,g,d,tk,os⟩/\∃(vs ws:List Value) (ns' ms' : List Int),rest=vs.zip ws/\
   IntsAre vs ns'/\IntsAre ws ms'/\ns'.length+items2.size=ms'.length+items.size/\R (.ok (.ret (.bool (lexLt ns' ms')))) ⟨hp,g,d,tk,os⟩) _
  case turn =>
   rintro⟨y,x⟩ rest b s' ⟨hb',rfl,vs,ws,ns',ms',hz,LG,hwi,hlen,hR⟩;cases LG with
   | nil=>rw[List.zip_nil_left]at hz;cases hz
   | cons a t hvi' =>
     cases hwi with
     | nil=>rw[List.zip_nil_right]at hz;cases hz
     | cons c u hwi' =>
       rw[List.zip_cons_cons]at hz;injection hz with hyx hrest
       injection hyx with hy hx
       subst hy hx;rw[fU]at hR;simp only[List.length_cons]at hlen;obtain⟨e,he,GF⟩:=zd A.in1 ⟨hp,g,d,tk,os⟩ a t c u;refine wpAny_bind (he prog w _ _ ?_);cases e with
       | true =>
         rw[if_pos (GF.mp rfl)]at hR
         wp_walk
         exact⟨rfl,rfl,_,_,_,_,hrest,hvi',hwi',by lia,hR⟩
       | false =>
         rw[if_neg (fun q=>absurd (GF.mpr q) Bool.false_ne_true)]at hR
         have Ga:=GD A.in1 ⟨hp,g,d,tk,os⟩ a t c u prog w
         wp_walk using Ga
         exact⟨_,rfl,by simpa using hR⟩
  case fin =>
   rintro⟨b1,b2⟩ s' ⟨hb',rfl,vs,ws,ns',ms',hz,LG,hwi,hlen,hR⟩;simp only at hb';subst hb';have hv:lexLt ns' ms' = decide (items.size<items2.size):=by
    cases LG with
    | nil =>
      cases hwi with
      | nil =>
        simp only[List.length_nil]at hlen;rw[mZ];exact(decide_eq_false (by lia)).symm
      | cons c u hw =>
        simp only[List.length_nil,List.length_cons]at hlen;rw[sH];exact(decide_eq_true (by lia)).symm
    | cons a t hv =>
      cases hwi with
      | nil =>
        simp only[List.length_nil,List.length_cons]at hlen;rw[fD];exact(decide_eq_false (by lia)).symm
      | cons c u hw =>
        rw[List.zip_cons_cons]at hz;cases hz
   rw[hv]at hR
   wp_walk
   exact⟨_,rfl,by simpa[Builtin.Tuple.tupleCompareSizes]using hR⟩
  case h =>
   exact⟨rfl,rfl,items.toList,items2.toList,ns,ms,rfl,hi,hj,by lia,h⟩
end
section
variable {prog:Program}{w:World}{A:Around}{E:dh}{s:Shared}
theorem Bo{l b:Addr}{items items2:Array Value}{ns ms:List Int}{Q:dh}(hl:IsTup s.heap l items)(hb:IsTup s.heap b items2)(hi:IntsAre items.toList ns)(hj:IntsAre items2.toList ms)
 (hu:A.units<cLine) (h:Q (.bool (lexLt ns ms)) s):wpAny (model prog w) A (compareOp .Lt (.ref l) (.ref b)) Q E s:=by
 obtain⟨⟨cls,dd,data,sl⟩,ho,hc,n,hd⟩:=id hl;obtain⟨⟨Pk,dd2,data2,sl2⟩,ho2,hc2,n2,hd2⟩:=id hb;simp only at hc hd hc2 hd2;subst hc hd hc2 hd2;exact richCompare_meets_room (op:=.Lt) ⟨_,ho,rfl⟩ ⟨_,ho2,rfl⟩ PySem.F.slot_tuple_lt PySem.F.entry_tuple_lt (PySem.F.args_tuple_lt_2 _ _) (uS l b items items2 n n2 dd dd2 sl sl2 ns ms hi hj)
  ⟨ho,ho2,show Value.bool (lexLt ns ms)≠Value.notImplemented/\Q (.bool (lexLt ns ms)) s from⟨(fun x=>nomatch x),h⟩⟩ hu
def qW(n d:Nat):Option Int->Nat
 | none=>d
 | some v=>if v<0 then(v+(n:Int)).toNat else min v.toNat n
theorem GG(n d:Nat):qW n d none=d:=rfl
theorem JZ(n d k:Nat):qW n d (some (k:Int))=min k n:=by
 show(if(k:Int)<0 then((k:Int)+(n:Int)).toNat else min (k:Int).toNat n)=min k n
 rw[if_neg (by lia),Int.toNat_natCast]
end
end HT
namespace L2
open PySem PySem.Spec PyProof.Rows
abbrev TO:=St->Hp->(Option Int->Hp->Prop)->Prop
def PO(X:Cx)(e:Option Expr)(t:TO):Prop :=
 ∀(pins:aQ) (s:Shared) (σ:St) (H:Hp) (Q:Option Int->Hp->Prop),Inv X pins σ H s->t σ H Q->
  wpAny (model X.prog X.w) X.A (evalPart e X.env) (fun u s'=>∃ o H',Inv X pins σ H' s'/\IsPart u o/\Q o H') X.xe s
def J0:TO:=fun _ H Q=>Q none H
def Pn(t:TE):TO:=fun σ H Q=>t σ H fun x H1=>∃ i,x = .int i/\Q (some i) H1
theorem intsAre_of{ns:List Int}:∀{us:List Value},Vals (ns.map V.int) us->IntsAre us ns:=by
 induction ns with
 | nil=>intro us r;rw[List.map_nil]at r;cases r;exact .nil
 | cons n ns ih =>
   intro us r;rw[List.map_cons]at r;cases r with
   | cons r1 r2 =>
     obtain⟨t,e⟩:=r1;subst e;exact .cons n t (ih r2)
section
variable {X:Cx}{e:Expr}{te:TE}{lo hi:Option Expr}{tl th:TO}{pos p2:Pos}
theorem xo:PO X none J0:=by
 intro pins s σ H Q I h;rw[evalPart_none];exact wpAny_pure ⟨none,H,I,.none,h⟩
theorem xq(h:PE X e te):PO X (some e) (Pn te):=by
 intro pins s σ H Q I hw;rw[evalPart_some];refine cT (h pins s σ H _ I hw) fun u s1 ⟨x,H1,I1,r1,q1⟩=>?_
 obtain⟨i,rfl,q⟩:=q1;obtain⟨t,rfl⟩:=r1;exact⟨some i,H1,I1,.int i t,q⟩
def SH(X:Cx)(r:V->Option Int->Option Int->Hp->VK->Prop):Prop :=
 ∀(pins:aQ) (s:Shared) (σ:St) (H:Hp) (x:V) (v vl vu:Value) (lo hi:Option Int) (sl:Addr) (Q:VK),Inv X pins σ H s->RelV x v->s.heap.IsSliceOf sl vl vu .none->IsPart vl lo->IsPart vu hi->r x lo hi H Q->
  ∃ T id,typeLookup (.type T) "__getitem__"=pure (some (.builtin id))/\s.TypeIs v T/\wpAny (model X.prog X.w) X.A (getItem v (.ref sl)) (EP X pins σ Q) X.xe s
def Xi(r:V->Option Int->Option Int->Hp->VK->Prop)(te:TE)(tl th:TO):TE:=fun σ H Q=>te σ H fun x H1=>tl σ H1 fun l H2=>th σ H2 fun u H3=>r x l u H3 Q
theorem sI{r:V->Option Int->Option Int->Hp->VK->Prop}(hr:SH X r)(he:PE X e te)(hl:PO X lo tl)(hu:PO X hi th):PE X (.Subscript e (.Slice lo hi none p2) pos) (Xi r te tl th):=by
 intro pins s σ H Q I h;refine Subscript_ (cT (he pins s σ H _ I h) fun v s1 ⟨x,H1,I1,r1,q1⟩=>?_)
 refine wpAny_Slice (cT (hl pins s1 σ H1 _ I1 q1) fun vl s2 ⟨l,H2,I2,pl,q2⟩=>cT (hu pins s2 σ H2 _ I2 q2) fun vu s3 ⟨u,H3,I3,pu,q3⟩=>?_)
 rw[evalPart_none];refine wpAny_pure ?_;have I4:Inv X pins σ H3 { s3 with heap:=s3.heap.push { cls:=.type "slice",data:=.fields #[vl,vu,.none]}}:=I3.kept (t':=s3.toks) fun b ob q=>Heap.get?_push_of_some _ q
 obtain⟨T,id,hT,ht,hg⟩:=hr pins { s3 with heap:=s3.heap.push { cls:=.type "slice",data:=.fields #[vl,vu,.none]}} σ H3 x v vl vu l u s3.heap.objs.size Q I4 r1 (Heap.IsSliceOf.new ..) pl pu q3
 show wpAny (model X.prog X.w) X.A (subscriptTail e (.Slice lo hi none p2) v (.ref s3.heap.objs.size)) (EP X pins σ Q) X.xe { s3 with heap:=s3.heap.push { cls:=.type "slice",data:=.fields #[vl,vu,.none]}}
 exact tail_any (ops:=[.ref s3.heap.objs.size,v]) ht hT hg (by with_unfolding_all rfl)
def xr(xs:List V)(lo hi:Option Int):List V:=(xs.drop (HT.qW xs.length 0 lo)).take (HT.qW xs.length xs.length hi-HT.qW xs.length 0 lo)
theorem ze(xs:List V)(lo hi:Option Int):(xr xs lo hi).length<=xs.length:=by
 unfold xr;rw[List.length_take,List.length_drop]
 lia
end
def J7(n:Nat)(i:Int):Option Nat:=if 0<=i then(if i<n then some i.toNat else none) else if -(n:Int)<=i then some (i+n).toNat else none
def Gb{α:Type}(xs:List α)(i:Int):Option α:=(J7 xs.length i).bind fun j=>xs[j]?
theorem C5{n:Nat}{i:Int}{j:Nat}(h:J7 n i=some j):seqIndex? i n=some j/\j<n/\-(n:Int)<=i/\i<n:=by
 unfold J7 at h
 by_cases h0:0<=i
 ·rw[if_pos h0]at h
  by_cases h1:i<n
  ·rw[if_pos h1]at h;have e:i.toNat=j:=Option.some.inj h;exact⟨by rw[seqIndex_of h0 h1,e],by lia,by lia,h1⟩
  ·rw[if_neg h1]at h;cases h
 ·rw[if_neg h0]at h
  by_cases h1 : -(n:Int)<=i
  ·rw[if_pos h1]at h;have e:(i+n).toNat=j:=Option.some.inj h;exact⟨by rw[seqIndex_neg (by lia) h1,e],by lia,h1,by lia⟩
  ·rw[if_neg h1]at h;cases h
theorem C6{α:Type}{xs:List α}{i:Int}{v:α}(h:Gb xs i=some v):∃ j,seqIndex? i xs.length=some j/\xs[j]?=some v/\j<xs.length/\-(xs.length:Int)<=i/\i<xs.length:=by
 unfold Gb at h;cases e:J7 xs.length i with
 | none=>rw[e]at h;cases h
 | some j =>
   rw[e]at h;obtain⟨h1,h2,h3,h4⟩:=C5 e;exact⟨j,h1,h,h2,h3,h4⟩
theorem ao{α:Type}{xs:List α}{j:Nat}{v:α}(h:xs[j]?=some v):Gb xs (j:Int)=some v:=by
 have hj:j<xs.length:=(List.getElem?_eq_some_iff.mp h).1;have e:J7 xs.length (j:Int)=some j:=by
  unfold J7;rw[if_pos (by lia),if_pos (by lia)];simp
 unfold Gb;rw[e];exact h
def C7(b:Expr):Prop:=∀ o i,subscripted b false o i=operate [o,i] (getItem o i)
def Oj(X:Cx)(r:R2):Prop :=
 ∀(value slice:Expr) (pins:aQ) (s:Shared) (σ:St) (H:Hp) (x y:V) (v u:Value) (Q:VK),Inv X pins σ H s->RelV x v->RelV y u->r x y H Q->
  subscripted slice false v u=operate [v,u] (getItem v u)->wpAny (model X.prog X.w) X.A (subscriptTail value slice v u) (EP X pins σ Q) X.xe s
def SJ(X:Cx)(id:String)(r:V->List V->Hp->VK->Prop):Prop :=
 ∀(pins:aQ) (s:Shared) (σ:St) (H:Hp) (x:V) (xs:List V) (v:Value) (us:List Value) (Q:VK),Inv X pins σ H s->RelV x v->Vals xs us->r x xs H Q->
  wpAny (model X.prog X.w) X.A (call (.builtin id) (v::us)) (EP X pins σ Q) X.xe s
section
variable {X:Cx}{a b:Expr}{ta tb:TE}{pos:Pos}
theorem Po{r:R2}(hr:Oj X r)(ha:PE X a ta)(hb:PE X b tb)(hs:C7 b):PE X (.Subscript a b pos) (Pd r ta tb):=by
 intro pins s σ H Q I h;exact Subscript_ (Mw ha hb I h fun v u s2 x y H2 I2 rx ry q=>hr a b pins s2 σ H2 x y v u Q I2 rx ry q (hs _ _))
def Pp(K:bJ):R2:=fun x y H Q=>∃ p xs i v,x = .ref p/\y = .int i/\aL K H p xs/\Gb xs i=some v/\Q v H
def Pq(K:bJ):R2:=fun x y H Q=>∃ p xs i v,x = .ref p/\y = .int i/\aV K H p xs/\Gb xs i=some v/\Q v H
theorem J8:Oj X (Pp X.K):=by
 intro value slice pins s σ H x y v u Q I rx ry h hs;obtain⟨p,xs,i,z,rfl,rfl,hq,he,q⟩:=h;cases rx;obtain⟨t,rfl⟩:=ry;obtain⟨its,r,pl,hz⟩:=I.list hq;obtain⟨j,h1,h2,h3,h4,h5⟩:=C6 he;obtain⟨w,ew,rw'⟩:=r.get h2;have hl:=r.length;have hn:=sG;have fin:EP X pins σ Q w s:=⟨z,H,I,rw',q⟩
 by_cases h0:0<=i
 ·have hj:i.toNat=j:=by
   rw[seqIndex_of h0 h5]at h1;exact Option.some.inj h1
  exact item_listR pl.isList h0 (by lia) (by rw[hj];simpa using ew) fin hs
 ·have hj:(i+(its.toArray.size:Int)).toNat=j:=by
   rw[seqIndex_neg (by lia) h4]at h1
   rw[List.size_toArray,<-hl];exact Option.some.inj h1
  exact subscriptTail_builtinR (x:=w) pl.isList.typeIs slot_list_getitem.lookup
   (wpAny_getItem_list_neg (Q:=fun r s'=>r=w/\EP X pins σ Q r s') pl.isList (by lia) (by rw[List.size_toArray]<;>lia) (by lia) (by rw[hj];simpa using ew) ⟨rfl,fin⟩) hs
theorem MD:Oj X (Pq X.K):=by
 intro value slice pins s σ H x y v u Q I rx ry h hs;obtain⟨p,xs,i,z,rfl,rfl,hq,he,q⟩:=h;cases rx;obtain⟨t,rfl⟩:=ry;obtain⟨its,r,pl,hz⟩:=I.tuple hq;obtain⟨j,h1,h2,h3,h4,h5⟩:=C6 he;obtain⟨w,ew,rw'⟩:=r.get h2;have hl:=r.length;have hn:=sG;have fin:EP X pins σ Q w s:=⟨z,H,I,rw',q⟩;exact subscriptTail_builtinR (x:=w) pl.typeIs slot_tuple_getitem.lookup
  (getItem_tuple (j:=j) (Q:=fun r s'=>r=w/\EP X pins σ Q r s') pl (by lia) (by lia) (by rw[List.size_toArray,<-hl];exact h1) (by simpa using ew) ⟨rfl,fin⟩) hs
theorem Bp(its:List Value)(n j:Nat)(u:Value):Obj.mapSeq (·.setIfInBounds j u) { cls:=.type "list",data:=.seq its.toArray n}={ cls:=.type "list",data:=.seq (its.set j u).toArray n}:=by
 simp[Obj.mapSeq]
theorem Inv.lst{pins:aQ}{σ:St}{H:Hp}{s:Shared}{p:Addr}{xs:List V}(I:Inv X pins σ H s)(h:H p=some (.lst xs)):
 ∃(its:List Value) (n:Nat),Vals xs its/\s.heap.get? p=some { cls:=.type "list",data:=.seq its.toArray n}/\xs.length<=sizeLine:=by
 obtain⟨z,its,n,r,e⟩:=I.hok p _ h;exact⟨its,n,r,e,z⟩
theorem Inv.ME{pins:aQ}{σ:St}{H:Hp}{s:Shared}{p:Addr}{xs ys:List V}{its its' : List Value}{n n' : Nat}{f:Obj->Obj}(I:Inv X pins σ H s)(h:H p=some (.lst xs))
 (ho:s.heap.get? p=some { cls:=.type "list",data:=.seq its.toArray n}) (hf:f { cls:=.type "list",data:=.seq its.toArray n}={ cls:=.type "list",data:=.seq its'.toArray n'}) (r:Vals ys its') (hz:ys.length<=sizeLine) (t:Nat) :
 Inv X pins σ (upd H p (.lst ys)) { s with heap:=s.heap.update p f,toks:=t}:=by
 have e:(s.heap.update p f).get? p=some { cls:=.type "list",data:=.seq its'.toArray n'}:=by
  rw[Heap.get?_update_self f ho (by rw[hf]<;>rfl),hf]
 refine I.write (x:=p) (e:=p) (by rw[h];trivial) (.inl rfl) (fun b u hb q=>(Heap.get?_update_other _ _ (Ne.symm hb)).trans q) ⟨_,e⟩ ?_
 exact⟨hz,its',n',r,e⟩
def Pu:V->V->V->Hp->(Hp->Prop)->Prop:=fun o i v H Q=>∃ p xs k j,o = .ref p/\i = .int k/\H p=some (.lst xs)/\J7 xs.length k=some j/\Q (upd H p (.lst (xs.set j v)))
theorem set_list:Mu X Pu:=by
 intro pins s σ H o i v ov iv u Q I ro ri rv h;obtain⟨p,xs,k,j,rfl,rfl,hp,hj,q⟩:=h;cases ro;obtain⟨t,rfl⟩:=ri;obtain⟨its,n,r,ho,hz⟩:=I.lst hp;obtain⟨h1,h2,h3,h4⟩:=C5 hj;have hl:=r.length;have hn:=sG;have I' : Inv X pins σ (upd H p (.lst (xs.set j v))) { s with heap:=s.heap.update p (Obj.mapSeq (·.setIfInBounds j u))} :=
  I.ME hp ho (Bp its n j u) (r.set rv j) (by rw[List.length_set];exact hz) s.toks
 by_cases h0:0<=k
 ·have hk:k.toNat=j:=by
   rw[seqIndex_of h0 h4]at h1;exact Option.some.inj h1
  exact PySem.W.ki_setAt ho h0 (by lia) (by rw[List.size_toArray,<-hl];exact h4) (by rw[hk];exact⟨_,I',q⟩)
 ·have hk:(k+(its.toArray.size:Int)).toNat=j:=by
   rw[seqIndex_neg (by lia) h3]at h1
   rw[List.size_toArray,<-hl];exact Option.some.inj h1
  exact PySem.W.ki_setBack ho (by lia) (by rw[List.size_toArray,<-hl];exact h3) (by lia) (by rw[hk];exact⟨_,I',q⟩)
theorem xu(lo hi:Option Int)(n:Nat):(sliceBounds lo hi none n).1=((HT.qW n 0 lo:Nat):Int)/\(sliceBounds lo hi none n).2.1=((HT.qW n n hi:Nat):Int)/\(sliceBounds lo hi none n).2.2=1:=by
 refine⟨?_,?_,rfl⟩
 ·cases lo with
  | none=>simp[sliceBounds,HT.qW]
  | some i =>
    simp only[sliceBounds,HT.qW,Option.getD_none,show(1:Int) > 0 by decide,if_true]
    by_cases h:i<0
    ·simp only[h,if_true]<;>lia
    ·simp only[h,if_false]<;>lia
 ·cases hi with
  | none=>simp[sliceBounds,HT.qW]
  | some i =>
    simp only[sliceBounds,HT.qW,Option.getD_none,show(1:Int) > 0 by decide,if_true]
    by_cases h:i<0
    ·simp only[h,if_true]<;>lia
    ·simp only[h,if_false]<;>lia
theorem uT(its:List Value)(lo hi:Option Int):slicePick its.toArray lo hi none=((its.drop (HT.qW its.length 0 lo)).take (HT.qW its.length its.length hi-HT.qW its.length 0 lo)).toArray:=by
 obtain⟨h1,h2,h3⟩:=xu lo hi its.toArray.size;unfold slicePick;rw[h1,h2,h3];simp only[sliceRange_one,pick_run,List.size_toArray]<;>rfl
def Pw(K:bJ):V->Option Int->Option Int->Hp->VK->Prop:=fun x lo hi H Q=>∃ a xs,x = .ref a/\aL K H a xs/\∀ p,H p=none->Q (.ref p) (upd H p (.lst (xr xs lo hi)))
theorem J9:SH X (Pw X.K):=by
 intro pins s σ H x v vl vu lo hi sl Q I rx hs pl pu h;obtain⟨a,xs,rfl,hx,q⟩:=h;cases rx;obtain⟨its,r,ht,hz⟩:=I.list hx;have hlen:=r.length;refine⟨"list",_,slot_list_getitem.lookup,ht.isList.typeIs,?_⟩;refine wpAny_getItem_list_slice ht.isList hs pl pu .none (by simp) ?_ (by rw[List.size_toArray]<;>lia)
 rw[uT,<-hlen];refine⟨.ref s.heap.objs.size,_,I.laid (t':=s.toks) (o:=.lst (xr xs lo hi)) (fun b ob q=>Heap.get?_push_of_some _ q) (Nat.le_refl _) ?_,rfl,q _ (I.hok.fresh (Nat.le_refl _))⟩
 exact⟨Nat.le_trans (ze xs lo hi) hz,_,0,(r.drop (HT.qW xs.length 0 lo)).take (HT.qW xs.length xs.length hi-HT.qW xs.length 0 lo),Heap.get?_push_size _ rfl⟩
def nV:V->Bool
 | .dR=>true
 | .bl _=>true
 | .int _=>true
 | .str _=>true
 | _=>false
def Ka:V->V->Bool
 | .dR,.dR=>true
 | .bl a,.bl b=>a==b
 | .bl a,.int b=>(if a then 1 else 0)==b
 | .int a,.bl b=>a==(if b then 1 else 0)
 | .int a,.int b=>a==b
 | .str a,.str b=>a==b
 | _,_=>false
theorem MF{A:Around}{s:Shared}{y x:V}{u v:Value}(ry:RelV y u)(rx:RelV x v)(fy:nV y=true)(fx:nV x=true):SeqAt.EqAt A s u v (Ka y x):=by
 cases y with
 | dR =>
   cases ry;cases x with
   | dR=>cases rx;exact SeqAt.EqAt.same _
   | bl b=>cases rx;exact SeqAt.EqAt.none_bool b
   | int b=>obtain⟨t,rfl⟩:=rx;exact SeqAt.EqAt.none_int b t
   | str b=>obtain⟨t,rfl⟩:=rx;exact SeqAt.EqAt.none_str b t
   | _=>exact absurd (show false=true from fx) Bool.false_ne_true
 | bl a =>
   cases ry;cases x with
   | dR=>cases rx;exact SeqAt.EqAt.bool_none a
   | bl b=>cases rx;exact SeqAt.EqAt.bool_bool a b
   | int b=>obtain⟨t,rfl⟩:=rx;exact SeqAt.EqAt.bool_int a b t
   | str b=>obtain⟨t,rfl⟩:=rx;exact SeqAt.EqAt.bool_str a b t
   | _=>exact absurd (show false=true from fx) Bool.false_ne_true
 | int a =>
   obtain⟨t',rfl⟩:=ry;cases x with
   | dR=>cases rx;exact SeqAt.EqAt.int_none a t'
   | bl b=>cases rx;exact SeqAt.EqAt.int_bool a t' b
   | int b=>obtain⟨t,rfl⟩:=rx;exact SeqAt.EqAt.int_int a t' b t
   | str b=>obtain⟨t,rfl⟩:=rx;exact SeqAt.EqAt.int_str a t' b t
   | _=>exact absurd (show false=true from fx) Bool.false_ne_true
 | str a =>
   obtain⟨t',rfl⟩:=ry;cases x with
   | dR=>cases rx;exact SeqAt.EqAt.str_none a t'
   | bl b=>cases rx;exact SeqAt.EqAt.str_bool a t' b
   | int b=>obtain⟨t,rfl⟩:=rx;exact SeqAt.EqAt.str_int a t' b t
   | str b=>obtain⟨t,rfl⟩:=rx;exact SeqAt.EqAt.str_str a t' b t
   | _=>exact absurd (show false=true from fx) Bool.false_ne_true
 | _=>exact absurd (show false=true from fy) Bool.false_ne_true
def Bq(x:V)(u:Value):Bool:=match u with
 | .none=>Ka .dR x
 | .bool b=>Ka (.bl b) x
 | .int i _=>Ka (.int i) x
 | .str z _=>Ka (.str z) x
 | _=>false
theorem GH{x y:V}{u:Value}(r:RelV y u)(f:nV y=true):Bq x u=Ka y x:=by
 cases y with
 | dR=>cases r;rfl
 | bl b=>cases r;rfl
 | int i=>obtain⟨t,rfl⟩:=r;rfl
 | str z=>obtain⟨t,rfl⟩:=r;rfl
 | _=>exact absurd (show false=true from f) Bool.false_ne_true
theorem nW{x:V}:∀{xs:List V} {us:List Value},Vals xs us->xs.all nV=true->us.any (Bq x)=xs.any fun y=>Ka y x
 | _,_,.nil,_=>rfl
 | y::xs,u::us,.cons r t,f=>by
   rw[List.all_cons,Bool.and_eq_true]at f;rw[List.any_cons,List.any_cons,GH r f.1,nW t f.2]
theorem k7{A:Around}{s:Shared}{x:V}{v:Value}(rx:RelV x v)(fx:nV x=true):∀{xs:List V} {us:List Value},Vals xs us->xs.all nV=true->∀ u∈us,SeqAt.EqAt A s u v (Bq x u)
 | _,_,.nil,_=>fun u hu=>by cases hu
 | y::xs,u::us,.cons r t,f=>fun u' hu=>by
   rw[List.all_cons,Bool.and_eq_true]at f;rcases List.mem_cons.mp hu with rfl|hu
   ·rw[GH r f.1];exact MF r rx f.1 fx
   ·exact k7 rx fx t f.2 u' hu
def LH(x:V)(xs:List V):Bool:=xs.any fun y=>Ka y x
def RD(K:bJ)(neg:Bool):R2:=fun x y H Q=>∃ p xs,y = .ref p/\(aL K H p xs\/aV K H p xs)/\nV x=true/\xs.all nV=true/\Q (.bl (if neg then !LH x xs else LH x xs)) H
theorem Ec:jT X (compareOp .In) (RD X.K false):=by
 intro pins s σ H x y v u Q I rx ry h;obtain⟨p,xs,rfl,hq,fx,fs,q⟩:=h;cases ry;rcases hq with hq|hq
 ·obtain⟨its,r,pl,hz⟩:=I.list hq;refine SeqAt.in_listAt (Bq x) pl.isList (fun w hw=>k7 rx fx r fs w (by simpa using hw)) ⟨.bl _,H,I,rfl,?_⟩
  rw[show its.toArray.any (Bq x)=its.any (Bq x) by simp,nW r fs]
  exact q
 ·obtain⟨its,r,pl,hz⟩:=I.tuple hq;refine SeqAt.in_tupleAt (Bq x) pl (fun w hw=>k7 rx fx r fs w (by simpa using hw)) ⟨.bl _,H,I,rfl,?_⟩
  rw[show its.toArray.any (Bq x)=its.any (Bq x) by simp,nW r fs]
  exact q
theorem xw:jT X (compareOp .NotIn) (RD X.K true):=by
 intro pins s σ H x y v u Q I rx ry h;obtain⟨p,xs,rfl,hq,fx,fs,q⟩:=h;cases ry;rcases hq with hq|hq
 ·obtain⟨its,r,pl,hz⟩:=I.list hq;refine SeqAt.notIn_listAt (Bq x) pl.isList (fun w hw=>k7 rx fx r fs w (by simpa using hw)) ⟨.bl _,H,I,rfl,?_⟩
  rw[show its.toArray.any (Bq x)=its.any (Bq x) by simp,nW r fs]
  exact q
 ·obtain⟨its,r,pl,hz⟩:=I.tuple hq;refine SeqAt.notIn_tupleAt (Bq x) pl (fun w hw=>k7 rx fx r fs w (by simpa using hw)) ⟨.bl _,H,I,rfl,?_⟩
  rw[show its.toArray.any (Bq x)=its.any (Bq x) by simp,nW r fs]
  exact q
theorem xx:fg X (.builtin "len") (fun xs H Q=>∃ p ys,xs=[.ref p]/\(aL X.K H p ys\/aV X.K H p ys)/\Q (.int ys.length) H):=by
 intro pins s σ H xs us Q I r h;obtain⟨p,ys,rfl,hq,q⟩:=h;obtain⟨u,rfl,rx⟩:=vals1 r;cases rx;have hn:=sG;rcases hq with hq|hq
 ·obtain⟨its,r',pl,hz⟩:=I.list hq;have hlen:=r'.length;exact Calls.call_len_list pl.isList (by simp only[List.size_toArray]<;>lia) ⟨.int ys.length,H,I.tok _,⟨s.toks+1,by rw[List.size_toArray,hlen]⟩,q⟩
 ·obtain⟨its,r',pl,hz⟩:=I.tuple hq;have hlen:=r'.length;exact len_tuple pl (by simp only[List.size_toArray]<;>lia) ⟨.int ys.length,H,I.tok _,⟨s.toks+1,by rw[List.size_toArray,hlen]⟩,q⟩
theorem uU:fg X (.type "tuple") (fun xs H Q=>∃ p ys,xs=[.ref p]/\((aL X.K H p ys/\∀ l,H l=none->Q (.ref l) (upd H l (.tup ys)))\/(aV X.K H p ys/\Q (.ref p) H))):=by
 intro pins s σ H xs us Q I r h;obtain⟨p,ys,rfl,h⟩:=h;obtain⟨u,rfl,rx⟩:=vals1 r;cases rx;rcases h with⟨hq,q⟩|⟨hq,q⟩
 ·obtain⟨its,r',pl,hz⟩:=I.list hq;have hlen:=r'.length;refine call_tuple_list pl.isList (fun h' kp=>?_) (by simp only[List.size_toArray]<;>lia)
  have I1:Inv X pins σ H { s with heap:=h'}:=I.kept (t':=s.toks) kp
  have I2:Inv X pins σ (upd H h'.objs.size (.tup ys)) { s with heap:=h'.push { cls:=.type "tuple",data:=.seq its.toArray}} :=
   I1.laid (t':=s.toks) (fun b o e=>Heap.get?_push_of_some _ e) (Nat.le_refl _) (show bf X.prog X.w _ _ _ (.tup ys) from⟨hz,its,r',IsTup.new _ _⟩)
  exact⟨.ref h'.objs.size,_,I2,rfl,q _ (I1.hok.fresh (Nat.le_refl _))⟩
 ·obtain⟨its,r',pl,hz⟩:=I.tuple hq;exact call_tuple_same pl ⟨.ref p,H,I,rfl,q⟩
def SK(K:bJ)(T:String)(x:V)(H:Hp):Prop:=match x with
 | .str _=>T="str"
 | .int _=>T="int"
 | .ref p=>(T="list"/\∃ xs,aL K H p xs)\/(T="tuple"/\∃ o,K.lookup p=some o/\o.cls = .type "tuple"/\o.dict=none)\/
  (T="dict"/\((∃ kvs,H p=some (.dK kvs))\/∃ kvs,H p=some (.dT kvs)))\/(T="set"/\∃ S n,H p=some (.set S n))
 | _=>False
theorem GI{pins:aQ}{σ:St}{H:Hp}{s:Shared}{T:String}{x:V}{v:Value}(I:Inv X pins σ H s)(r:RelV x v)(ty:SK X.K T x H):
 s.TypeIs v T/\∀ a,v = .ref a->∃ ob,s.heap.get? a=some ob/\ob.dict=none:=by
 cases x with
 | str z =>
   obtain⟨t,rfl⟩:=r;cases(show T="str" from ty)
   exact⟨typeIs_str s z t,fun _ e=>nomatch e⟩
 | int i =>
   obtain⟨t,rfl⟩:=r;cases(show T="int" from ty)
   exact⟨typeIs_int s i t,fun _ e=>nomatch e⟩
 | ref p =>
   cases r;rcases ty with⟨rfl,xs,hq⟩|⟨rfl,o,hk,hc,hd⟩|⟨rfl,hk⟩|⟨rfl,S,n,hk⟩
   ·obtain⟨its,_,pl,_⟩:=I.list hq;refine⟨pl.isList.typeIs,fun a e=>?_⟩
    cases e;obtain⟨o,n,e,c,hd,_⟩:=pl;exact⟨o,e,hd⟩
   ·refine⟨⟨o,I.yU p o hk,hc⟩,fun a e=>?_⟩
    cases e;exact⟨o,I.yU _ o hk,hd⟩
   ·have z:∃ o,s.heap.get? p=some o/\o.ExactDict:=by
     rcases hk with⟨kvs,hk⟩|⟨kvs,hk⟩
     ·obtain⟨_,_,_,_,o,_,_,e,ex,_⟩:=I.hok p _ hk;exact⟨o,e,ex⟩
     ·obtain⟨_,_,_,_,o,_,_,e,ex,_⟩:=I.hok p _ hk;exact⟨o,e,ex⟩
    obtain⟨o,e,ex⟩:=z;refine⟨⟨o,e,ex.1⟩,fun a e2=>?_⟩
    cases e2;exact⟨o,e,ex.2.1⟩
   ·obtain⟨o,_,_,_,e,ex,_⟩:=I.hok p _ hk;refine⟨⟨o,e,ex.1⟩,fun a e2=>?_⟩
    cases e2;exact⟨o,e,ex.2.1⟩
 | _=>exact False.elim ty
def SM(K:bJ)(T:String)(r:V->List V->Hp->VK->Prop)(to:TE):TE:=fun σ H Q=>to σ H fun x H1=>SK K T x H1/\r x [] H1 Q
def SN(K:bJ)(T:String)(r:V->List V->Hp->VK->Prop)(to:TE)(t:TA):TE:=fun σ H Q=>to σ H fun x H1=>SK K T x H1/\t σ H1 fun xs H2=>r x xs H2 Q
variable {o e:Expr}{es:List Expr}{to:TE}{t:TA}{name:Str}{apos cpos:Pos}{T id:String}{r:V->List V->Hp->VK->Prop}
theorem GJ(pa:PlainAttrs T)(slot:Slot T name id)(hty:typeOf (.builtin id)=pure (.type "method_descriptor"))(hm:SJ X id r)(ho:PE X o to)
 (hbase:attributeBase o name X.env (eval o X.env)=eval o X.env:=by rfl) (hline:(apos.endLine==cpos.line)=true:=by rfl):PE X (.Call (.Attribute o name apos) [] [] cpos) (SM X.K T r to):=by
 intro pins s σ H Q I h;refine wpAny_Call_method0_late hbase hline (cT (ho pins s σ H _ I h) fun v s1 ⟨x,H1,I1,r1,ty,q1⟩=>?_)
 obtain⟨h1,h2⟩:=GI I1 r1 ty;exact⟨T,id,pa,slot,hty,h1,h2,Calls.callWith_builtin rfl (PySem.evalArgs_none (hm pins s1 σ H1 x [] v [] Q I1 r1 .nil q1))⟩
theorem kP(pa:PlainAttrs T)(slot:Slot T name id)(hty:typeOf (.builtin id)=pure (.type "method_descriptor"))(hm:SJ X id r)(ho:PE X o to)(ha:PA X (e::es) t)
 (hbase:attributeBase o name X.env (eval o X.env)=eval o X.env:=by rfl)
 (hfew:((backTo cpos (starEach (e::es) X.env)).all (fun x=>!x.1)&&(backToKw cpos (keywordEach [] X.env)).all (fun x=>x.1.isSome)
  && decide ((e::es).length+([]:List Keyword).length+(if([]:List Keyword).isEmpty then 0 else 1)<30))=true:=by rfl)
 (hline:(apos.endLine==cpos.line)=true:=by rfl) (hs:starEach (e::es) X.env=(false,eval e X.env)::starEach es X.env:=by rfl) (hplain:(backTo cpos (starEach es X.env)).any (·.1)=false:=by rfl) :
 PE X (.Call (.Attribute o name apos) (e::es) [] cpos) (SN X.K T r to t):=by
 intro pins s σ H Q I h;refine wpAny_Call_method_late hbase hfew hline rfl (cT (ho pins s σ H _ I h) fun v s1 ⟨x,H1,I1,r1,ty,q1⟩=>?_)
 obtain⟨h1,h2⟩:=GI I1 r1 ty;refine⟨T,id,pa,slot,hty,h1,h2,?_⟩;have hA:=ha cpos pins s1 σ H1 _ I1 q1;rw[hs]at hA ⊢;refine Calls.callWith_builtin (by show(false || (backTo cpos (starEach es X.env)).any (·.1))=false;rw[hplain]<;>rfl) (Calls.evalArgs_plain ?_)
 exact cT hA fun us s2 ⟨vs,H2,I2,r2,q2⟩=>hm pins s2 σ H2 x vs v us Q I2 r1 r2 q2
end
def UU(X:Cx)(id:String)(r:V->List V->Hp->VK->Prop):Prop :=
 ∀(pins:aQ) (s:Shared) (σ:St) (H:Hp) (x:V) (xs:List V) (v:Value) (us:List Value) (Q:VK),Inv X pins σ H s->RelV x v->Vals xs us->r x xs H Q->
  wpAny (model X.prog X.w) X.A (call (.builtin id) (v::us)) (EP X pins σ Q) X.xe s
theorem Vals.one:∀{x:V} {us:List Value},Vals [x] us->∃ u,us=[u]/\RelV x u
 | _,_,.cons r .nil=>⟨_,rfl,r⟩
theorem Vals.rep{xs:List V}{us:List Value}(h:Vals xs us):∀ k:Nat,Vals (List.replicate k xs).flatten (List.replicate k us).flatten
 | 0=>.nil
 | k+1=>by
   rw[List.replicate_succ,List.replicate_succ,List.flatten_cons,List.flatten_cons];exact Vals.append h (Vals.rep h k)
theorem foldl_rep(its:List Value):∀(k:Nat) (acc:List Value),
 List.foldl (fun x1 x2=>x1++x2) acc.toArray (List.replicate k its.toArray)=(acc++(List.replicate k its).flatten).toArray
 | 0,acc=>by simp
 | k+1,acc=>by
   have e:acc.toArray++its.toArray=(acc++its).toArray:=by simp
   have e2:(acc++its)++(List.replicate k its).flatten=acc++(List.replicate (k+1) its).flatten:=by
    rw[List.replicate_succ,List.flatten_cons,List.append_assoc]
   rw[<-e2,<-foldl_rep its k (acc++its),<-e,List.replicate_succ,List.foldl_cons]
section
variable {X:Cx}{pins:aQ}{σ:St}{H:Hp}{s:Shared}{l b:Addr}{xs ys zs:List V}
theorem Inv.Px{its its' : List Value}{n:Nat}{f:Array Value->Array Value}{t' : Nat}(I:Inv X pins σ H s)(hH:H l=some (.lst xs))
 (e:s.heap.get? l=some { cls:=.type "list",data:=.seq its.toArray n}) (hf:f its.toArray=its'.toArray) (hv:Vals ys its') (hz:ys.length<=sizeLine) :
 Inv X pins σ (upd H l (.lst ys)) { s with heap:=s.heap.update l (Obj.mapSeq f),toks:=t'}:=by
 have q:=PySem.IsL.update e f;rw[hf]at q;refine I.write (x:=l) (e:=l) (by rw[hH];exact trivial) (.inl rfl) (fun b' u hb hu=>(Heap.get?_update_other s.heap (Obj.mapSeq f) (Ne.symm hb)).trans hu) ⟨_,q⟩ ?_
 exact⟨hz,its',_,hv,q⟩
theorem Inv.Py{its:List Value}{t' : Nat}(I:Inv X pins σ H s)(hv:Vals ys its)(hz:ys.length<=sizeLine):
 Inv X pins σ (upd H s.heap.objs.size (.lst ys)) { s with heap:=s.heap.push { cls:=.type "list",data:=.seq its.toArray},toks:=t'} :=
 I.laid (fun _ _ q=>Heap.get?_push_of_some _ q) (Nat.le_refl _) ⟨hz,its,0,hv,Heap.get?_push_size _ rfl⟩
theorem Inv.fresh(I:Inv X pins σ H s):H s.heap.objs.size=none:=I.hok.fresh (Nat.le_refl _)
theorem Inv.Kc(I:Inv X pins σ H s)(hH:H l=some (.lst xs)):xs.length<=sizeLine/\∃(its:List Value) (n:Nat),Vals xs its/\xs.length=its.length/\s.heap.get? l=some { cls:=.type "list",data:=.seq its.toArray n}:=by
 obtain⟨z,its,n,r,e⟩:=I.hok l _ hH;exact⟨z,its,n,r,r.length,e⟩
theorem zf{n:Nat}(h:n<=sizeLine):Builtin.List.listTooLong n=false:=by
 unfold Builtin.List.listTooLong;exact decide_eq_false (by lia)
end
section
variable {X:Cx}
def Kd:V->List V->Hp->VK->Prop:=fun x vs H Q=>∃ l xs y,x = .ref l/\vs=[y]/\H l=some (.lst xs)/\xs.length<sizeLine/\Q .dR (upd H l (.lst (xs++[y])))
theorem cA:UU X "list.append" Kd:=by
 intro pins s σ H x vs v us Q I rx rv h;obtain⟨l,xs,y,rfl,rfl,hH,hz,q⟩:=h;cases rx;obtain⟨u,rfl,ru⟩:=rv.one;obtain⟨z,its,n,r,hl,e⟩:=I.Kc hH;refine call_meets F.slot_list_append ⟨_,e,rfl⟩ F.entry_list_append (F.args_list_append_2 _ _) (PySem.list_append l its.toArray n u (by rw[List.size_toArray];lia)) ⟨e,?_⟩
 refine⟨.dR,_,I.Px (its':=its++[u]) hH e (by simp) (r.append (.cons ru .nil)) ?_,rfl,q⟩
 rw[List.length_append,List.length_singleton]
 lia
def Ke:V->List V->Hp->VK->Prop:=fun x vs H Q=>∃ l b xs zs,x = .ref l/\vs=[.ref b]/\H l=some (.lst xs)/\H b=some (.lst zs)/\xs.length+zs.length<=sizeLine/\Q .dR (upd H l (.lst (xs++zs)))
theorem Ed:UU X "list.extend" Ke:=by
 intro pins s σ H x vs v us Q I rx rv h;obtain⟨l,b,xs,zs,rfl,rfl,hH,hB,hz,q⟩:=h;cases rx;obtain⟨u,rfl,ru⟩:=rv.one;cases ru;obtain⟨z,its,n,r,hl,e⟩:=I.Kc hH;obtain⟨z2,its2,n2,r2,hl2,e2⟩:=I.Kc hB;have hsz:its.toArray.size+its2.toArray.size<=sizeLine:=by rw[List.size_toArray,List.size_toArray];lia
 have GK : ¬(!its.toArray.isEmpty&&Builtin.List.listTooLong (its.toArray.size+its2.toArray.size))=true:=by
  rw[zf hsz,Bool.and_false];exact Bool.false_ne_true
 refine call_meets F.slot_list_extend ⟨_,e,rfl⟩ F.entry_list_extend (F.args_list_extend_2 _ _)
  (AutoSeq1.list_extend_list_list_0 l its.toArray n b its2.toArray n2 GK (by rw[List.size_toArray];lia) (by lia)) ⟨e,e2,?_⟩
 refine⟨.dR,_,I.Px (its':=its++its2) hH e (by simp) (r.append r2) ?_,rfl,q⟩
 rw[List.length_append]
 lia
def SO:R2:=fun x y H Q=>∃ l k xs,x = .ref l/\y = .int k/\H l=some (.lst xs)/\-(2^63)<=k/\k<2^63/\xs.length*k.toNat<=sizeLine/\
 ∀ p,H p=none->Q (.ref p) (upd H p (.lst (List.replicate k.toNat xs).flatten))
theorem len_rep{α:Type}(xs:List α)(k:Nat):(List.replicate k xs).flatten.length=k*xs.length:=by
 induction k with
 | zero=>simp
 | succ k ih=>rw[List.replicate_succ,List.flatten_cons,List.length_append,ih,Nat.succ_mul,Nat.add_comm]
theorem Br:jT X (binaryOp .Mult) SO:=by
 intro pins s σ H x y v u Q I rx ry h;obtain⟨l,k,xs,rfl,rfl,hH,h1,h2,hz,q⟩:=h;cases rx;obtain⟨t,rfl⟩:=ry;obtain⟨z,its,n,r,hl,e⟩:=I.Kc hH;have hlen:its.toArray.size*k.toNat<=sizeLine:=by rw[List.size_toArray,<-hl];exact hz
 have SQ : ¬ its.toArray.size*k.toNat > (2^63-1)/8:=by
  have:(sizeLine:Nat)<=(2^63-1)/8:=by decide
  lia
 have hfit : ¬(!Builtin.List.listFitsIndex k)=true:=by
  rw[fitsIndex_both h1 h2];exact Bool.false_ne_true
 have GK : ¬ Builtin.List.listTooLong (its.toArray.size*k.toNat)=true:=by
  rw[zf hlen];exact Bool.false_ne_true
 have hnew:List.foldl (fun x1 x2=>x1++x2) #[] (List.replicate (if its.toArray.isEmpty=true then 0 else k.toNat) its.toArray)=(List.replicate k.toNat its).flatten.toArray:=by
  have f0:∀ m:Nat,List.foldl (fun x1 x2=>x1++x2) #[] (List.replicate m its.toArray)=(List.replicate m its).flatten.toArray:=fun m=>by
   have:=foldl_rep its m [];rw[List.nil_append]at this;exact this
  rw[f0];cases its with
  | nil=>simp
  | cons a r'=>rw[if_neg (by simp)]
 refine wpAny_binaryOp_repeat_ref (T:="list") (U:="int") (by decide) ⟨_,e,rfl⟩ (fun s'=>typeIs_int s' k t) noFill_list_mul F.fills_int_mul F.slot_int_rmul repeat_list F.slot_int_index.lookup
  (call_meets F.slot_int_rmul (typeIs_int s k t) F.entry_int_rmul (F.args_int_rmul_2 _ _) (int___rmul___int_list k t l its.toArray n)
   ⟨e,rfl,⟨_,e,rfl⟩,call_meets F.slot_list_mul ⟨_,e,rfl⟩ F.entry_list_mul (F.args_list_mul_2 _ _) (AutoListH.list___mul___list_int_3 l its.toArray n k t hfit SQ GK) ⟨e,?_⟩⟩)
 rw[hnew];exact⟨.ref _,_,I.Py (t':=s.toks) (r.rep k.toNat) (by rw[len_rep,Nat.mul_comm];exact hz),rfl,q _ I.fresh⟩
end
end L2
namespace Att
open PySem PySem.W PySem.Calls PyProof.Rows
theorem rD{P:Params}{h:Heap}:∀(ns:List Int) (vs:List Value),WellAll P h vs (ns.map WData.int)->IntsAre vs ns:=by
 intro ns
 induction ns with
 | nil =>
   intro vs w;rw[List.map_nil]at w;cases w;exact .nil
 | cons n ns ih =>
   intro vs w;rw[List.map_cons]at w;cases w with
   | cons a b =>
     cases a;exact .cons _ _ (ih _ b)
theorem Ef{l:OpenLaw}{n:Nat}(hn:l.most=some n){P:Params}{h:Heap}{args:List WData}{vals:List Value}
 (hpre:l.row.toRowW.claim.pre args=true) (SR:WellAll P h vals args) :
 ∃ a vs ns,vals=[Value.ref a]/\args=[WData.list (ns.map WData.int)]/\h.get? a=some { cls:=.type "list",data:=.seq vs.toArray}/\IntsAre vs ns/\ns.length<=n:=by
 have hsh:WShape.hasAll [] args [.list .int]=true:=(pre_splitW hpre).1;have hc:l.pre.holds [] { args:=args}=true:=(pre_splitW hpre).2;obtain⟨d,r,rfl,h1,h2⟩:=hasAllW_cons hsh;obtain rfl:=hasAllW_nil h2;obtain⟨xs,rfl,h3⟩:=hasW_list h1;obtain⟨ns,rfl⟩:=items_int h3;have hlen:ns.length<=n:=by
  unfold OpenLaw.pre at hc;have h4:(WTm.not (.lt (.lit (.int (n:Int))) (.len (.arg 0)))).holds [] { args:=[.list (ns.map .int)]}=true:=by
   have h4:=(holds_andW hc).1;rw[hn]at h4;exact h4
  have h5:=condW_of h4 (w_not (w_lt w_lit (w_len_list (w_arg rfl))));rw[List.length_map]at h5;refine Nat.le_of_not_lt fun q=>?_
  have q' : (n:Int)<((ns.length:Nat):Int):=by lia
  first
   | (rw[decide_eq_true q']at h5;exact absurd h5 (by decide))
   | (simp at h5;lia)
 cases SR with
 | cons w1 w2 =>
   cases w2;cases w1 with
   | list ho hall=>exact⟨_,_,ns,rfl,rfl,ho,rD ns _ hall,hlen⟩
theorem Eg(l:OpenLaw)(args:List WData):l.row.toRowW.claim.post args (.bool true) args=true :=
 postW_of (r:=l.row.toRowW) (X:=(true==true))
  (show WShape.has [] (.bool true) .bool=true by first | rfl | decide | simp[WShape.has,WShape.arms,WShape.armsAll])
  (show(WTm.eq .res (.lit (.bool true))).value [] { args:=args,res:=some (.bool true),after:=args}=some (.bool (true==true)) from w_eq_bool (w_res rfl) w_lit) rfl
theorem zg{l:OpenLaw}{n:Nat}{q:Program}{loose:List Str}{XP:(Str->Option Value)->Heap->Prop}{YP:World->Heap->Prop}{d:DefRec}
 (hn:l.most=some n) (LI:d.params.defaults=[])
 (call:∀(w:World) (s₀ s₁:Shared) (mg mb:kU) (fa:Addr) (o:Obj) (pm cd doc:Value) (a:Addr) (vs:List Value) (ns:List Int),
  Ground q loose [] XP w s₀ mg mb s₁.heap->YP w s₁.heap->
  s₁.heap.get? fa=some o->o.data = .func (docDef d.name d.params d.body d.scope pm cd doc)->s₁.heap.CodeRec cd d.name->mg d.name=some (.ref fa)->
  s₁.heap.get? a=some { cls:=.type "list",data:=.seq vs.toArray}->IntsAre vs ns->ns.length<=n->s₁.gens = #[]->
  codeAny (model l.prog w) callerA (.call (.ref fa) ⟨[.ref a],[]⟩) (fun r s'=>r = .ok (.ret (.bool true))/\OldK s₁.heap s'.heap/\s'.os=s₁.os/\AllBare s'.gens) s₁) :
 WalkO q loose XP YP l.row.toRowW d [] (fun f vs=>PySem.call f vs):=by
 intro w s₀ s₁ mg mb G Y fa o pm cd doc dV kV ho hd hcd hD hmg hg args vals as hpre hlay hrd SR hlo;obtain rfl:dV = .none:=Dflts.none hD LI;obtain rfl:kV = .none:=Dflts.noKw hD;obtain⟨a,vs,ns,rfl,rfl,hobj,hints,hlen⟩:=Ef hn hpre SR;refine enter_call (codeAny_mono (call w s₀ s₁ mg mb fa o pm cd doc a vs ns G Y ho (fd_plain hd) hcd hmg hobj hints hlen hg) fun r s' hq=>?_)
 obtain⟨rfl,h2,h3,h4⟩:=hq;exact⟨.inl ⟨.bool true,.bool true,[],rfl,fun _=>rfl,.bool true,Eg l _,fun _=>⟨List.Pairwise.nil,fun _ hm=>(nomatch hm)⟩⟩,h2,h3,h4⟩
end Att
namespace L2
open PySem PySem.Spec PyProof.Rows
theorem vM:∀{vs:List Value} {ns:List Int},IntsAre vs ns->Vals (ns.map V.int) vs
 | _,_,.nil=>.nil
 | _,_,.cons n t h=>.cons ⟨t,rfl⟩ (vM h)
end L2
namespace L2
open PySem PySem.Spec PyProof.Rows
def dG(s:Stmt):Arguments:=match s with
 | .FunctionDef _ a _ _ _ _ _ _ _ _=>a
 | _=>{ posonlyargs:=[],args:=[],vararg:=none,kwonlyargs:=[],kw_defaults:=[],kwarg:=none,defaults:=[]}
def bV(s:Stmt):List Stmt:=match s with
 | .FunctionDef _ _ b _ _ _ _ _ _ _=>b
 | _=>[]
def ah(s:Stmt):Scope:=match s with
 | .FunctionDef _ _ _ _ _ _ sc _ _ _=>sc
 | _=>{ kind:=.function,names:=[],isGenerator:=false,isCoroutine:=false}
abbrev C8:F9:=fun _ _ _ _ _ _=>False
abbrev E0:XK:=fun _ _ _=>False
theorem aP{X:Cx}:Passes C8 X E0:=fun _ _ _ _ _ _ _ h=>h.elim
structure Kf(K:bJ)(x qual:Str)(st:Stmt)(f:Addr)(fd:FuncData):Prop where
 ex:∃(oc:Value) (od:Option Addr) (kV doc pm:Value) (an:Option Addr) (cdv ct:Value) (osl:Array (Option Value)),
  fd=PySem.W.fnOf x qual (dG st) (bV st) (ah st) .none kV doc pm an cdv ct/\K.lookup f=some ⟨oc,od,.func fd,osl⟩/\PySem.W.codeIn K cdv qual=true
 kp:PySem.W.keepIn K (.ref f)=true
section
variable {P:Program}{w:World}{K:bJ}{mg:kU}{base:Heap}
theorem Kf.ok{x qual:Str}{st:Stmt}{f:Addr}{fd:FuncData}{N ps:List Str}{k:Nat}{sp:Sp}(F:Kf K x qual st f fd)(S:aE N ps (ah st))(len:∀ vs H Q E,sp vs H Q E->vs.length=ps.length)
 (hbody:∀(cdv:Value) (A:Around) (outer:List Env) (s:Shared) (H:Hp) (vs:List V) (Q:VK) (E:XK),eM k (A.deeper (envOfC qual (ah st) s.heap.objs.size f cdv))->sp vs H Q E->
  ∃ t,vE (rB C8 P w K mg base N qual (ah st) f cdv A outer s H E).A9 (bV st) t/\t { nx:=fun _ H'=>Q .dR H',rt:=Q} (start N vs) H):k6 P w K mg base C8 (k+1) f fd ps sp:=by
 obtain⟨oc,od,kV,doc,pm,an,cdv,ct,osl,rfl,lk,hcd⟩:=F.ex;refine GC lk hcd S len fun A outer s H vs Q E hr rC=>?_
 obtain⟨t,h,q⟩:=hbody cdv A outer s H vs Q E hr rC;exact⟨t,h.A9,q⟩
theorem Kf.binds{x qual:Str}{st:Stmt}{f:Addr}{fd:FuncData}{ps:List Str}(F:Kf K x qual st f fd)
 (h:∀(kV doc pm:Value) (an:Option Addr) (cdv ct:Value) (us:List Value),us.length=ps.length->bindArgs (PySem.W.fnOf x qual (dG st) (bV st) (ah st) .none kV doc pm an cdv ct) ⟨us,[]⟩=pure (ps.zip us)):Binds K fd ps []:=by
 obtain⟨oc,od,kV,doc,pm,an,cdv,ct,osl,rfl,lk,hcd⟩:=F.ex;exact .all (h kV doc pm an cdv ct)
theorem MG{x qual:Str}{st:Stmt}{f:Addr}{oc:Value}{od an:Option Addr}{osl:Array (Option Value)}{kV doc pm cdv ct:Value}(l:K.lookup f=some ⟨oc,od,.func (PySem.W.fnOf x qual (dG st) (bV st) (ah st) .none kV doc pm an cdv ct),osl⟩)
 (c:PySem.W.codeIn K cdv qual=true) (k:PySem.W.keepIn K (.ref f)=true):Kf K x qual st f (PySem.W.fnOf x qual (dG st) (bV st) (ah st) .none kV doc pm an cdv ct):=⟨⟨oc,od,kV,doc,pm,an,cdv,ct,osl,rfl,l,c⟩,k⟩
end
theorem zh{A:Around}{k:Nat}(hr:eM k A):A.units+1<cLine:=Nat.lt_of_le_of_lt (Nat.add_le_add_left (by decide:1<=64) _) hr.units
theorem jI{n:Nat}(h:n<=1000):n<sizeLine:=Nat.lt_of_le_of_lt h (by decide)
section
variable {X:Cx}
theorem pv(i:Nat){x:Str}{pos:Pos}(hN:X.N[i]?=some x:=by rfl)(hv:Ry X.env.scope x:=by first | exact Or.inl rfl | exact Or.inr (Or.inl rfl) | exact Or.inr (Or.inr rfl))(hd:(x==("__debug__":Str))=false:=by decide)
 (hcd:(x==("__classdict__":Str))=false:=by decide):PE X (.Name x pos) (OZ i):=Ms hN hv hd hcd
end
theorem fQ{A B:Prop}(h:B):if false=true then A else B:=by
 rw[if_neg Bool.false_ne_true];exact h
theorem fV{A B:Prop}(h:A):if true=true then A else B:=by
 rw[if_pos rfl];exact h
theorem k8{c A B:Prop}[Decidable c](h1:c->A)(h2 : ¬ c->B):if c then A else B:=by
 by_cases h:c
 ·rw[if_pos h];exact h1 h
 ·rw[if_neg h];exact h2 h
theorem LJ{c A B:Prop}[Decidable c](hc:c)(h:B):if(!decide c)=true then A else B:=by
 rw[decide_eq_true hc];exact fQ h
def aq(H H' : Hp):Prop:=∀ b o,H b=some o->H' b=some o
theorem aq.refl(H:Hp):aq H H:=fun _ _ h=>h
theorem aq.trans{H H1 H2:Hp}(a:aq H H1)(b:aq H1 H2):aq H H2:=fun c o h=>b c o (a c o h)
theorem aq.free{H H' : Hp}(e:aq H H'){l:Addr}(h:H' l=Option.none):H l=Option.none:=by
 cases q:H l with
 | none=>rfl
 | some o =>
   rw[e l o q]at h;cases h
theorem aq.seq{K:bJ}{H H' : Hp}{a:Addr}{xs:List V}(e:aq H H')(h:aL K H a xs):aL K H' a xs:=by
 rcases h with(h|⟨o,h⟩) | h
 ·exact .inl (.inl (e _ _ h))
 ·exact .inl (.inr ⟨o,e _ _ h⟩)
 ·exact .inr h
def cM(cells:List (Str×Addr)):List (Str×NameKind)->List (Str×Addr)->List (Str×Addr)
 | [],cs=>cs
 | (n,k)::r,cs=>cM cells r (if(k==NameKind.free)=true then(n,(cells.lookup n).getD 0)::cs else cs)
theorem sJ{env:Env}{f:Str×NameKind->List (Str×Addr)->Sem (ForInStep (List (Str×Addr)))}
 (hf1:∀ n k cs c,(k==NameKind.free)=true->env.cells.lookup n=some c->f (n,k) cs=pure (.yield ((n,c)::cs)))
 (hf2:∀ n k cs,(k==NameKind.free)=false->f (n,k) cs=pure (.yield cs)) :
 ∀(names:List (Str×NameKind)) (cs:List (Str×Addr)),(∀ n k,(n,k)∈names->(k==NameKind.free)=true->∃ c,env.cells.lookup n=some c)->
  forIn names cs f=(pure (cM env.cells names cs):Sem (List (Str×Addr)))
 | [],cs,_=>by rw[List.forIn_nil];rfl
 | (n,k)::r,cs,h=>by
   have ih:=fun cs=>sJ hf1 hf2 r cs fun m j hm=>h m j (List.mem_cons_of_mem _ hm)
   rw[List.forIn_cons];cases e:(k==NameKind.free) with
   | true =>
     obtain⟨c,hc⟩:=h n k List.mem_cons_self e;rw[hf1 n k cs c e hc,pure_bind];show forIn r ((n,c)::cs) f=_;rw[ih]
     conv=>rhs;unfold cM
     rw[if_pos e,hc];rfl
   | false =>
     rw[hf2 n k cs e,pure_bind];show forIn r cs f=_;rw[ih]
     conv=>rhs;unfold cM
     rw[if_neg (by rw[e];exact Bool.false_ne_true)]
theorem nj{scope:Scope}{env:Env}(h:∀ n k,(n,k)∈scope.names->(k==NameKind.free)=true->∃ c,env.cells.lookup n=some c):closureFor scope env=pure (cM env.cells scope.names []):=by
 simp only[closureFor];rw[sJ (env:=env) ?_ ?_ scope.names [] h]
 ·rfl
 ·intro n k cs c e hc;show(if(k==NameKind.free)=true then _ else _)=_
  rw[if_pos e];unfold cellOf;rw[hc];rfl
 ·intro n k cs e;show(if(k==NameKind.free)=true then _ else _)=_
  rw[if_neg (by rw[e];exact Bool.false_ne_true)]
theorem iZ{cells:List (Str×Addr)}{x:Str}{c:Addr}:∀{names:List (Str×NameKind)} {cs:List (Str×Addr)},(cM cells names cs).lookup x=some c->cs.lookup x=some c\/((x,NameKind.free)∈names/\(cells.lookup x).getD 0=c)
 | [],cs,h=>.inl h
 | (n,k)::r,cs,h=>by
   unfold cM at h;rcases iZ h with q|⟨q1,q2⟩
   ·by_cases e:(k==NameKind.free)=true
    ·rw[if_pos e]at q
     by_cases hx:x=n
     ·subst hx;rw[List.lookup_cons_self]at q;have hk:k=NameKind.free:=eq_of_beq e;exact .inr ⟨by rw[hk];exact List.mem_cons_self,Option.some.inj q⟩
     ·have hb:(x==n)=false:=beq_eq_false_iff_ne.mpr hx;simp only[List.lookup_cons,hb]at q;exact .inl q
    ·rw[if_neg e]at q;exact .inl q
   ·exact .inr ⟨List.mem_cons_of_mem _ q1,q2⟩
theorem iF{cells:List (Str×Addr)}{x:Str}:∀{names:List (Str×NameKind)} {cs:List (Str×Addr)},((x,NameKind.free)∈names\/∃ c,cs.lookup x=some c)->∃ c,(cM cells names cs).lookup x=some c
 | [],cs,h=>by
   rcases h with h|h
   ·cases h
   ·exact h
 | (n,k)::r,cs,h=>by
   unfold cM;apply iF;rcases h with h|⟨c,h⟩
   ·rcases List.mem_cons.mp h with h|h
    ·cases h
     right
     rw[if_pos (by rfl)]
     exact⟨_,List.lookup_cons_self⟩
    ·exact .inl h
   ·right
    by_cases e:(k==NameKind.free)=true
    ·rw[if_pos e]
     by_cases hx:x=n
     ·subst hx;exact⟨_,List.lookup_cons_self⟩
     ·have hb:(x==n)=false:=beq_eq_false_iff_ne.mpr hx;exact⟨c,by simp only[List.lookup_cons,hb];exact h⟩
    ·rw[if_neg e];exact⟨c,h⟩
theorem jU{env:Env}{x:Str}{k:NameKind}:∀{names:List (Str×NameKind)},
 (names.map fun(n,k)=>if(k==NameKind.free&&env.scope.kind == .function&&env.kindOf n==some .cell) then(n,NameKind.cell) else(n,k)).lookup x=some k->
  ∃ k0,names.lookup x=some k0/\(k=k0\/(k0 = .free/\k = .cell))
 | [],h=>by cases h
 | (n,j)::r,h=>by
   have ih:=@jU env x k r
   replace h:List.lookup x ((if(j==NameKind.free&&env.scope.kind == .function&&env.kindOf n==some .cell)=true then(n,NameKind.cell) else(n,j))::_)=some k:=h
   cases hx:x==n with
   | true =>
     by_cases hc:(j==NameKind.free&&env.scope.kind == .function&&env.kindOf n==some .cell)=true
     ·rw[if_pos hc]at h;simp only[List.lookup_cons,hx]at h ⊢;have hj:j=NameKind.free:=by
       rw[Bool.and_eq_true,Bool.and_eq_true]at hc;exact eq_of_beq hc.1.1
      exact⟨j,rfl,.inr ⟨hj,(Option.some.inj h).symm⟩⟩
     ·rw[if_neg hc]at h;simp only[List.lookup_cons,hx]at h ⊢;exact⟨j,rfl,.inl (Option.some.inj h).symm⟩
   | false =>
     by_cases hc:(j==NameKind.free&&env.scope.kind == .function&&env.kindOf n==some .cell)=true
     ·rw[if_pos hc]at h;simp only[List.lookup_cons,hx]at h ⊢;exact ih h
     ·rw[if_neg hc]at h;simp only[List.lookup_cons,hx]at h ⊢;exact ih h
theorem nX{env:Env}{x:Str}:∀{names:List (Str×NameKind)},names.lookup x=some .free->
 (names.map fun(n,k)=>if(k==NameKind.free&&env.scope.kind == .function&&env.kindOf n==some .cell) then(n,NameKind.cell) else(n,k)).lookup x=some .cell\/
 (names.map fun(n,k)=>if(k==NameKind.free&&env.scope.kind == .function&&env.kindOf n==some .cell) then(n,NameKind.cell) else(n,k)).lookup x=some .free
 | [],h=>by cases h
 | (n,j)::r,h=>by
   have ih:=@nX env x r;show List.lookup x ((if(j==NameKind.free&&env.scope.kind == .function&&env.kindOf n==some .cell)=true then(n,NameKind.cell) else(n,j))::_)=_\/
    List.lookup x ((if(j==NameKind.free&&env.scope.kind == .function&&env.kindOf n==some .cell)=true then(n,NameKind.cell) else(n,j))::_)=_
   cases hx:x==n with
   | true =>
     simp only[List.lookup_cons,hx]at h;cases h
     by_cases hc:(NameKind.free==NameKind.free&&env.scope.kind == .function&&env.kindOf n==some .cell)=true
     ·rw[if_pos hc];simp only[List.lookup_cons,hx];exact .inl trivial
     ·rw[if_neg hc];simp only[List.lookup_cons,hx];exact .inr trivial
   | false =>
     simp only[List.lookup_cons,hx]at h
     by_cases hc:(j==NameKind.free&&env.scope.kind == .function&&env.kindOf n==some .cell)=true
     ·rw[if_pos hc];simp only[List.lookup_cons,hx];exact ih h
     ·rw[if_neg hc];simp only[List.lookup_cons,hx];exact ih h
def cN(X:Cx)(N:List Str)(scope:Scope)(xe:dh)(C:Addr)(s:Shared)(H:Hp)(fp:List Addr):Cx where
 prog:=X.prog
 w:=X.w
 K:=X.K
 mg:=X.mg
 base:=X.base
 A:=X.A
 N:=N
 s₀:=s
 H₀:=H
 env:=compEnvC scope (cM X.env.cells scope.names []) C X.env
 outer:=X.stack
 stack:=X.stack
 ex:=fp
 fn:=fun _=>false
 calm:=X.calm
 pn:=[]
 xe:=xe
def eN(σ:St)(js:List Nat):St:=js.map fun j=>(σ[j]?).getD none
structure c6(X:Cx)(scope:Scope)(own frees:List Str)(js:List Nat):Prop where
 kind:scope.kind = .function
 xy:∀ y∈scope.names,y.2≠.cell
 names:∀ y∈scope.names,y.2 = .local->scope.names.lookup y.1=some .local
 free:∀ y∈scope.names,y.2 = .free->X.env.scope.names.lookup y.1=some .cell\/X.env.scope.names.lookup y.1=some .free
 at_:js.map (fun j=>X.N[j]?)=frees.map some
 fr:∀ x∈frees,scope.names.lookup x=some .free
theorem sL{σ:St}{js:List Nat}{i:Nat}{v:V}(h:(eN σ js)[i]?=some (some v)):∃ j,js[i]?=some j/\σ[j]?=some (some v):=by
 unfold eN at h;rw[List.getElem?_map]at h;cases e:js[i]? with
 | none=>rw[e]at h;cases h
 | some j =>
   rw[e]at h;have h' : (σ[j]?).getD none=some v:=Option.some.inj h;refine⟨j,rfl,?_⟩;cases q:σ[j]? with
   | none=>rw[q]at h';cases h'
   | some o=>rw[q]at h';rw[show o=some v from h']
section
variable {X:Cx}
theorem fW{pins:aQ}{σ:St}{H:Hp}{s:Shared}{scope:Scope}{own frees:List Str}{js:List Nat}(I:Inv X pins σ H s)(T:c6 X scope own frees js):
 ∀ n k,(n,k)∈scope.names->(k==NameKind.free)=true->∃ c,X.env.cells.lookup n=some c:=fun n k hm e=>by
 have hk:k=NameKind.free:=eq_of_beq e;exact I.ok.has n (T.free (n,k) hm hk)
theorem GL{pins:aQ}{σ:St}{H:Hp}{s:Shared}{scope:Scope}{own frees:List Str}{js:List Nat}{fp:List Addr}{D C:Addr}{h1:Heap}{t1:Nat}{m:kU}{xe:dh}
 (I:Inv X pins σ H s) (T:c6 X scope own frees js) (hf:∀ b∈fp,ni X pins H b) (hfo:∀ b∈fp,∃ o,s.heap.get? b=some o) (hD:s.heap.objs.size<=D) (hC:s.heap.objs.size<=C) (hDC:D≠C)
 (old:∀ b o,s.heap.get? b=some o->h1.get? b=some o) (hl:h1.get? D=some { cls:=.type "list",data:=.seq ([]:List Value).toArray 0}) (hn:h1.Ns C m) :
 Inv (cN X (own++frees) scope xe C s H fp) [] (List.replicate own.length none++eN σ js) (upd H D (.lst [])) { s with heap:=h1,toks:=t1}:=by
 have cells:∀ x c,(cM X.env.cells scope.names []).lookup x=some c->X.env.cells.lookup x=some c:=fun x c h=>by
  rcases iZ h with q|⟨q1,q2⟩
  ·cases q
  ·obtain⟨c',hc'⟩:=fW I T x .free q1 rfl;rw[hc']at q2;rw[hc'];exact congrArg some q2
 have Pz:∀ b o,s.heap.get? b=some o->b<s.heap.objs.size:=fun b o e=>Heap.lt_size e
 have hcl:∀ x c,X.env.cells.lookup x=some c->c<s.heap.objs.size:=fun x c e=>by
  obtain⟨v,q⟩:=I.cell x c e;exact q.lt
 have Xj:∀ b∈frs X.stack,b<s.heap.objs.size:=fun b hb=>by
  obtain⟨_,o,ho,_⟩:=I.stack.mem hb;exact Heap.lt_size ho
 have Xk:H D=none:=I.hok.fresh hD;have MH:H C=none:=I.hok.fresh hC;refine⟨⟨I.ok.mod,T.kind,I.ok.glob,I.ok.blt,hC,fun x y c a b=>I.ok.inj x y c (cells x c a) (cells y c b),fun x hx=>?_,fun x c z _=>(nomatch z),I.ok.hd,I.ok.frames,.inl rfl,fun b hb=>⟨?_,fun x c e z=>?_⟩,
  fun b o e=>I.bs b o e,Nat.le_trans I.ok.JM I.sz,fun b o e hb=>?_,fun b hb z=>?_,I.stack,I.w9⟩,
  rfl,I.bare,Un.laid old hD Xk,⟨m,hn,fun i x v e1 e2 e3=>?_⟩,fun x c e=>?_,?_,fun x c e=>?_,fun p hp=>absurd (show p∈([]:aQ) from hp) (by simp),?_,?_⟩
 ·
  have hx:(relabel scope X.env).names.lookup x=some .cell\/(relabel scope X.env).names.lookup x=some .free:=hx;have Xl:(x,NameKind.free)∈scope.names:=by
   rcases hx with hx|hx
   ·obtain⟨k0,q,r⟩:=jU hx;have hm:=PySem.mem_of_lookup q;rcases r with r|⟨r,_⟩
    ·exact absurd r.symm (T.xy _ hm)
    ·rw[r]at hm;exact hm
   ·obtain⟨k0,q,r⟩:=jU hx;have hm:=PySem.mem_of_lookup q;rcases r with r|⟨_,r⟩
    ·rw[<-r]at hm;exact hm
    ·cases r
  exact iF (.inl Xl)
 ·
  obtain⟨o,ho⟩:=hfo b hb;exact Nat.ne_of_lt (Nat.lt_of_lt_of_le (Pz b o ho) hC)
 ·exact(hf b hb).2.2.2.2.1 x c (cells x c e) z
 ·
  obtain⟨_,_,_,f3,_,_⟩:=hf b hb;rcases f3 with z|z
  ·exact I.ok.Gn b o e z
  ·exact absurd (Nat.lt_of_lt_of_le (Heap.lt_size (I.ok.bs b o e).1) z) (Nat.lt_irrefl _)
 ·
  obtain⟨_,f1,f2,_⟩:=hf b hb;rcases List.mem_cons.mp (I.su b z) with q|q
  ·exact f1 q
  ·exact f2 q
 ·
  by_cases hi:i<own.length
  ·rw[List.getElem?_append_left (by simpa using hi),List.getElem?_replicate,if_pos hi]at e2
   cases e2
  ·rw[List.getElem?_append_right (by simpa using hi),List.length_replicate]at e2
   replace e1:(own++frees)[i]?=some x:=e1
   rw[List.getElem?_append_right (by lia)]at e1
   obtain⟨j,hj,hσ⟩:=sL e2;have hN:X.N[j]?=some x:=by
    have q:=congrArg (fun l=>l[i-own.length]?) T.at_
    simp only[List.getElem?_map,hj,e1,Option.map_some]at q;exact Option.some.inj q
   have hfx:=T.fr x (List.mem_of_getElem? e1);have hm:=PySem.mem_of_lookup hfx;have hk:=T.free (x,.free) hm rfl;obtain⟨m0,hn0,C9⟩:=I.loc;obtain⟨u,r,l⟩:=C9 j x v hN hσ (by rcases hk with k|k;exact .inr (.inl k);exact .inr (.inr k))
   refine⟨u,r,.inr ⟨nX hfx,?_⟩⟩;rcases l with⟨l6,_⟩|⟨_,c,hc,hcell⟩
   ·have l6:X.env.scope.names.lookup x=some .local:=l6;rcases hk with k|k<;>(rw[l6]at k;cases k)
   ·obtain⟨c',hc'⟩:=iF (cells:=X.env.cells) (names:=scope.names) (cs:=[]) (x:=x) (.inl hm);have q:=cells x c' hc';rw[hc]at q;cases q;exact⟨c,hc',hcell.keeps old⟩
 ·
  obtain⟨v,q⟩:=I.cell x c (cells x c e);exact⟨v,q.keeps old⟩
 ·
  show upd H D (.lst []) C=none;rw[aj (Ne.symm hDC)];exact MH
 ·show upd H D (.lst []) c=none;have e:=cells x c e;rw[aj (Nat.ne_of_lt (Nat.lt_of_lt_of_le (hcl x c e) hD))];exact I.eR x c e
 ·exact I.hok.laid old hD ⟨Nat.zero_le _,[],0,.nil,hl⟩
 ·show _=(own++frees).length;have q:=congrArg List.length T.at_;rw[List.length_map,List.length_map]at q;rw[List.length_append,List.length_append,List.length_replicate];unfold eN;rw[List.length_map,q]
theorem m3{pins:aQ}{σ σ' : St}{H H' : Hp}{s s' : Shared}{scope:Scope}{N:List Str}{fp:List Addr}{C:Addr}{h' : Heap}{xe:dh}
 (I:Inv X pins σ H s) (hf:∀ b∈fp,ni X pins H b) (hC:s.heap.objs.size<=C) (J:Inv (cN X N scope xe C s H fp) [] σ' H' s') (sb:Heap.SameBut C s'.heap h'):Inv X pins σ H' { s' with heap:=h'}:=by
 have MH:H' C=none:=J.free;refine I.Gp (ch:=fp) J.os ?_ ?_ J.bare (fun b hb=>?_)
 ·have u:Un (frs X.stack) fp H H' s.heap s'.heap:=J.base;have ne:∀ b o,s.heap.get? b=some o->b≠C:=fun b o e=>Nat.ne_of_lt (Nat.lt_of_lt_of_le (Heap.lt_size e) hC)
  refine⟨fun b o e n hb hx=>(sb.2 b (ne b o e)).trans (u.keep b o e n hb hx),fun b o e n hb hx=>?_,u.free,fun b o e hx=>?_,u.tups,u.jS,u.kX⟩
  ·obtain⟨sl,q⟩:=u.slot b o e n hb hx;exact⟨sl,(sb.2 b (ne b o e)).trans q⟩
  ·obtain⟨o',q⟩:=u.there b o e hx;exact⟨o',(sb.2 b (ne b o e)).trans q⟩
 ·intro b ob e;refine(J.hok b ob e).stay (fun c w' hc q=>(sb.2 c ?_).trans q) (fun _ q=>q) fun _ _ q=>q
  rintro rfl;rcases hc with rfl|hc
  ·rw[MH]at e;cases e
  ·rw[MH]at hc;cases hc
 ·obtain⟨_,f1,_,f3,f4,f5⟩:=hf b hb;exact⟨f3,f1,f4,f5⟩
end
section
variable {prog:Program}{w:World}{A:Around}{R:Result->Shared->Prop}{s:Shared}
abbrev Dd(ifs:List Expr)(env:Env):Sem Bool:=forIn ifs true fun c r=>if r=true then do let ok←isTrue c env (eval c env);pure (ForInStep.yield ok) else pure (ForInStep.yield r)
theorem xA{elt target iter:Expr}{ifs:List Expr}{scope:Scope}{pos:Pos}{it acc:Value}{env:Env}(I:Nat->Shared->Prop)
 (turn:∀ n s,I n s->wpAny (model prog w) A (pyNext it) (fun r s₁=>match r with
  | none=>R (.ok .next) s₁
  | some v=>wpAny (model prog w) A (letOwnedTupleGo target it v) (fun _ s₀=>wpAny (model prog w) A (assign target env v) (fun _ s₂ =>
   wpAny (model prog w) A (Dd ifs env) (fun ok s₃ =>
    if ok=true then wpAny (model prog w) A (eval elt env) (fun x s₄ =>
     wpAny (model prog w) A (call (.builtin "list.append") [acc,x]) (fun _ s₅=>∃ m,m<n/\I m s₅) (notedBy (model prog w) A env fun e s'=>R (.error e) s') s₄) (notedBy (model prog w) A env fun e s'=>R (.error e) s') s₃
    else ∃ m,m<n/\I m s₃) (notedBy (model prog w) A env fun e s'=>R (.error e) s') s₂) (notedBy (model prog w) A env fun e s'=>R (.error e) s') s₀) (notedBy (model prog w) A env fun e s'=>R (.error e) s') s₁) (notedBy (model prog w) A env fun e s'=>R (.error e) s') s)
 (n:Nat) (h:I n s) :
 codeAny (model prog w) A (.compLoop (.ListComp elt [⟨target,iter,ifs,0⟩] scope pos) 0 it acc env) R s:=by
 refine codeAny_loop rfl I (fun n s hI=>?_) n h
 show wpAny _ A ((compTurn (.ListComp elt [⟨target,iter,ifs,0⟩] scope pos) 0 it acc env).onRaise (fun x=>do noteFrame x env;theTreesLotGoes x)) _ _ s
 refine wpAny_noted ?_;rw[compTurn_list];refine wpAny_bind (wpAny_standAt (wpAny_bind (wpAny_mono (turn n s hI) (fun r s₁ h₁=>?_) fun _ _ h'=>h')))
 cases r with
 | none=>exact wpAny_pure h₁
 | some v =>
   refine wpAny_bind (wpAny_mono h₁ (fun _ s₀ h₀=>?_) fun _ _ h'=>h')
   refine wpAny_bind (wpAny_mono h₀ (fun _ s₂ h₂=>wpAny_bind (wpAny_mono h₂ (fun ok s₃ h₃=>?_) fun _ _ h'=>h')) fun _ _ h'=>h')
   cases ok with
   | false=>exact wpAny_pure ⟨rfl,h₃⟩
   | true =>
     exact wpAny_bind (wpAny_bind (wpAny_mono h₃ (fun x s₄ h₄=>wpAny_bind (wpAny_mono h₄ (fun _ s₅ h₅=>wpAny_pure (wpAny_pure ⟨rfl,h₅⟩)) fun _ _ h'=>h')) fun _ _ h'=>h'))
end
def PB(X:Cx)(ifs:List Expr)(t:TT):Prop :=
 ∀(pins:aQ) (s:Shared) (σ:St) (H:Hp) (Q:Bool->Hp->Prop),Inv X pins σ H s->t σ H Q->wpAny (model X.prog X.w) X.A (Dd ifs X.env) (TP X pins σ Q) X.xe s
def PC:TT:=fun _ H Q=>Q true H
theorem bK{X:Cx}:PB X [] PC:=fun _ _ _ H _ I h=>wpAny_tests_nil ⟨H,I,h⟩
theorem dU{X:Cx}{c:Expr}{t:TT}(h:PT X c t):PB X [c] t:=fun pins s σ H Q I q=>wpAny_tests_one (h pins s σ H Q I q)
def iG(J:It)(g:TG)(tt:TT)(te:TE)(n:Nat)(fr:St)(D:Addr)(Q:Hp->Prop)(H1:Hp):Prop :=
 ∃ W:Nat->Nat->List V->Hp->Prop,(∃ m,W 0 m [] H1)/\∀ i m acc H,W i m acc H->H D=some (.lst acc)/\
   ((J.stop i H/\Q H)\/(J.go i H/\acc.length<sizeLine/\∃ N:List V->Hp->Prop,(∀ acc' H',N acc' H'->∃ m',m'<m/\W (i+1) m' acc' H')/\
     ∀ x H',J.JA i H x H'->g x (List.replicate n none++fr) H' fun σ2 H2=>σ2.drop n=fr/\tt σ2 H2 fun b H3 =>
     if b=true then te σ2 H3 fun v H4=>H4 D=some (.lst acc)/\N (acc++[v]) (upd H4 D (.lst (acc++[v])))
     else N acc H3))
def LK(wi:TI)(g:TG)(tt:TT)(te:TE)(n:Nat)(js:List Nat):TE:=fun σ H Q=>wi σ H fun J H1=>∀ D,H1 D=none->iG J g tt te n (eN σ js) D (fun H2=>Q (.ref D) H2) (upd H1 D (.lst []))
structure LL(A:Around)(cm:Bool)(P:Program)(w:World)(K:bJ)(tg:Expr)(J:It)(fp:List Addr)(it:Addr)(tn:Nat->Heap->Prop):Prop where
 mem:it∈fp
 obj:∀ i h,tn i h->∀ b∈fp,∃ o,h.get? b=some o/\∀ v,o.data≠.cell v
 keep:∀ i h h',tn i h->(∀ b∈fp,∀ o,h.get? b=some o->h'.get? b=some o)->tn i h'
 item:∀(X:Cx),X.prog=P->X.w=w->X.K=K->X.A=A->X.calm=cm->∀(i:Nat) (pins:aQ) (s:Shared) (σ:St) (H:Hp) (E:dh),Inv X pins σ H s->(∀ b∈fp,ni X pins H b)->tn i s.heap->J.go i H->
  wpAny (model P w) X.A (pyNext (.ref it)) (fun r s1=>∃ u,r=some u/\
   wpAny (model P w) X.A (letOwnedTupleGo tg (.ref it) u) (fun _ s2=>∃ x H',Inv X pins σ H' s2/\RelV x u/\J.JA i H x H'/\tn (i+1) s2.heap/\∀ b∈fp,H' b=none) E s1) E s
 done:∀(X:Cx),X.prog=P->X.w=w->X.K=K->X.A=A->X.calm=cm->∀(i:Nat) (pins:aQ) (s:Shared) (σ:St) (H:Hp) (E:dh),Inv X pins σ H s->(∀ b∈fp,ni X pins H b)->tn i s.heap->J.stop i H->
  wpAny (model P w) X.A (pyNext (.ref it)) (fun r s1=>r=none/\Inv X pins σ H s1) E s
 self:∀(A:Around) (i:Nat) (s:Shared) (Q:dh) (E:dh),tn i s.heap->Q (.ref it) s->wpAny (model P w) A (pyIter (.ref it)) Q E s
theorem Turn.x{A:Around}{cm:Bool}{P:Program}{w:World}{K:bJ}{tg:Expr}{J:It}{fp:List Addr}{it:Addr}{tn:Nat->Heap->Prop}(T:Turn P w K tg J fp it tn)(hc:cm=true):LL A cm P w K tg J fp it tn :=
 ⟨T.mem,T.obj,T.keep,fun X a b c _ d=>T.item X a b c (d.trans hc),fun X a b c _ d=>T.done X a b c (d.trans hc),T.self⟩
section
variable {X:Cx}{elt iter tg:Expr}{ifs:List Expr}{scope:Scope}{pos:Pos}{own frees:List Str}{js:List Nat}{wi:TI}{g:TG}{tt:TT}{te:TE}
theorem sM{pins:aQ}{σ:St}{H2:Hp}{s2:Shared}{it:Addr}{fp:List Addr}{tn:Nat->Heap->Prop}{J:It}{E:dh}{RR:Value->Addr->Result->Shared->Prop}{QQ:Addr->Hp->Prop}
 (T:c6 X scope own frees js)
 (hg:∀ C s H fp,PG (cN X (own++frees) scope (fun _ _=>False) C s H fp) tg g)
 (ht:∀ C s H fp,PB (cN X (own++frees) scope (fun _ _=>False) C s H fp) ifs tt)
 (he:∀ C s H fp,PE (cN X (own++frees) scope (fun _ _=>False) C s H fp) elt te)
 (I2:Inv X pins σ H2 s2) (Gd:LL X.A X.calm X.prog X.w X.K tg J fp it tn) (st2:tn 0 s2.heap) (f2:∀ b∈fp,ni X pins H2 b)
 (hl:∀ D,H2 D=none->iG J g tt te own.length (eN σ js) D (QQ D) (upd H2 D (.lst [])))
 (hRR:∀ D C σ' H' s',s2.heap.objs.size<=C->Inv (cN X (own++frees) scope (fun _ _=>False) C s2 H2 fp) [] σ' H' s'->QQ D H'->RR (.ref D) C (.ok .next) s') :
 wpAny (model X.prog X.w) X.A (newList []) (fun acc s₃=>wpAny (model X.prog X.w) X.A (newFunctionEnv scope X.env.globals (cM X.env.cells scope.names []) [] X.env.qual none .none (some X.env)) (fun cenv s₄ =>
  codeAny (model X.prog X.w) X.A (.compStart (.ListComp elt [⟨tg,iter,ifs,0⟩] scope pos) 0 (.ref it) acc { cenv with scope:=relabel scope X.env}) (RR acc cenv.locals) s₄) E s₃) E s2:=by
 refine wpAny_newObj_type (wpAny_newFunctionEnv T.xy (by intro y hy;simp at hy) (fun h₁ MI Kg=>?_) T.kind)
 dsimp only at MI Kg ⊢;generalize Kh:s2.heap.push { cls:=.type "list",dict:=none,data:=.seq ([]:List Value).toArray}=G2 at MI Kg ⊢;have hC:G2.objs.size=s2.heap.objs.size+1:=by rw[<-Kh,Heap.size_push]
 have hDC:s2.heap.objs.size≠G2.objs.size:=by rw[hC];exact Nat.ne_of_lt (Nat.lt_succ_self _)
 have PD:s2.heap.objs.size<=G2.objs.size:=by rw[hC];exact Nat.le_succ _
 have below:∀ b,b<s2.heap.objs.size->b≠G2.objs.size:=fun b hb=>by rw[hC];exact Nat.ne_of_lt (Nat.lt_succ_of_lt hb)
 have old:∀ b o,s2.heap.get? b=some o->h₁.get? b=some o:=fun b o e=>Kg.extBut b o (below b (Heap.lt_size e)) (Heap.get?_push_of_some _ (Kh▸Heap.get?_push_of_some _ e))
 have hacc:h₁.get? s2.heap.objs.size=some { cls:=.type "list",data:=.seq ([]:List Value).toArray 0}:=Kg.extBut _ _ hDC (Heap.get?_push_of_some _ (Kh▸Heap.get?_push_size _ rfl));have SS:∀ b∈fp,∃ o,s2.heap.get? b=some o:=fun b hb=>let⟨o,e,_⟩:=Gd.obj _ _ st2 b hb;⟨o,e⟩
 have st1:tn 0 h₁:=Gd.keep _ _ _ st2 fun b _ o e=>old b o e
 obtain⟨W,⟨m0,w0⟩,turn⟩:=hl s2.heap.objs.size (I2.hok.fresh (Nat.le_refl _));have hfx:∀{H' : Hp},(∀ b∈fp,H' b=none)->∀ b∈fp,ni (cN X (own++frees) scope (fun _ _=>False) G2.objs.size s2 H2 fp) [] H' b:=fun {H'} hn b hb=>by
  obtain⟨_,f1,Xm,_,f4,_⟩:=f2 b hb;obtain⟨o,ho⟩:=SS b hb;refine⟨hn b hb,below b (Heap.lt_size ho),fun z=>?_,.inl hb,fun x c e=>?_,fun p hp=>absurd (show p∈([]:aQ) from hp) (by simp)⟩
  ·rcases List.mem_cons.mp (I2.su b z) with q|q
   ·exact f1 q
   ·exact Xm q
  ·rcases iZ (show(cM X.env.cells scope.names []).lookup x=some c from e) with q|⟨q1,q2⟩
   ·cases q
   ·obtain⟨c',hc'⟩:=fW I2 T x .free q1 rfl;rw[hc']at q2;have q2:c' = c:=q2;rw[<-q2];exact f4 x c' hc'
 have Xn:∀ b∈fp,upd H2 s2.heap.objs.size (.lst []) b=none:=fun b hb=>by
  obtain⟨o,ho⟩:=SS b hb;rw[aj (Nat.ne_of_lt (Heap.lt_size ho))];exact(f2 b hb).1
 have back:∀{σ6:St} {p6:aQ} {H6:Hp} {s6:Shared},Inv (cN X (own++frees) scope (fun _ _=>False) G2.objs.size s2 H2 fp) p6 σ6 H6 s6->σ6.drop own.length=eN σ js->
  Inv (cN X (own++frees) scope (fun _ _=>False) G2.objs.size s2 H2 fp) [] (List.replicate own.length none++eN σ js) H6 s6:=fun {σ6 p6 H6 s6} I6 hd=>by
  have Xo:σ6.length=(own++frees).length:=I6.len;have J6:=I6.fC (CT:=[]) fun p hp=>absurd hp (by simp)
  refine J6.weak ?_ fun i v e=>?_
  ·have q:=congrArg List.length hd;rw[List.length_drop]at q;rw[List.length_append]at Xo;rw[List.length_append,List.length_replicate]
   lia
  ·by_cases hi:i<own.length
   ·rw[List.getElem?_append_left (by simpa using hi),List.getElem?_replicate,if_pos hi]at e
    cases e
   ·rw[List.getElem?_append_right (by simpa using hi),List.length_replicate,<-hd,List.getElem?_drop]at e
    rw[show own.length+(i-own.length)=i by lia]at e
    exact e
 have loop:∀ s₃:Shared,s₃={ s2 with heap:=h₁,toks:=s2.toks+([]:List (Str×Value)).length}->
  codeAny (model X.prog X.w) X.A (.compLoop (.ListComp elt [⟨tg,iter,ifs,0⟩] scope pos) 0 (.ref it) (.ref s2.heap.objs.size) (compEnvC scope (cM X.env.cells scope.names []) G2.objs.size X.env))
   (RR (.ref s2.heap.objs.size) G2.objs.size) s₃:=by
  rintro s₃ rfl;refine xA (fun n s'=>∃ i acc H',Inv (cN X (own++frees) scope (fun _ _=>False) G2.objs.size s2 H2 fp) [] (List.replicate own.length none++eN σ js) H' s'/\tn i s'.heap/\(∀ b∈fp,H' b=none)/\W i n acc H') ?_ m0
   ⟨0,[],upd H2 s2.heap.objs.size (.lst []),GL I2 T f2 SS (Nat.le_refl _) PD hDC old hacc MI,st1,Xn,w0⟩
  rintro n s3 ⟨i,acc,H3,I3,st3,LC,w3⟩;obtain⟨nY,PF⟩:=turn i n acc H3 w3;rcases PF with⟨stop,qn⟩|⟨go,hz,NN,UW,step⟩
  ·refine wpAny_mono (Gd.done (cN X (own++frees) scope (fun _ _=>False) G2.objs.size s2 H2 fp) rfl rfl rfl rfl rfl i [] s3 _ H3 (fun _ _=>False) I3 (hfx LC) st3 stop) (fun r s4 ⟨hr,I4⟩=>?_) fun _ _ z=>z.elim
   subst hr;exact hRR _ _ _ H3 s4 PD I4 qn
  ·refine wpAny_mono (Gd.item (cN X (own++frees) scope (fun _ _=>False) G2.objs.size s2 H2 fp) rfl rfl rfl rfl rfl i [] s3 _ H3 (fun _ _=>False) I3 (hfx LC) st3 go) (fun r s4 ⟨u,hr,h4⟩=>?_) fun _ _ z=>z.elim
   subst hr;refine wpAny_mono h4 (fun _ s5 ⟨x,H5,I5,r5,y5,Gv,Pb⟩=>?_) fun _ _ z=>z.elim
   have Pc:=I5.pinned (hfx Pb) (Gd.obj _ _ Gv);refine wpAny_mono (hg _ _ _ _ _ s5 _ H5 x u _ Pc r5 (step x H5 y5)) (fun _ s6 ⟨σ6,H6,I6,UX,q6⟩=>?_) fun _ _ z=>z.elim
   refine wpAny_mono (ht _ _ _ _ _ s6 σ6 H6 _ I6 q6) (fun ok s7 ⟨H7,I7,q7⟩=>?_) fun _ _ z=>z.elim
   have again:∀{H8:Hp} {s8:Shared},Inv (cN X (own++frees) scope (fun _ _=>False) G2.objs.size s2 H2 fp) ([]++pB fp s5.heap) σ6 H8 s8->tn (i+1) s8.heap/\∀ b∈fp,H8 b=none:=fun {H8 s8} I8=>by
    refine⟨Gd.keep _ _ _ Gv fun b hb o e=>(I8.pin (b,o) (List.mem_append_right _ (List.mem_append_right _ (fT hb e)))).1,fun b hb=>?_⟩
    obtain⟨o,e,d⟩:=Gd.obj _ _ Gv b hb;exact(I8.pin (b,o) (List.mem_append_right _ (List.mem_append_right _ (fT hb e)))).2.1
   cases ok with
   | false =>
     rw[if_neg Bool.false_ne_true];obtain⟨m',hm,w7⟩:=UW _ _ q7;obtain⟨t7,n7⟩:=again I7;exact⟨m',hm,i+1,acc,H7,back I7 UX,t7,n7,w7⟩
   | true =>
     rw[if_pos rfl];refine wpAny_mono (he _ _ _ _ _ s7 σ6 H7 _ I7 q7) (fun xv s8 ⟨v,H8,I8,r8,MJ,q8⟩=>?_) fun _ _ z=>z.elim
     obtain⟨m',hm,w8⟩:=UW _ _ q8;refine wpAny_mono (cA (X:=cN X (own++frees) scope (fun _ _=>False) G2.objs.size s2 H2 fp) _ s8 σ6 H8 (.ref s2.heap.objs.size) [v] (.ref s2.heap.objs.size) [xv] (fun y H9=>y = .dR/\H9=upd H8 s2.heap.objs.size (.lst (acc++[v]))) I8 rfl (.cons r8 .nil) ⟨_,acc,v,rfl,rfl,MJ,hz,rfl,rfl⟩)
      (fun _ s9 ⟨y,H9,I9,_,_,e9⟩=>?_) fun _ _ z=>z.elim
     subst e9;obtain⟨t9,n9⟩:=again I9;exact⟨m',hm,i+1,acc++[v],_,back I9 UX,t9,n9,w8⟩
 exact codeAny_compStart_list (loop _ rfl) (Gd.self _ 0 _ _ _ st1 (loop _ rfl))
theorem bj(T:c6 X scope own frees js)(hc:X.calm=true)(hi:PI X tg iter wi)
 (hg:∀ C s H fp,PG (cN X (own++frees) scope (fun _ _=>False) C s H fp) tg g)
 (ht:∀ C s H fp,PB (cN X (own++frees) scope (fun _ _=>False) C s H fp) ifs tt)
 (he:∀ C s H fp,PE (cN X (own++frees) scope (fun _ _=>False) C s H fp) elt te)
 (hs:∀ x,foldedSetIterable iter X.env x=pure x:=by intro _;rfl) :
 PE X (.ListComp elt [⟨tg,iter,ifs,0⟩] scope pos) (LK wi g tt te own.length js):=by
 intro pins s σ H Q I h;rw[eval_ListComp];refine wpAny_comprehension_free (use:=none) rfl hs (nj (fW I T)) T.kind T.names ?_;refine wpAny_mono (hi pins s σ H _ I h) (fun v s1 h1=>wpAny_mono h1 (fun itv s2 h2=>?_) fun _ _ z=>z) fun _ _ z=>z
 obtain⟨it,fp,tn,J,H2,e,I2,Gd,st2,f2,hl⟩:=h2;subst e;refine sM (QQ:=fun D H'=>Q (.ref D) H') T hg ht he I2 (Gd.x hc) st2 f2 hl fun D C σ' H' s' hC J' q=>?_
 obtain⟨m,hn,_⟩:=J'.loc;exact⟨m,hn,fun h' sb=>⟨.ref D,H',m3 I2 f2 hC J' sb,rfl,q⟩⟩
def GN(i:Nat)(wi:TI)(g:TG)(tt:TT)(te:TE)(n:Nat)(js:List Nat):TS:=fun D σ H=>LK wi g tt te n js σ H fun v H1=>D.nx (σ.set i (some v)) H1
theorem g9{i:Nat}{x:Str}{pos' spos:Pos}(hN:X.N.Nodup)(hix:X.N[i]?=some x)(hx:X.env.scope.names.lookup x=some .local)(T:c6 X scope own frees js)(hc:X.calm=true)(hi:PI X tg iter wi)
 (hg:∀ C s H fp,PG (cN X (own++frees) scope (fun _ _=>False) C s H fp) tg g)
 (ht:∀ C s H fp,PB (cN X (own++frees) scope (fun _ _=>False) C s H fp) ifs tt)
 (he:∀ C s H fp,PE (cN X (own++frees) scope (fun _ _=>False) C s H fp) elt te)
 (hsw:swapsWith (.ListComp elt [⟨tg,iter,ifs,0⟩] scope pos) (some (.Name x pos')) spos.line X.env=pure true:=by rfl)
 (hs:∀ x,foldedSetIterable iter X.env x=pure x:=by intro _;rfl) :
 PS X (.Assign [.Name x pos'] (.ListComp elt [⟨tg,iter,ifs,0⟩] scope pos) spos) (GN i wi g tt te own.length js):=by
 intro pins s σ H D I h;rw[exec_Assign_Name_used _ _ _ _ hsw];refine wpAny_bind (wpAny_standAt (wpAny_bind ?_));show wpAny _ X.A (do let _←comprehension (.ListComp elt [⟨tg,iter,ifs,0⟩] scope pos) scope X.env _ (newList []) false (eval iter X.env) (some (assign (.Name x pos') X.env))) _ _ s
 refine wpAny_bind (wpAny_mono (wpAny_comprehension_free (use:=some (assign (.Name x pos') X.env)) (Q:=fun _ s'=>SP X pins D .next s') rfl hs (nj (fW I T)) T.kind T.names ?_) (fun _ s' hq=>wpAny_pure (wpAny_pure hq)) fun _ _ e=>e)
 refine wpAny_mono (hi pins s σ H _ I h) (fun v s1 h1=>wpAny_mono h1 (fun itv s2 h2=>?_) fun _ _ z=>z) fun _ _ z=>z
 obtain⟨it,fp,tn,J,H2,e,I2,Gd,st2,f2,hl⟩:=h2;subst e;refine sM (QQ:=fun D' H'=>D.nx (σ.set i (some (.ref D'))) H') T hg ht he I2 (Gd.x hc) st2 f2 hl fun D' C σ' H' s' hC J' q=>?_
 have I3:Inv X pins σ H' s':=by
  obtain⟨hh,gg,dd,tt',oo⟩:=s';exact m3 I2 f2 hC J' (Heap.SameBut.refl ..)
 obtain⟨m,hn,_⟩:=J'.loc;obtain⟨oC,es,ep,Xp,UY,rest⟩:=id hn;have MH:H' C=none:=J'.free;have UZ:C≠X.env.locals:=Nat.ne_of_gt (Nat.lt_of_lt_of_le I2.lt hC);have Xq:C∉X.fs:=fun z=>by
  obtain⟨_,o,ho,_⟩:=I2.funs.mem z;exact absurd (Nat.lt_of_lt_of_le (Heap.lt_size ho) hC) (Nat.lt_irrefl _)
 have I4:Inv X (pins++[(C,oC)]) σ H' s':=I3.fC fun p hp=>(List.mem_append.mp hp).elim (fun z=>I3.pin p (List.mem_append_right _ z)) fun z=>by
  have e:p=(C,oC):=by simpa using z
  subst e;exact⟨Xp,MH,UZ,Xq,fun v z=>by have z' : oC.data = .cell v:=z;rw[UY]at z';cases z'⟩
 show wpAny _ X.A (assign (.Name x pos') X.env (.ref D')) _ _ _;refine wpAny_assign_Name (nQ (v:=.ref D') I4 hN hix (.inl hx) rfl (fun s5 I5=>?_) (.inr hx))
 have e5:s5.heap.get? C=some oC:=(I5.pin (C,oC) (List.mem_append_right _ (List.mem_append_right _ (by simp)))).1
 refine⟨m,⟨oC,es,ep,e5,UY,rest⟩,fun h' sb=>⟨_,H',?_,q⟩⟩
 have I6:Inv X pins (σ.set i (some (.ref D'))) H' s5:=I5.iE;refine I6.turned (t':=s5.toks) (fun b o hb e=>(sb.2 b hb).trans e) MH UZ (.inr (Nat.le_trans I2.sz hC)) (fun y c e=>?_) (fun p hp z=>?_)
 ·obtain⟨v,qc⟩:=I2.cell y c e;exact Nat.ne_of_lt (Nat.lt_of_lt_of_le qc.lt hC)
 ·have Ol:=(I2.pin p hp).1;exact absurd (Nat.lt_of_lt_of_le (Heap.lt_size Ol) (by rw[z];exact hC)) (Nat.lt_irrefl _)
end
section
variable {K:bJ}{a:Addr}{xs:List V}{g:TG}{tt:TT}{te:TE}{n:Nat}{fr:St}{D:Addr}{Q:Hp->Prop}{H1:Hp}
theorem aX(Pv:Nat->List V->Hp->Prop)(h0:Pv 0 [] H1)(hl:∀ i acc H,i<=xs.length->Pv i acc H->aL K H a xs/\H D=some (.lst acc)/\acc.length<=i)(hz:xs.length<=sizeLine)
 (hs:∀ i x acc H,xs[i]?=some x->Pv i acc H->g x (List.replicate n none++fr) H fun σ2 H2=>σ2.drop n=fr/\tt σ2 H2 fun b H3 =>
  if b=true then te σ2 H3 fun v H4=>H4 D=some (.lst acc)/\Pv (i+1) (acc++[v]) (upd H4 D (.lst (acc++[v]))) else Pv (i+1) acc H3)
 (hd:∀ acc H,Pv xs.length acc H->Q H):iG (JS K a) g tt te n fr D Q H1:=by
 refine⟨fun i m acc H=>m=xs.length-i/\i<=xs.length/\Pv i acc H,⟨xs.length,by simp,Nat.zero_le _,h0⟩,?_⟩
 rintro i m acc H ⟨rfl,hi,p⟩;obtain⟨q,hD,ha⟩:=hl i acc H hi p;refine⟨hD,?_⟩
 by_cases hlt:i<xs.length
 ·refine .inr ⟨⟨xs,xs[i],q,by simp[hlt]⟩,by lia,Pv (i+1),fun acc' H' p'=>⟨xs.length-(i+1),by lia,rfl,hlt,p'⟩,fun x H' y=>?_⟩
  obtain⟨e,y⟩:=y;subst e;exact hs i x acc _ (y xs q) p
 ·have e:i=xs.length:=by lia
  subst e;exact .inl ⟨⟨xs,q,Nat.le_refl _⟩,hd acc H p⟩
theorem bX{lo:Int}{m:Nat}(Pv:Nat->List V->Hp->Prop)(h0:Pv 0 [] H1)(hl:∀ i acc H,i<=m->Pv i acc H->H D=some (.lst acc)/\acc.length<=i)(hz:m<=sizeLine)
 (hs:∀ i acc H,i<m->Pv i acc H->g (.int (lo+i)) (List.replicate n none++fr) H fun σ2 H2=>σ2.drop n=fr/\tt σ2 H2 fun b H3 =>
  if b=true then te σ2 H3 fun v H4=>H4 D=some (.lst acc)/\Pv (i+1) (acc++[v]) (upd H4 D (.lst (acc++[v]))) else Pv (i+1) acc H3)
 (hd:∀ acc H,Pv m acc H->Q H):iG (Gu lo m) g tt te n fr D Q H1:=by
 refine⟨fun i k acc H=>k=m-i/\i<=m/\Pv i acc H,⟨m,by simp,Nat.zero_le _,h0⟩,?_⟩
 rintro i k acc H ⟨rfl,hi,p⟩;obtain⟨hD,ha⟩:=hl i acc H hi p;refine⟨hD,?_⟩
 by_cases hlt:i<m
 ·refine .inr ⟨hlt,by lia,Pv (i+1),fun acc' H' p'=>⟨m-(i+1),by lia,rfl,hlt,p'⟩,fun x H' y=>?_⟩
  obtain⟨e,y⟩:=y;subst e y;exact hs i acc _ hlt p
 ·have e:i=m:=by lia
  subst e;exact .inl ⟨Nat.le_refl _,hd acc H p⟩
end
def zj(scope PJ:Scope)(N frees:List Str)(js:List Nat):Bool :=
 decide (scope.kind = .function)&&scope.names.all (fun y=>decide (y.2≠.cell))&&scope.names.all (fun y=>decide (y.2 = .local->scope.names.lookup y.1=some .local)) &&
 scope.names.all (fun y=>decide (y.2 = .free->PJ.names.lookup y.1=some .cell\/PJ.names.lookup y.1=some .free))&&decide (js.map (fun j=>N[j]?)=frees.map some)&&frees.all (fun x=>decide (scope.names.lookup x=some .free))
theorem aB{X:Cx}{scope:Scope}{own frees:List Str}{js:List Nat}(PJ:Scope)(N:List Str)(h1:X.env.scope=PJ:=by rfl)(h2:X.N=N:=by rfl)(h:zj scope PJ N frees js=true:=by decide +kernel):c6 X scope own frees js:=by
 unfold zj at h;simp only[Bool.and_eq_true,decide_eq_true_eq,List.all_eq_true]at h;obtain⟨⟨⟨⟨⟨a,b⟩,c⟩,d⟩,e⟩,f⟩:=h;exact⟨a,b,c,by rw[h1];exact d,by rw[h2];exact e,f⟩
mutual
inductive nZ(K:bJ)(H:Hp):V->PyData->Prop
 | dR:nZ K H .dR .none
 | bl (b:Bool):nZ K H (.bl b) (.bool b)
 | int (i:Int):nZ K H (.int i) (.int i)
 | str (x:Str):nZ K H (.str x) (.str x)
 | lst {a:Addr} {xs:List V} {ds:List PyData} (h:aL K H a xs) (r:DatVs K H xs ds):nZ K H (.ref a) (.list ds)
 | tup {a:Addr} {xs:List V} {ds:List PyData} (h:aV K H a xs) (r:DatVs K H xs ds):nZ K H (.ref a) (.tuple ds)
inductive DatVs(K:bJ)(H:Hp):List V->List PyData->Prop
 | nil:DatVs K H [] []
 | cons {x:V} {d:PyData} {xs:List V} {ds:List PyData} (h:nZ K H x d) (r:DatVs K H xs ds):DatVs K H (x::xs) (d::ds)
end
section
variable {X:Cx}{pins:aQ}{σ:St}{H:Hp}{s:Shared}
mutual
theorem nZ.reads(I:Inv X pins σ H s):∀{v:V} {d:PyData} {u:Value},nZ X.K H v d->RelV v u->∃ as,Reads s.heap u d as
 | _,_,u,.dR,r=>by cases(show u=Value.none from r);exact⟨_,.none⟩
 | _,_,u,.bl b,r=>by cases(show u=Value.bool b from r);exact⟨_,.bool b⟩
 | _,_,u,.int i,r=>by obtain⟨t,rfl⟩:=(show ∃ t,u=Value.int i t from r);exact⟨_,.int i t⟩
 | _,_,u,.str x,r=>by obtain⟨t,rfl⟩:=(show ∃ t,u=Value.str x t from r);exact⟨_,.str x t⟩
 | _,_,u,.lst (a:=a) h rs,r=>by
   cases(show u=Value.ref a from r)
   obtain⟨its,rv,⟨o,n,e,c,_,d⟩,_⟩:=I.list h;obtain⟨as,q⟩:=DatVs.reads I rs rv;exact⟨_,.list e c d (by simpa using q)⟩
 | _,_,u,.tup (a:=a) h rs,r=>by
   cases(show u=Value.ref a from r)
   obtain⟨its,rv,⟨o,e,c,n,d⟩,_⟩:=I.tuple h;obtain⟨as,q⟩:=DatVs.reads I rs rv;exact⟨_,.tuple e c d (by simpa using q)⟩
theorem DatVs.reads(I:Inv X pins σ H s):∀{vs:List V} {ds:List PyData} {us:List Value},DatVs X.K H vs ds->Vals vs us->∃ as,ReadsAll s.heap us ds as
 | _,_,_,.nil,.nil=>⟨_,.nil⟩
 | _,_,_,.cons h r,.cons rv rr=>by
   obtain⟨as,q⟩:=nZ.reads I h rv;obtain⟨bs,q2⟩:=DatVs.reads I r rr;exact⟨_,.cons q q2⟩
end
end
section
variable {X:Cx}
def PK(K:bJ):R2:=fun x y H Q=>∃ d e,nZ K H x d/\nZ K H y e/\SeqAt.shaped d=true/\SeqAt.shaped e=true/\Q (.bl (PyData.eqv d e)) H
def PL(K:bJ):R2:=fun x y H Q=>∃ d e,nZ K H x d/\nZ K H y e/\SeqAt.shaped d=true/\SeqAt.shaped e=true/\Q (.bl (!PyData.eqv d e)) H
theorem MK(hu:X.A.units+64<cLine):jT X (compareOp .Eq) (PK X.K):=by
 intro pins s σ H x y v u Q I rx ry h;obtain⟨d,e,h1,h2,s1,s2,q⟩:=h;obtain⟨as,ra⟩:=h1.reads I rx;obtain⟨bs,rb⟩:=h2.reads I ry;exact eq_dataH ra rb s1 s2 hu ⟨.bl _,H,I,rfl,q⟩
theorem ML(hu:X.A.units+64<cLine):jT X (compareOp .NotEq) (PL X.K):=by
 intro pins s σ H x y v u Q I rx ry h;obtain⟨d,e,h1,h2,s1,s2,q⟩:=h;obtain⟨as,ra⟩:=h1.reads I rx;obtain⟨bs,rb⟩:=h2.reads I ry;exact ne_dataH ra rb s1 s2 hu ⟨.bl _,H,I,rfl,q⟩
def PM:V->Option Value
 | .ty n=>some (.type n)
 | .ref a=>some (.ref a)
 | _=>none
theorem Kl{c:V}{u w:Value}(h:PM c=some u)(r:RelV c w):w=u:=by
 cases c with
 | ty n=>exact(show w=Value.type n from r).trans (Option.some.inj h)
 | ref a=>exact(show w=Value.ref a from r).trans (Option.some.inj h)
 | _=>cases h
def PN(K:bJ):List V->Hp->VK->Prop:=fun xs H Q=>∃ x c t u b,xs=[x,c]/\PM c=some u/\pF K H x t/\PySem.W.kitOne K t u=some b/\Q (.bl b) H
theorem GO:fg X (.builtin "isinstance") (PN X.K):=by
 intro pins s σ H xs us Q I r h;obtain⟨x,c,t,u,b,rfl,rc,ty,e,q⟩:=h;cases r with
 | cons r1 r2 =>
   cases r2 with
   | cons r2 r3 =>
     cases r3;cases Kl rc r2;exact Ea I r1 ty e fun tk=>⟨.bl b,H,I.tok tk,rfl,q⟩
theorem MM(K:bJ):PySem.W.kitOne K (.type "int") (.type "int")=some true:=by with_unfolding_all rfl
theorem MN(K:bJ):PySem.W.kitOne K (.type "int") (.type "bool")=some false:=by with_unfolding_all rfl
theorem MO(K:bJ):PySem.W.kitOne K (.type "list") (.type "list")=some true:=by with_unfolding_all rfl
theorem De:SJ X "int.bit_length" (fun x xs H Q=>∃ i,x = .int i/\xs=[]/\Q (.int (Builtin.Int.intBits i)) H):=by
 intro pins s σ H x xs v us Q I rx rs h;obtain⟨i,rfl,rfl,q⟩:=h;obtain⟨t,rfl⟩:=rx;cases rs;exact call_int_bit_length ⟨.int _,H,I.tok _,⟨_,rfl⟩,q⟩
theorem Km{x:Str}{v:Int}{pos:Pos}(hg:Gl X x)(h:∃ t,X.mg x=some (.int v t))(hd:(x==("__debug__":Str))=false:=by decide):PE X (.Name x pos) (tC (.int v)):=by
 obtain⟨t,e⟩:=h;exact JO hg e ⟨t,rfl⟩ hd
end
theorem dl{n:Nat}(h:Nat.ble n 1000=true):n<=sizeLine:=Nat.le_of_lt (jI (Nat.le_of_ble_eq_true h))
theorem nk{j:Int}(h:decide (0<j)=true):0<j:=of_decide_eq_true h
theorem Eh{c A B:Prop}[Decidable c](h : ¬ c)(hb:B):if decide c=true then A else B:=by
 rw[decide_eq_false h];exact fQ hb
theorem PR{c A B:Prop}[Decidable c](h:c)(ha:A):if decide c=true then A else B:=by
 rw[decide_eq_true h];exact fV ha
theorem aq.new{H:Hp}{p:Addr}{o:HO}(h:H p=none):aq H (upd H p o):=fun b u e=>by
 rw[aj (aW e h)];exact e
theorem aq.put{H H2:Hp}{D:Addr}{o:HO}(s:aq H H2)(h:H D=none):aq H (upd H2 D o):=fun b u e=>by
 rw[aj (aW e h)];exact s b u e
theorem aq.Xr{K:bJ}{H H' : Hp}{a:Addr}{xs:List V}(e:aq H H')(h:aV K H a xs):aV K H' a xs:=by
 rcases h with(h|⟨o,h⟩) | h
 ·exact .inl (.inl (e _ _ h))
 ·exact .inl (.inr ⟨o,e _ _ h⟩)
 ·exact .inr h
def dH(H H' : Hp):Prop:=∀ b xs,H b=some (.tup xs)->H' b=some (.tup xs)
theorem aq.tups{H H' : Hp}(s:aq H H'):dH H H':=fun b xs e=>s b _ e
theorem dH.trans{H H1 H2:Hp}(a:dH H H1)(b:dH H1 H2):dH H H2:=fun c xs e=>b c xs (a c xs e)
theorem dH.put{H:Hp}{D:Addr}{o:HO}{ys:List V}(h:H D=some (.lst ys)):dH H (upd H D o):=fun b xs e=>by
 rw[aj (aS e h (by intro z;cases z))]
 exact e
theorem Paired.sN{α β:Type}{F:α->β->Prop}:∀{l:List α} {r:List β} {i:Nat} {x:α},Paired F l r->l[i]?=some x->∃ y,r[i]?=some y/\F x y
 | _,_,_,_,.nil,e=>by simp at e
 | _,_,0,_,.cons h _,e=>by
   simp at e;subst e;exact⟨_,rfl,h⟩
 | _,_,i+1,x,.cons _ t,e=>by
   obtain⟨y,h1,h2⟩:=Paired.sN (i:=i) (x:=x) t (by simpa using e)
   exact⟨y,by simpa using h1,h2⟩
theorem GP(ns:List Int)(lo hi:Option Int):xr (ns.map V.int) lo hi=((ns.drop (HT.qW ns.length 0 lo)).take (HT.qW ns.length ns.length hi-HT.qW ns.length 0 lo)).map V.int:=by
 unfold xr;rw[List.length_map,<-List.map_drop,<-List.map_take]
section
variable {X:Cx}{l:Expr}{tl:TE}{tg a b o e:Expr}{ta tb to:TE}{es:List Expr}
theorem Bt(K:bJ)(hu:X.A.units+64<cLine)(h:X.K=K:=by rfl):jT X (compareOp .Eq) (PK K):=by subst h;exact MK hu
theorem MP(K:bJ)(hu:X.A.units+64<cLine)(h:X.K=K:=by rfl):jT X (compareOp .NotEq) (PL K):=by subst h;exact ML hu
theorem MQ(K:bJ)(h:X.K=K:=by rfl):fg X (.builtin "isinstance") (PN K):=by subst h;exact GO
def SV(K:bJ):List V->Hp->VK->Prop:=fun xs H Q=>∃ p ys,xs=[.ref p]/\(aL K H p ys\/aV K H p ys)/\Q (.int ys.length) H
theorem iH(K:bJ)(h:X.K=K:=by rfl):fg X (.builtin "len") (SV K):=by subst h;exact xx
def PU(K:bJ):List V->Hp->VK->Prop:=fun xs H Q=>∃ p ys,xs=[.ref p]/\((aL K H p ys/\∀ l,H l=none->Q (.ref l) (upd H l (.tup ys)))\/(aV K H p ys/\Q (.ref p) H))
theorem GQ(K:bJ)(h:X.K=K:=by rfl):fg X (.type "tuple") (PU K):=by subst h;exact uU
theorem jH(K:bJ)(h:X.K=K:=by rfl):Oj X (Pp K):=by subst h;exact J8
theorem cu(K:bJ)(h:X.K=K:=by rfl):Oj X (Pq K):=by subst h;exact MD
theorem SW(K:bJ)(h:X.K=K:=by rfl):SH X (Pw K):=by subst h;exact J9
theorem RE(K:bJ)(h:X.K=K:=by rfl):jT X (compareOp .In) (RD K false):=by subst h;exact Ec
theorem Bu(K:bJ)(h:X.K=K:=by rfl):jT X (compareOp .NotIn) (RD K true):=by subst h;exact xw
theorem mW(K:bJ)(hl:PE X l tl)(h:X.K=K:=by rfl):PI X tg l (LA K tl):=by subst h;exact JT hl
theorem Kn(K:bJ){k:Nat}{t:Jz}{n:Nat}{pos:Pos}(hc:X.calm=true)(hp:Oh X es t)(hn:(assignEach es X.env).length=n:=by rfl)(hst:(assignEach es X.env).findIdx? (·.1)=none:=by rfl)(h:X.K=K:=by rfl):
 PG X (.Tuple es k pos) (O5 K n t):=by subst h;exact Mv hc hp hn hst
theorem GR{x:Str}{T:String}{pos:Pos}(hg:Gl X x)(hm:X.mg x=none)(hv:bootBuiltins x=some (.type T))(hn:x≠"__name__":=by decide)(hd:(x==("__debug__":Str))=false:=by decide):PE X (.Name x pos) (tC (.ty T)) :=
 JP hg hm hv rfl hn hd
end
def uV(od:Option Addr)(c:Value)(e:Addr)(h:Heap):Prop:=∃ oe vs,h.get? e=some oe/\oe.data = .fields vs/\vs[2]?=some c/\oe.dict=od
theorem GS(o:Obj)(f):(o.mapFields f).dict=o.dict:=by
 obtain⟨c,d,dt,sl⟩:=o;cases dt<;>rfl
section
variable {M:Model}{A:Around}{E:dh}{s:Shared}{B:Heap}{env:Env}{outer l:List Env}{L e:Addr}{cls a0:Value}{Q:Unit->Shared->Prop}{od:Option Addr}{c:Value}
theorem xB{h:Heap}{T:Addr}{oT:Obj}{ts:Array Value}(f:Obj->Obj)(hT:h.get? T=some oT)(hd:oT.data = .fields ts):h.UpToSlots (h.update T f):=fun b o hb hn=>by
 have ne:T≠b:=fun z=>by
  rw[<-z,hT]at hb;cases hb;exact hn ts hd
 exact⟨o.slots,(Heap.get?_update_other h f ne).trans hb⟩
theorem pG{h:Heap}{T:Addr}(f:Obj->Obj)(k:B.StaysIn h)(n:B.get? T=none):B.StaysIn (h.update T f):=fun b o hb=>by
 have ne:T≠b:=fun z=>by
  rw[<-z,n]at hb;cases hb
 exact(Heap.get?_update_other h f ne).trans (k b o hb)
theorem jV{h h' : Heap}(x:h.FunFrames B l)(u:h.UpToSlots h'):h'.FunFrames B l:=x.of_keeps fun b o hb hn =>
 let⟨_,q⟩:=u b o hb hn
 ⟨_,q,rfl⟩
theorem LM{fl:Value}(hk:B.StaysIn s.heap)(hn:B.get? e=none)(hl:s.heap.FunFrames B l)(ht:s.heap.TracedAtW B e cls a0 fl)(h2:uV od c e s.heap)
 (q:∀ h',Heap.FlyingW B l e cls a0 h'->uV od c e h'->s.heap.UpToSlots h'->Q () { s with heap:=h'}):wpAny M A (setFlight (.ref e) none) Q E s:=by
 obtain⟨oe,vs,T,oT,ts,ge,hc,de,f1,nT,Te,gT,dT,f3⟩:=ht;have z3:3<ts.size:=(Array.getElem?_eq_some_iff.mp f3).1;rw[setFlight];refine wpAny_bind (wpAny_field ge de f1 ?_);rw[if_pos (by simp)]
 refine wpAny_setField gT dT z3 ?_;have up:=xB (Obj.mapFields (·.setIfInBounds 3 ((none:Option Addr).elim Value.none fun f=>rawInt f))) gT dT
 have RG:=(Heap.get?_update_other s.heap (Obj.mapFields (·.setIfInBounds 3 ((none:Option Addr).elim Value.none fun f=>rawInt f))) Te).trans ge
 have U0:=Obj.data_mapFields dT (·.setIfInBounds 3 ((none:Option Addr).elim Value.none fun f=>rawInt f))
 refine q _ ⟨pG _ hk nT,hn,jV hl up,oe,vs,T,_,_,RG,hc,de,f1,nT,Te,Heap.get?_update_self _ gT (Obj.isFreed_of_fields U0),U0,by simp[z3]⟩ ?_ up
 obtain⟨o2,v2,g2,d2,k2,z2⟩:=h2;rw[ge]at g2;cases g2;exact⟨oe,v2,RG,d2,k2,z2⟩
theorem GU{oe:Obj}{vs:Array Value}{head:Value}{hadNext:Bool}(hfr:A.frames=some (env::outer))(hl:s.heap.FunFrames B (env::outer))(hf:env.frame=some L)(ge:s.heap.get? e=some oe)(hk:B.StaysIn s.heap)(hn:B.get? e=none)
 (de:oe.data = .fields vs) (hz:1<vs.size) (h0:vs[0]?=some a0) (h2:vs[2]?=some c) (hz2:oe.dict=od)
 (q:∀ h',Heap.HeldW B (env::outer) e oe.cls a0 L h'->uV od c e h'->s.heap.UpToSlots h'->Q () { s with heap:=h'}) :
 wpAny M A (do let a←frameOf env;let pl←entryPlaceOf L hadNext;let b←EntryCells.newEntry head a .none (rawInt L) .none pl;setField (.ref e) 1 b) Q E s:=by
 have SX:e∉(env::outer).filterMap (·.frame):=fun z=>by
  obtain⟨_,o,ho,nf⟩:=hl.mem z;rw[ge]at ho;cases ho;exact nf vs de
 refine wpAny_bind (wpAny_frameOf_fun hfr hl hf fun h1 so=>wpAny_bind (wpAny_entryPlaceOf fun pl ip=>?_))
 rw[EntryCells.newEntry,newFields];refine wpAny_bind (wpAny_newObj_type ?_ (ip.sizeOk5 _ _ _ _ _));generalize hnw:({ cls:=.type "traceback",dict:=none,data:=.fields ([head,.ref L,.none,rawInt L,.none]++(if pl.isEmpty then List.replicate 6 Value.none else pl)).toArray}:Obj)=nw
 have dn:nw.data = .fields ([head,.ref L,.none,rawInt L,.none]++(if pl.isEmpty then List.replicate 6 Value.none else pl)).toArray:=by rw[<-hnw]
 have ge1:h1.get? e=some oe:=(so.2.1 e SX).trans ge;have SY:=Heap.get?_push_of_some (h:=h1) nw ge1;have Te:h1.objs.size≠e:=Nat.ne_of_gt (Heap.lt_size ge1);refine wpAny_setField SY de hz ?_;have S0:=Obj.data_mapFields de (·.setIfInBounds 1 (Value.ref h1.objs.size));have U1:=Heap.get?_update_self (Obj.mapFields (·.setIfInBounds 1 (Value.ref h1.objs.size))) SY (Obj.isFreed_of_fields S0);have Xs:=(Heap.get?_update_other (h1.push nw) (Obj.mapFields (·.setIfInBounds 1 (Value.ref h1.objs.size))) (Ne.symm Te)).trans (Heap.get?_push_size h1 (by rw[<-hnw];rfl))
 have up:s.heap.UpToSlots ((h1.push nw).update e (Obj.mapFields (·.setIfInBounds 1 (Value.ref h1.objs.size)))):=by
  have u1:s.heap.UpToSlots h1:=fun b o hb _=>so.2.2 b o hb
  exact(u1.trans (.of_keeps fun b o hb=>Heap.get?_push_of_some nw hb)).trans (xB _ SY de)
 have k1:B.StaysIn h1:=fun b o hb=>(so.2.1 b fun z=>by rw[(hl.mem z).1]at hb;cases hb).trans (hk b o hb)
 have k2:B.StaysIn (h1.push nw):=fun b o hb=>Heap.get?_push_of_some nw (k1 b o hb)
 refine q _ ⟨pG _ k2 hn,hn,jV hl up,_,_,h1.objs.size,nw,_,U1,⟨Obj.cls_mapFields _ _,by rw[Array.getElem?_setIfInBounds_ne (by decide)];exact h0⟩,S0,by simp[hz],k1.fresh,Te,Xs,dn,?_⟩ ?_ up
 ·first | (simp;done) | (rcases ip with rfl | ⟨_,_,_,_,_,_,_,rfl⟩<;>simp)
 ·exact⟨_,_,U1,S0,by rw[Array.getElem?_setIfInBounds_ne (by decide)];exact h2,(GS _ _).trans hz2⟩
theorem PV(hfr:A.frames=some (env::outer))(hf:env.frame=some L)(fl:Heap.FlyingW B (env::outer) e cls a0 s.heap)(h2:uV od c e s.heap)
 (q:∀ h',Heap.HeldW B (env::outer) e cls a0 L h'->uV od c e h'->s.heap.UpToSlots h'->Q () { s with heap:=h'}):wpAny M A (noteFrame (.ref e) env) Q E s:=by
 obtain⟨hk,hn,hl,oe,vs,T,oT,ts,ge,⟨hc,h0⟩,de,f1,nT,Te,gT,dT,f3⟩:=fl;obtain⟨o2,v2,g2,d2,k2,z2⟩:=h2;rw[ge]at g2;cases g2;rw[de]at d2;cases d2;cases hc;rw[noteFrame];simp only[hf];refine wpAny_bind (wpAny_field ge de f1 ?_);rw[if_pos (by simp)]
 refine wpAny_bind (wpAny_field gT dT f3 ?_);rw[if_neg (by simp[rawInt])]
 refine wpAny_bind (wpAny_setField gT dT (Array.getElem?_eq_some_iff.mp f3).1 ?_);have up:=xB (Obj.mapFields (·.setIfInBounds 3 Value.none)) gT dT;have RG:=(Heap.get?_update_other s.heap (Obj.mapFields (·.setIfInBounds 3 Value.none)) Te).trans ge;exact GU (s:={ s with heap:=s.heap.update T (Obj.mapFields (·.setIfInBounds 3 Value.none))}) hfr (jV hl up) hf RG (pG _ hk nT) hn de (Array.getElem?_eq_some_iff.mp f1).1 h0 k2 z2 fun h' x1 x2 x3=>q h' x1 x2 (up.trans x3)
theorem PX(x:Heap.FlyingW B (env::outer) e cls a0 s.heap):Heap.FlyingW B outer e cls a0 s.heap :=
 let⟨k1,k2,⟨_,_,k3⟩,k4⟩:=x
 ⟨k1,k2,k3,k4⟩
theorem leave_on2(hfr:A.frames=some (env::outer))(hf:env.frame=some L)(fl:Heap.FlyingW B (env::outer) e cls a0 s.heap)(h2:uV od c e s.heap)
 (q:∀ h',Heap.FlyingW B outer e cls a0 h'->uV od c e h'->s.heap.UpToSlots h'->Q () { s with heap:=h'}):wpAny M A (leaving env (.ref e)) Q E s:=by
 rw[leaving];refine wpAny_bind (PV hfr hf fl h2 fun h' x1 x2 x3=>?_)
 obtain⟨y1,y2,y3,y4⟩:=x1;exact LM (s:={ s with heap:=h'}) y1 y2 y3 y4 x2 fun h'' z1 z2 z3=>q h'' (PX (s:={ s with heap:=h''}) z1) z2 (x3.trans z3)
theorem leave_new{oe:Obj}{vs:Array Value}(hfr:A.frames=some (env::outer))(hf:env.frame=some L)(hk:B.StaysIn s.heap)(hn:B.get? e=none)(hl:s.heap.FunFrames B (env::outer))(ge:s.heap.get? e=some oe)(de:oe.data = .fields vs)
 (h0:vs[0]?=some a0) (h1:vs[1]?=some .none) (h2:vs[2]?=some c) (hz2:oe.dict=od)
 (q:∀ h',Heap.FlyingW B outer e oe.cls a0 h'->uV od c e h'->s.heap.UpToSlots h'->Q () { s with heap:=h'}):wpAny M A (leaving env (.ref e)) Q E s:=by
 rw[leaving,noteFrame];simp only[hf];refine wpAny_bind (wpAny_bind (wpAny_field ge de h1 ?_));rw[if_neg (by decide)]
 refine GU (a0:=a0) hfr hl hf ge hk hn de (Array.getElem?_eq_some_iff.mp h1).1 h0 h2 hz2 fun h' x1 x2 x3=>?_
 obtain⟨y1,y2,y3,y4⟩:=x1;exact LM (s:={ s with heap:=h'}) y1 y2 y3 y4 x2 fun h'' z1 z2 z3=>q h'' (PX (s:={ s with heap:=h''}) z1) z2 (x3.trans z3)
end
section
variable {P:Program}{w:World}{H H0 H1:Hp}{h h0 h1 h2:Heap}{a:Addr}{o:HO}{fs:List Addr}{B:Heap}
theorem bf.thing(x:bf P w H h a o):∃ ob,h.get? a=some ob:=by
 cases o with
 | lst xs=>obtain⟨_,_,_,_,e⟩:=x;exact⟨_,e⟩
 | tup xs=>obtain⟨_,_,_,ob,e,_⟩:=x;exact⟨ob,e⟩
 | dK kvs=>obtain⟨_,_,_,_,ob,_,_,e,_⟩:=x;exact⟨ob,e⟩
 | dT kvs=>obtain⟨_,_,_,_,ob,_,_,e,_⟩:=x;exact⟨ob,e⟩
 | set S n=>obtain⟨ob,_,_,_,e,_⟩:=x;exact⟨ob,e⟩
 | ins C dx fs=>obtain⟨_,_,_,e,_⟩:=x;exact⟨_,e⟩
 | own y=>exact x
 | xd fs=>obtain⟨_,⟨ob,_,_,e,_⟩,_⟩:=x;exact⟨ob,e⟩
 | DW lo hi=>obtain⟨_,_,_,e⟩:=x;exact⟨_,e⟩
 | jR ob u=>obtain⟨e,_⟩:=x;exact⟨_,e⟩
 | iY ps=>obtain⟨_,e,_⟩:=x;exact⟨_,e⟩
 | met f y=>exact⟨_,(show h.get? a=some _ from x)⟩
 | ext φ=>obtain⟨_,e,_⟩:=x;exact e
def Ko(B:Heap)(fs:List Addr)(h0:Heap)(H:Hp)(h:Heap):Prop:=∀ b o,h.get? b=some o->(H b≠none\/∃ o',h0.get? b=some o')->b∉fs->B.get? b=some o
theorem GV(un:Un fs [] H0 H1 h0 h1)(hok:kW P w H1 h1)(Xu:∀ b∈fs,H1 b=none)(fr:∀ b∈fs,∀ ob,h1.get? b=some ob->∀ vs,ob.data≠.fields vs)(LN:Ko B fs h0 H1 h1)
 (hB:B.StaysIn h2) (up:h1.UpToSlots h2):Un fs [] H0 H1 h0 h2/\kW P w H1 h2/\Ko B fs h0 H1 h2:=by
 have PY:∀ b ob,h1.get? b=some ob->(H1 b≠none\/∃ o',h0.get? b=some o')->b∉fs->h2.get? b=some ob:=fun b ob e c n=>hB b ob (LN b ob e c n)
 have Og:∀ b u,H1 b=some u->b∉fs:=fun b u e z=>by
  rw[Xu b z]at e;cases e
 refine⟨⟨fun b ob e n hb hx=>PY b ob (un.keep b ob e n hb hx) (.inr ⟨ob,e⟩) hb,fun b ob e n hb hx=>?_,un.free,fun b ob e hx=>?_,un.tups,un.jS,un.kX⟩,fun b u e=>?_,fun b ob e c n=>?_⟩
 ·obtain⟨sl,q⟩:=un.slot b ob e n hb hx;obtain⟨RA,q'⟩:=up b _ q (fr b hb _ q);exact⟨RA,q'⟩
 ·obtain⟨o',q⟩:=un.there b ob e hx
  by_cases hb:b∈fs
  ·obtain⟨RA,q'⟩:=up b _ q (fr b hb _ q);exact⟨_,q'⟩
  ·exact⟨o',PY b o' q (.inr ⟨ob,e⟩) hb⟩
 ·refine(hok b u e).stay (fun c v hc q=>?_) (fun _ q=>q) fun _ _ q=>q
  have hct:∃ z,H1 c=some z:=by
   rcases hc with hc|hc
   ·rw[hc];exact⟨u,e⟩
   ·exact⟨_,hc⟩
  obtain⟨z,hz⟩:=hct;exact PY c v q (.inl (by rw[hz];simp)) (Og c z hz)
 ·have ht:∃ o1,h1.get? b=some o1:=by
   rcases c with c|⟨o',c⟩
   ·cases hz:H1 b with
    | none=>exact absurd hz c
    | some z=>exact(hok b z hz).thing
   ·exact un.there b o' c (by simp)
  obtain⟨o1,q⟩:=ht;have q2:=LN b o1 q c n;have q3:=hB b o1 q2;rw[e]at q3;rw[Option.some.inj q3];exact q2
end
def S3(ea:Addr)(cls:Value):HO:=.ext fun h=>∃ oe vs,h.get? ea=some oe/\oe.cls=cls/\oe.data = .fields vs/\vs[2]?=some .none
def MR(E:XK)(cls:Value)(od:Option Addr)(c:Value)(H:Hp):Prop:=(c = .none/\(∃ C0:Addr,cls = .ref C0)/\E cls od H)\/∃ C e' C',cls = .ref C/\od=none/\c = .ref e'/\H e' = some (S3 e' C')/\E (.int (C:Int) e') none H
def GW(P:Program)(w:World):F9:=fun outer H s E e s'=>∃(ea:Addr) (cls a0:Value) (od:Option Addr) (c:Value) (H' : Hp) (B:Heap),e = .ref ea/\s'.os=s.os/\AllBare s'.gens/\Un (frs outer) [] H H' s.heap s'.heap/\kW P w H' s'.heap/\H' ea=none/\
 Ko B (frs outer) s.heap H' s'.heap/\Heap.FlyingW B outer ea cls a0 s'.heap/\uV od c ea s'.heap/\MR E cls od c H'
structure Out(X:Cx)(E:XK):Prop where
 JL:X.stack=X.env::X.outer
 fr:X.env.frame=some X.env.locals
 ex:X.ex=[]
 xe:∀ e s',wpAny (model X.prog X.w) X.A (leaving X.env e) (fun _ s''=>GW X.prog X.w X.outer X.H₀ X.s₀ E e s'') (fun e' s''=>GW X.prog X.w X.outer X.H₀ X.s₀ E e' s'') s'->X.xe e s'
def U3(X:Cx)(E:XK):Prop:=∀(pins:aQ) (σ:St) (H:Hp) (s:Shared) (h1:Heap) (ea C0:Addr) (vs:List Value),Inv X pins σ H s->Heap.MadeExcOf s.heap h1 ea (.ref C0) vs->E (.ref C0) none H->X.xe (.ref ea) { s with heap:=h1}
section
variable {X:Cx}{E:XK}{pins:aQ}{σ:St}{H:Hp}{s:Shared}
theorem Inv.MS(I:Inv X pins σ H s):∀ b∈X.fs,∀ ob,s.heap.get? b=some ob->∀ vs,ob.data≠.fields vs:=fun b hb ob e=>by
 obtain⟨_,o,ho,hnf⟩:=I.funs.mem hb;rw[e]at ho;cases ho;exact hnf
theorem Inv.MT(I:Inv X pins σ H s)(hx:X.ex=[]):∀ b∈X.fs,H b=none:=fun b hb=>by
 obtain⟨_,o,ho,_⟩:=I.ok.funs.mem hb;exact I.base.free b o ho (I.ok.Mq b hb) (by rw[hx];simp)
theorem Ko.outer{B h0:Heap}{h:Heap}(I:Inv X pins σ H s)(LN:Ko B (frs X.stack) h0 H h)(k:∀ b o,X.s₀.heap.get? b=some o->∃ o',h0.get? b=some o'):Ko B X.fs X.s₀.heap H h:=fun b o e c n=>by
 refine LN b o e (c.imp id fun⟨o',q⟩=>k b o' q) fun z=>?_
 rcases List.mem_cons.mp (I.su b z) with q|q
 ·subst q;rcases c with c|⟨o',c⟩
  ·exact c I.free
  ·exact absurd (Nat.lt_of_lt_of_le (Heap.lt_size c) I.ok.above) (Nat.lt_irrefl _)
 ·exact n q
theorem Df(O:Out X E)(I:Inv X pins σ H s){B:Heap}{ea:Addr}{cls a0:Value}{od:Option Addr}{c:Value}{h2:Heap}(LN:Ko B X.fs X.s₀.heap H s.heap)(fl:Heap.FlyingW B X.outer ea cls a0 h2)(sc:uV od c ea h2)(up:s.heap.UpToSlots h2)(hn:H ea=none)(q:MR E cls od c H):
 GW X.prog X.w X.outer X.H₀ X.s₀ E (.ref ea) { s with heap:=h2}:=by
 have un:Un X.fs [] X.H₀ H X.s₀.heap s.heap:=by
  have u:=I.base;rw[O.ex]at u;exact u
 obtain⟨u2,Xv,c2⟩:=GV un I.hok (I.MT O.ex) I.MS LN fl.1 up;exact⟨ea,cls,a0,od,c,H,B,rfl,I.os,I.bare,u2,Xv,hn,c2,fl,sc,q⟩
theorem Out.S4(O:Out X E){ea:Addr}{oe:Obj}{vs:Array Value}{a0 c:Value}(I:Inv X pins σ H s)(ge:s.heap.get? ea=some oe)(de:oe.data = .fields vs)(h0:vs[0]?=some a0)(h1:vs[1]?=some .none)(h2:vs[2]?=some c)
 (hn:H ea=none) (new:X.s₀.heap.get? ea=none) (q:MR E oe.cls oe.dict c H):X.xe (.ref ea) s:=by
 refine O.xe _ _ ?_;have hfr:X.A.frames=some (X.env::X.outer):=by rw[I.ok.frames,O.JL]
 have hl:s.heap.FunFrames (PySem.W.hideAll s.heap (ea::frs X.stack)) (X.env::X.outer):=by
  have z:=PySem.W.funFrames_hide (as:=ea::frs X.stack) I.stack fun env he b hb=>List.mem_cons_of_mem _ (List.mem_filterMap.mpr ⟨env,he,hb⟩)
  rw[O.JL]at z ⊢;exact z
 refine leave_new hfr O.fr (fun b o e=>PySem.W.of_hideAll _ e) (PySem.W.hideAll_none _ (List.mem_cons_self ..)) hl ge de h0 h1 h2 rfl fun h3 fl sc up=>?_
 refine Df O I (Ko.outer I (h0:=X.s₀.heap) (fun b o e c n=>?_) fun b o e=>⟨o,e⟩) fl sc up hn q
 refine PySem.W.hideAll_get _ e fun z=>?_
 rcases List.mem_cons.mp z with z|z
 ·subst z;rcases c with c|⟨o',c⟩
  ·exact c hn
  ·rw[new]at c;cases c
 ·exact n z
theorem Out.S5(O:Out X E){ea:Addr}{oe:Obj}{vs:Array Value}{a0:Value}(I:Inv X pins σ H s)(ge:s.heap.get? ea=some oe)(de:oe.data = .fields vs)(h0:vs[0]?=some a0)(h1:vs[1]?=some .none)(h2:vs[2]?=some .none)
 (hn:H ea=none) (new:X.s₀.heap.get? ea=none) (hcl:∃ C0:Addr,oe.cls = .ref C0) (q:E oe.cls oe.dict H):X.xe (.ref ea) s:=O.S4 I ge de h0 h1 h2 hn new (.inl ⟨rfl,hcl,q⟩)
theorem Out.S6(O:Out X E):U3 X E:=by
 intro pins σ H s h1 ea C0 vs I mk q;have I1:Inv X pins σ H { s with heap:=h1}:=I.kept (t':=s.toks) mk.keeps
 have hn:H ea=none:=by
  cases hz:H ea with
  | none=>rfl
  | some z =>
    obtain⟨ob,e⟩:=(I.hok ea z hz).thing;rw[mk.new]at e;cases e
 obtain⟨t,ge,_,_⟩:=mk.there;refine O.S5 I1 (a0:=.ref t) ge rfl rfl rfl rfl hn ?_ ⟨_,rfl⟩ q;cases hz:X.s₀.heap.get? ea with
 | none=>rfl
 | some o =>
   obtain⟨o',e⟩:=I.base.there ea o hz (by rw[O.ex];simp)
   rw[mk.new]at e;cases e
theorem Inv.P0{H' : Hp}{s' : Shared}(I:Inv X pins σ H s)(os:s'.os=s.os)(bare:AllBare s'.gens)(un:Un (frs X.stack) [] H H' s.heap s'.heap)(hok:kW X.prog X.w H' s'.heap):Inv X pins σ H' s' :=
 I.Gp (ch:=[]) os un hok bare fun b z=>absurd z (by simp)
theorem Out.passes(O:Out X E):Passes (GW X.prog X.w) X E:=by
 intro pins σ H s e s' I q;obtain⟨ea,cls,a0,od,c,H',B,rfl,os,bare,un,hok,hn,LN,fl,sc,qE⟩:=q;have I1:=I.P0 os bare un hok;refine O.xe _ _ ?_;have hfr:X.A.frames=some (X.env::X.outer):=by rw[I.ok.frames,O.JL]
 rw[O.JL]at fl;refine leave_on2 hfr O.fr fl sc fun h2 Xw Xx up=>?_
 exact Df O I1 (Ko.outer I1 LN fun b o e=>I.base.there b o e (by rw[O.ex];simp)) Xw Xx up hn qE
end
theorem eO{P:Program}{w:World}{K:bJ}{mg:kU}{base:Heap}{N:List Str}{qual:Str}{scope:Scope}{f:Addr}{cd:Value}{A:Around}{outer:List Env}{s:Shared}{H:Hp}{E:XK}:
 Out (rB (GW P w) P w K mg base N qual scope f cd A outer s H E) E:=⟨rfl,rfl,rfl,fun _ _ h=>h⟩
theorem Kf.Bv{P:Program}{w:World}{K:bJ}{mg:kU}{base:Heap}{x qual:Str}{st:Stmt}{f:Addr}{fd:FuncData}{N ps:List Str}{k:Nat}{sp:Sp}(F:Kf K x qual st f fd)(S:aE N ps (ah st))
 (len:∀ vs H Q E,sp vs H Q E->vs.length=ps.length)
 (hbody:∀(cdv:Value) (A:Around) (outer:List Env) (s:Shared) (H:Hp) (vs:List V) (Q:VK) (E:XK),eM k (A.deeper (envOfC qual (ah st) s.heap.objs.size f cdv))->sp vs H Q E->
  ∃ t,vE (rB (GW P w) P w K mg base N qual (ah st) f cdv A outer s H E) (bV st) t/\t { nx:=fun _ H'=>Q .dR H',rt:=Q} (start N vs) H):k6 P w K mg base (GW P w) (k+1) f fd ps sp:=by
 obtain⟨oc,od,kV,doc,pm,an,cdv,ct,osl,rfl,lk,hcd⟩:=F.ex;exact GC lk hcd S len fun A outer s H vs Q E hr rC=>hbody cdv A outer s H vs Q E hr rC
section
variable {X:Cx}{E:XK}
def MU(C:Addr)(E:XK)(t:TA):TS:=fun _ σ H=>t σ H fun vs H1=>vs.length<=sizeLine/\E (.ref C) none H1
theorem sO{x:Str}{C:Addr}{bm:List Value}{B newId initId:String}{e:Expr}{es:List Expr}{ta:TA}{np cpos pos:Pos}(th:U3 X E)(hc:X.calm=true)(hg:Gl X x)(O:∀ h,X.K.In h->h.Ns mainGlobals X.mg->OwnCls x C bm newId X.mg h)
 (FB:ExcBaseFacts B newId initId bm) (ha:PA X (e::es) ta) (he:starEach (e::es) X.env=(false,eval e X.env)::starEach es X.env:=by rfl) (hpl:(backTo cpos (starEach es X.env)).any (·.1)=false:=by rfl)
 (hd:(x==("__debug__":Str))=false:=by decide):PS X (.Raise (some (.Call (.Name x np) (e::es) [] cpos)) none pos) (MU C E ta):=by
 intro pins s σ H D I h;have OC:=O _ I.mod.Rx I.mod.glob;obtain⟨tl,N,nm,q,bs,hdct,sn,sub,ab,col,dd,k0,k1,k2,k3,k5,mN,hC,hN,hni,T⟩:=OC.obj;refine wpAny_Raise_call_subT (C:=C) (nm:=nm) (q:=q) (N:=N) (bs:=bs) (bm:=tl) (hdct:=hdct) (sn:=sn) (sub:=sub) (ab:=ab) (col:=col) (dd:=dd) (k0:=k0) (k1:=k1) (k2:=k2) (k3:=k3) (k5:=k5)
  FB (mN:=mN) (T.hasType FB.hasBase) (I.ok.hd hc) (by rw[he];show(false || (backTo cpos (starEach es X.env)).any (·.1))=false;rw[hpl];rfl) hni (xg I hg OC.bound ⟨rfl,?_⟩ hd)
 have hA:=ha cpos pins s σ H _ I h;rw[he]at hA ⊢;refine Calls.evalArgs_plain (wpAny_mono hA (fun us s1 ⟨vs,H1,I1,r1,z,q1⟩=>?_) fun _ _ y=>y)
 exact⟨rfl,by rw[<-r1.length];exact z,I1.bk _ _ hC,hN.keeps I1.bk,T.keeps I1.bk,fun h' ea hm=>th pins σ H1 s1 h' ea _ us I1 hm q1⟩
end
open PySem PySem.Spec PySem.Calls PyProof.Rows PySem.W PySem.Builtin PySem.Builtin.ObjectAttr PySem.Builtin.Getset_descriptor
section
variable {X:Cx}
def P1(K:bJ):V->V->Hp->VK->Prop:=fun o i H Q=>∃ p xs j v,o = .ref p/\i = .int ((j:Nat):Int)/\aL K H p xs/\xs[j]?=some v/\Q v H
theorem getL(K:bJ)(hK:X.K=K:=by rfl):O8 X (P1 K):=by
 subst hK;intro pins s σ H o i ov iv Q I ro ri h;obtain⟨p,xs,j,v,rfl,rfl,hq,e,q⟩:=h;cases ro;obtain⟨t,rfl⟩:=ri;obtain⟨its,r,pl,hz⟩:=I.list hq;obtain⟨u,eu,ru⟩:=r.get e;have hj:j<xs.length:=(List.getElem?_eq_some_iff.mp e).1;have hn:=sG;exact wpAny_getItem_list pl.isList (by lia) (by lia) (by simpa using eu) ⟨v,H,I,ru,q⟩
def P4(K:bJ):R2:=fun x y H Q=>∃ l b xs zs,x = .ref l/\y = .ref b/\aL K H l xs/\aL K H b zs/\xs.length+zs.length<=sizeLine/\∀ p,H p=none->Q (.ref p) (upd H p (.lst (xs++zs)))
theorem S7(K:bJ)(hK:X.K=K:=by rfl):jT X (binaryOp .Add) (P4 K):=by
 subst hK;intro pins s σ H x y v u Q I rx ry h;obtain⟨l,b,xs,zs,rfl,rfl,hH,hB,hz,q⟩:=h;cases rx;cases ry;obtain⟨its,r,pl,_⟩:=I.list hH;obtain⟨its2,r2,RH,_⟩:=I.list hB;obtain⟨⟨cls,dd,data,sl⟩,n,e,hc,_,hd⟩:=pl;obtain⟨⟨Pk,dd2,data2,sl2⟩,n2,e2,hc2,_,hd2⟩:=RH;simp only at hc hd hc2 hd2;subst hc hd hc2 hd2;have l1:=r.length;have l2:=r2.length;have ea:its.toArray++its2.toArray=(its++its2).toArray:=by simp
 refine concat_meets ⟨_,e,rfl⟩ ⟨_,e2,rfl⟩ noFill_list_add seq_list_add PySem.F.slot_list_add PySem.F.entry_list_add (PySem.F.args_list_add_2 _ _)
  (list_addW l b its.toArray its2.toArray n n2 dd dd2 sl sl2 (by rw[List.size_toArray,List.size_toArray];lia)) ⟨e,e2,?_⟩
 rw[ea];exact⟨.ref _,_,I.Py (t':=s.toks) (r.append r2) (by rw[List.length_append];lia),rfl,q _ I.fresh⟩
end
section
variable {X:Cx}{tg:Expr}
theorem rR{iter:Expr}{body:List Stmt}{wi:TI}{g:TG}{tb:TS}{pos:Pos}(hc:X.calm=true)(hi:PI X tg iter wi)(hg:PG X.A9 tg g)(hb:vE X.A9 body tb)(hs:∀ x,foldedSetIterable iter X.env x=pure x:=by intro _;rfl):
 PS X (.For tg iter body [] pos) (dS wi g tb):=by
 intro pins s σ H D I h;refine wpAny_For (cT (hi pins s σ H _ I h) fun v s1 h1=>cT h1 fun itv s2 h2=>?_) hs
 obtain⟨it,fp,tn,J,H2,e,I2,T,st2,f2,W,⟨m0,w0⟩,turn⟩:=h2;subst e;have Bg:∀{H' : Hp},(∀ b∈fp,H' b=none)->∀ b∈fp,ni X.A9 pins H' b:=fun hn b hb=>⟨hn b hb,(f2 b hb).2⟩
 refine codeAny_forLoop_any (fun n s'=>∃ i σ' H',Inv X.A9 pins σ' H' s'/\tn i s'.heap/\(∀ b∈fp,H' b=none)/\W i n σ' H') ?_ m0 ⟨0,σ,H2,I2.sD _,st2,fun b hb=>(f2 b hb).1,w0⟩
 rintro n s3 ⟨i,σ3,H3,I3,st3,LC,w3⟩;rcases turn i n σ3 H3 w3 with⟨stop,qn⟩|⟨go,N,hN,step⟩
 ·refine wpAny_mono (T.done X.A9 rfl rfl rfl hc i pins s3 σ3 H3 (fun _ _=>False) I3 (Bg LC) st3 stop) (fun r s4 ⟨hr,I4⟩=>?_) fun _ _ z=>z.elim
  subst hr;exact wpAny_execs_nil ⟨σ3,H3,I4.iD,qn⟩
 ·refine wpAny_mono (T.item X.A9 rfl rfl rfl hc i pins s3 σ3 H3 (fun _ _=>False) I3 (Bg LC) st3 go) (fun r s4 ⟨u,hr,h4⟩=>?_) fun _ _ z=>z.elim
  subst hr;refine wpAny_mono h4 (fun _ s5 ⟨x,H5,I5,r5,y5,Gv,Pb⟩=>?_) fun _ _ z=>z.elim
  have Pc:=I5.pinned (Bg Pb) (T.obj _ _ Gv);refine wpAny_mono (hg _ s5 σ3 H5 x u _ Pc r5 (step x H5 y5)) (fun _ s6 ⟨σ6,H6,I6,q6⟩=>?_) fun _ _ z=>z.elim
  refine wpAny_mono (hb _ s6 σ6 H6 _ I6 q6) (fun f s7 q7=>?_) fun _ _ z=>z.elim
  have again:∀{σ7:St} {H7:Hp},Inv X.A9 (pins++pB fp s5.heap) σ7 H7 s7->N σ7 H7->∃ m,m<n/\∃ i σ' H',Inv X.A9 pins σ' H' s7/\tn i s7.heap/\(∀ b∈fp,H' b=none)/\W i m σ' H':=fun {σ7 H7} I7 n7=>by
   obtain⟨m',hm,w7⟩:=hN σ7 H7 n7;refine⟨m',hm,i+1,σ7,H7,I7.iE,T.keep _ _ _ Gv fun b hb o e=>(I7.pin (b,o) (List.mem_append_right _ (List.mem_append_right _ (fT hb e)))).1,fun b hb=>?_,w7⟩
   obtain⟨o,e,d⟩:=T.obj _ _ Gv b hb;exact(I7.pin (b,o) (List.mem_append_right _ (List.mem_append_right _ (fT hb e)))).2.1
  cases f with
  | next=>obtain⟨σ7,H7,I7,n7⟩:=q7;exact again I7 n7
  | cont=>obtain⟨σ7,H7,I7,n7⟩:=q7;exact again I7 n7
  | brk=>obtain⟨σ7,H7,I7,q7⟩:=q7;exact⟨σ7,H7,I7.iE.iD,q7⟩
  | ret v=>obtain⟨x7,σ7,H7,I7,r7,q7⟩:=q7;exact⟨x7,σ7,H7,I7.iE.iD,r7,q7⟩
theorem qX{P:Program}{w:World}{X:Cx}:Passes (GW P w) X (fun _ _ _=>False):=by
 intro pins σ H s e s' I q;obtain⟨_,_,_,_,_,_,_,_,_,_,_,_,_,_,_,_,z⟩:=q;rcases z with⟨_,_,z⟩|⟨_,_,_,_,_,_,_,z⟩
 ·exact z.elim
 ·exact z.elim
end
theorem Bw{K:bJ}{h:Heap}{mg:kU}{x:Str}{C:Addr}{bmB:List Value}{newId:String}(X:K.In h)(G:h.Ns mainGlobals mg)(e:PySem.W.nsIn K mainGlobals x=some (some (.ref C)))(q:PySem.W.excIn K C bmB newId=true):
 OwnCls x C bmB newId mg h:=by
 refine⟨PySem.W.mg_of X G e,?_⟩;unfold PySem.W.excIn at q
 split at q
 ·rename_i od cd sl look
  split at q
  ·rename_i Cx bm j0 j1 j2 j3 nw j5 hmro hsl
   simp only[Bool.and_eq_true,beq_iff_eq,Bool.not_eq_true']at q;obtain⟨⟨⟨⟨⟨rfl,rfl⟩,P5⟩,ht⟩,hok⟩,hni⟩:=q;obtain⟨nm,bs,mro,ns,qn,hd,sn,sub,ab,col,del⟩:=cd
   (dsimp only at hmro P5 hok hni;subst hmro P5)
   have hs2:sl = #[j0,j1,j2,j3,some (.builtin nw),j5]:=by
    obtain⟨l⟩:=sl;simp only at hsl;rw[hsl]
   subst hs2;exact⟨bm,ns,nm,qn,bs,hd,sn,sub,ab,col,od,j0,j1,j2,j3,j5,_,X _ _ look,.of_isNs (PySem.W.isNs_of_in X hok),PySem.W.nsMap_none_of_in X hok hni,PySem.W.tail_of_in X ht⟩
  ·cases q
 ·cases q
theorem S8{α:Type}:∀ us:List α,us.length=1->∃ a,us=[a]
 | [_],_=>⟨_,rfl⟩
theorem S9{α:Type}:∀ us:List α,us.length=2->∃ a b,us=[a,b]
 | [_,_],_=>⟨_,_,rfl⟩
theorem Tc{α:Type}:∀ us:List α,us.length=3->∃ a b c,us=[a,b,c]
 | [_,_,_],_=>⟨_,_,_,rfl⟩
section
variable {X:Cx}{pins:aQ}{σ:St}{H:Hp}{s:Shared}{h' : Heap}
theorem Inv.yields{t' : Nat}{wr:List Addr}{T:Addr}{o:HO}(I:Inv X pins σ H s)(k:∀ b u,b∉wr->s.heap.get? b=some u->h'.get? b=some u)(hf:∀ b∈wr,ni X pins H b)(hT:s.heap.objs.size<=T)
 (new:bf X.prog X.w (upd H T o) h' T o):Inv X pins σ (upd H T o) { s with heap:=h',toks:=t'}:=by
 have U4:H T=none:=I.hok.fresh hT;have nT:∀ b u,H b=some u->b≠T:=fun b u e=>aW e U4
 have nw:∀ b u,H b=some u->b∉wr:=fun b u e hb=>by rw[(hf b hb).1]at e;cases e
 refine I.step (g':=s.gens) (d':=s.drawn) (ch:=wr) (fun b hb=>?_) (fun b o _ _ hc e _=>k b o hc e) (fun b o _ _ hc e _=>⟨o.slots,k b o hc e⟩) (fun b u hc e n=>?_)
  (fun b o hc e=>⟨o,k b o hc e⟩) (fun b xs e=>?_) (fun b ob xs e=>?_) (fun b ps e=>⟨#[],?_⟩) (fun m hm=>?_) (fun b u e=>?_) I.bare
 ·obtain⟨_,f1,_,f3,f4,f5⟩:=hf b hb;exact⟨f3,f1,f4,f5⟩
 ·rw[aj (Nat.ne_of_lt (Nat.lt_of_lt_of_le (Heap.lt_size e) hT))];exact n
 ·rw[aj (nT b _ e)];exact e
 ·rw[aj (nT b _ e)];exact e
 ·rw[aj (nT b _ e),e];simp
 ·obtain⟨o,es,ep,ho,r⟩:=hm;exact⟨o,es,ep,k _ o (fun hb=>(hf _ hb).2.1 rfl) ho,r⟩
 ·by_cases hb:b=T
  ·subst hb;rw[ae]at e;cases e;exact new
  ·rw[aj hb]at e;refine(I.hok b u e).stay (fun c v hc q=>k c v ?_ q) (fun c q=>by rw[aj (nT c _ q)];exact q) fun c xs q=>by rw[aj (nT c _ q)];exact q
   rcases hc with z|z
   ·rw[z];exact nw b u e
   ·exact nw c _ z
theorem Inv.Kq{t' : Nat}{wr:List Addr}(I:Inv X pins σ H s)(k:∀ b u,b∉wr->s.heap.get? b=some u->h'.get? b=some u)(hf:∀ b∈wr,ni X pins H b):Inv X pins σ H { s with heap:=h',toks:=t'}:=by
 have nw:∀ b u,H b=some u->b∉wr:=fun b u e hb=>by rw[(hf b hb).1]at e;cases e
 refine I.step (g':=s.gens) (d':=s.drawn) (ch:=wr) (fun b hb=>?_) (fun b o _ _ hc e _=>k b o hc e) (fun b o _ _ hc e _=>⟨o.slots,k b o hc e⟩) (fun _ _ _ _ n=>n)
  (fun b o hc e=>⟨o,k b o hc e⟩) (fun _ _ e=>e) (fun _ _ _ e=>e) (fun b ps e=>⟨#[],by rw[e];simp⟩) (fun m hm=>?_) (fun b u e=>?_) I.bare
 ·obtain⟨_,f1,_,f3,f4,f5⟩:=hf b hb;exact⟨f3,f1,f4,f5⟩
 ·obtain⟨o,es,ep,ho,r⟩:=hm;exact⟨o,es,ep,k _ o (fun hb=>(hf _ hb).2.1 rfl) ho,r⟩
 ·refine(I.hok b u e).stay (fun c v hc q=>k c v ?_ q) (fun _ q=>q) fun _ _ q=>q
  rcases hc with z|z
  ·rw[z];exact nw b u e
  ·exact nw c _ z
end
def Om(K:bJ)(a:Addr):It :=
 ⟨fun i H=>∃ xs x,aL K H a xs/\xs[i]?=some x,fun i H v H'=>∃ T x,v = .ref T/\H T=none/\H' = upd H T (.tup [.int (i:Int),x])/\∀ xs,aL K H a xs->xs[i]?=some x,fun i H=>∃ xs,aL K H a xs/\xs.length<=i⟩
theorem Ei{P:Program}{w:World}{K:bJ}{elts:List Expr}{k:Nat}{pos:Pos}(a e it:Addr)(hne:e≠it):
 Turn P w K (.Tuple elts k pos) (Om K a) [e,it] e (fun i h=>(∃ old,IsEnum h e it (i:Int) old)/\h.IsListIter it a i) where
 mem:=by simp
 obj:=fun i h st b hb=>by
  obtain⟨⟨old,he⟩,o,ho,c,d⟩:=st;have hb' : b=e\/b=it:=by simpa using hb
  rcases hb' with rfl|rfl
  ·exact⟨_,he,fun v z=>by cases z⟩
  ·exact⟨o,ho,fun v z=>by rw[d]at z;cases z⟩
 keep:=fun i h h' st k=>by
  obtain⟨⟨old,he⟩,hit⟩:=st;exact⟨⟨old,k e (by simp) _ he⟩,hit.at fun o x=>k it (by simp) o x⟩
 item:=by
  intro X hP hw hK hc i pins s σ H E I hf st hg;subst hP hw hK;obtain⟨xs,x,hq,hx⟩:=hg;obtain⟨its,rv,p,hz⟩:=I.list hq;obtain⟨u,hu,ru⟩:=rv.get hx;obtain⟨⟨old,he⟩,hit⟩:=st;refine wpAny_pyNext_enum_item he hit p.isList (x:=u) (by simpa using hu) hne fun h1 ho MV hT hsz hk=>?_
  refine⟨_,rfl,wpAny_letOwnedTupleGo_enum ho fun h2 Ks hs2=>?_⟩
  have P6:s.heap.objs.size≠e:=Nat.ne_of_gt (Heap.lt_size he);have hT2:h2.get? s.heap.objs.size=some { cls:=.type "tuple",data:=.seq #[.int i s.toks,u]}:=(hs2.2 _ P6).trans hT;refine⟨.ref s.heap.objs.size,upd H s.heap.objs.size (.tup [.int (i:Int),x]),I.yields (wr:=[e,it]) (t':=s.toks+1) (fun b o hb q=>?_) hf (Nat.le_refl _) ?_,rfl,⟨_,x,rfl,I.fresh,rfl,fun ys hy=>by rw[I.nS hy hq];exact hx⟩,⟨⟨u,by simpa using Ks⟩,?_⟩,fun b hb=>?_⟩
  ·have GX:b≠e:=fun z=>hb (by simp[z])
   have MW:b≠it:=fun z=>hb (by simp[z])
   exact(hs2.2 b GX).trans (hk b o GX MW q)
  ·exact⟨dl rfl,[.int i s.toks,u],.cons ⟨_,rfl⟩ (.cons ru .nil),⟨_,hT2,rfl,_,rfl⟩⟩
  ·exact MV.at fun o q=>(hs2.2 it (Ne.symm hne)).trans q
  ·rw[aj]
   ·exact(hf b hb).1
   ·have hb' : b=e\/b=it:=by simpa using hb
    rcases hb' with rfl|rfl
    ·exact Ne.symm P6
    ·obtain⟨o,q,_⟩:=hit;exact Nat.ne_of_lt (Heap.lt_size q)
 done:=by
  intro X hP hw hK hc i pins s σ H E I hf st hg;subst hP hw hK;obtain⟨xs,hq,hx⟩:=hg;obtain⟨its,rv,p,hz⟩:=I.list hq;obtain⟨⟨old,he⟩,hit⟩:=st;obtain⟨f0,f1,f2,f3,f4,f5⟩:=hf it (by simp)
  have hl:=rv.length;exact wpAny_pyNext_enum_end (I.ok.hd hc) he hit p.isList (by simp;lia) fun h' eb=>⟨rfl,I.turned (t':=s.toks) (fun b o hb e=>eb b o hb e) f0 f1 f3 f4 f5⟩
 self:=fun _ _ _ _ _ st h=>by
  obtain⟨⟨old,he⟩,_⟩:=st;exact wpAny_pyIter_enum he h
def Td(K:bJ)(a b:Addr):It :=
 ⟨fun i H=>∃ xs ys x y,aL K H a xs/\aL K H b ys/\xs[i]?=some x/\ys[i]?=some y,
  fun i H v H'=>∃ T x y,v = .ref T/\H T=none/\H' = upd H T (.tup [x,y])/\(∀ xs,aL K H a xs->xs[i]?=some x)/\∀ ys,aL K H b ys->ys[i]?=some y,
  fun i H=>∃ xs ys,aL K H a xs/\aL K H b ys/\(xs.length<=i\/ys.length<=i)⟩
theorem GY{P:Program}{w:World}{K:bJ}{elts:List Expr}{k:Nat}{pos:Pos}(a b z TI TO i1 i2:Addr)(D:ZipApart z TI TO i1 i2 a b):
 Turn P w K (.Tuple elts k pos) (Td K a b) [z,TI,TO,i1,i2] z (fun i h=>IsZip h z TI TO .none/\IsPair h TI (.ref i1) (.ref i2)/\(∃ u v,IsPair h TO u v)/\h.IsListIter i1 a i/\h.IsListIter i2 b i) where
 mem:=by simp
 obj:=fun i h st c hc=>by
  obtain⟨hz,hI,⟨u,v,hO⟩,⟨o1,JB,_,d1⟩,o2,ho2,_,d2⟩:=st;have hc' : c=z\/c=TI\/c=TO\/c=i1\/c=i2:=by simpa using hc
  rcases hc' with rfl|rfl|rfl|rfl|rfl
  ·exact⟨_,hz,fun v z=>by cases z⟩
  ·exact⟨_,hI,fun v z=>by cases z⟩
  ·exact⟨_,hO,fun v z=>by cases z⟩
  ·exact⟨o1,JB,fun v z=>by rw[d1]at z;cases z⟩
  ·exact⟨o2,ho2,fun v z=>by rw[d2]at z;cases z⟩
 keep:=fun i h h' st k=>by
  obtain⟨hz,hI,⟨u,v,hO⟩,h1,h2⟩:=st;exact⟨k z (by simp) _ hz,k TI (by simp) _ hI,⟨u,v,k TO (by simp) _ hO⟩,h1.at fun o e=>k i1 (by simp) o e,h2.at fun o e=>k i2 (by simp) o e⟩
 item:=by
  intro X hP hw hK hc i pins s σ H E I hf st hg;subst hP hw hK;obtain⟨xs,ys,x,y,hq,hq2,hx,hy⟩:=hg;obtain⟨its,rv,p,Xy⟩:=I.list hq;obtain⟨its2,RI,p2,Tf⟩:=I.list hq2;obtain⟨u,hu,ru⟩:=rv.get hx;obtain⟨u2,Xz,XA⟩:=RI.get hy;obtain⟨hz,hI,⟨v1,v2,hO⟩,h1,h2⟩:=st;refine wpAny_pyNext_zip_item D hz hI hO h1 h2 p.isList p2.isList (x:=u) (y:=u2) (by simpa using hu) (by simpa using Xz) fun h3 XC XD XE XF hT hsz hk=>?_
  refine⟨_,rfl,wpAny_letOwnedTupleGo_zip XC fun h4 XG GZ=>?_⟩
  have lt:∀{c o},s.heap.get? c=some o->s.heap.objs.size≠c:=fun e=>Nat.ne_of_gt (Heap.lt_size e)
  have RJ:h4.get? s.heap.objs.size=some { cls:=.type "tuple",data:=.seq #[u,u2]}:=(GZ.2 _ (lt hz)).trans hT;have kk:∀ c o,c∉[z,TO,i1,i2]->s.heap.get? c=some o->h4.get? c=some o:=fun c o hc q=>by
   have c1:c≠z:=fun e=>hc (by simp[e])
   exact(GZ.2 c c1).trans (hk c o c1 (fun e=>hc (by simp[e])) (fun e=>hc (by simp[e])) (fun e=>hc (by simp[e])) q)
  have hsub:∀ c∈[z,TO,i1,i2],c∈[z,TI,TO,i1,i2]:=fun c hc=>by
   have hc' : c=z\/c=TO\/c=i1\/c=i2:=by simpa using hc
   rcases hc' with rfl|rfl|rfl|rfl<;>simp
  refine⟨.ref s.heap.objs.size,upd H s.heap.objs.size (.tup [x,y]),I.yields (wr:=[z,TO,i1,i2]) (t':=s.toks) kk (fun c hc=>hf c (hsub c hc)) (Nat.le_refl _) ?_,rfl,
   ⟨_,x,y,rfl,I.fresh,rfl,fun zs hy=>by rw[I.nS hy hq];exact hx,fun zs hz=>by rw[I.nS hz hq2];exact hy⟩,⟨XG,(GZ.2 _ D.TIz).trans (hk _ _ D.TIz D.TITO D.TIi1 D.TIi2 hI),⟨u,u2,(GZ.2 _ D.TOz).trans XD⟩,?_,?_⟩,fun c hc=>?_⟩
  ·exact⟨dl rfl,[u,u2],.cons ru (.cons XA .nil),⟨_,RJ,rfl,_,rfl⟩⟩
  ·exact XE.at fun o q=>(GZ.2 _ D.i1z).trans q
  ·exact XF.at fun o q=>(GZ.2 _ D.i2z).trans q
  ·rw[aj]
   ·exact(hf c hc).1
   ·have hc' : c=z\/c=TI\/c=TO\/c=i1\/c=i2:=by simpa using hc
    rcases hc' with rfl|rfl|rfl|rfl|rfl
    ·exact Ne.symm (lt hz)
    ·exact Ne.symm (lt hI)
    ·exact Ne.symm (lt hO)
    ·obtain⟨o,q,_⟩:=h1;exact Ne.symm (lt q)
    ·obtain⟨o,q,_⟩:=h2;exact Ne.symm (lt q)
 done:=by
  intro X hP hw hK hc i pins s σ H E I hf st hg;subst hP hw hK;obtain⟨xs,ys,hq,hq2,hx⟩:=hg;obtain⟨its,rv,p,Xy⟩:=I.list hq;obtain⟨its2,RI,p2,Tf⟩:=I.list hq2;obtain⟨hz,hI,⟨v1,v2,hO⟩,h1,h2⟩:=st;have hl:=rv.length;have hl2:=RI.length;have hsub:∀ c∈[z,TO,i1,i2],c∈[z,TI,TO,i1,i2]:=fun c hc=>by
   have hc' : c=z\/c=TO\/c=i1\/c=i2:=by simpa using hc
   rcases hc' with rfl|rfl|rfl|rfl<;>simp
  refine wpAny_pyNext_zip_end (I.ok.hd hc) D hz hI hO h1 h2 p.isList p2.isList (hx.imp (fun q=>by simp;lia) fun q=>by simp;lia) fun h' kk=>⟨rfl,I.Kq (wr:=[z,TO,i1,i2]) (t':=s.toks) (fun c o hc q=>?_) fun c hc=>hf c (hsub c hc)⟩
  exact kk c o (fun e=>hc (by simp[e])) (fun e=>hc (by simp[e])) (fun e=>hc (by simp[e])) (fun e=>hc (by simp[e])) q
 self:=fun _ _ _ _ _ st h=>wpAny_pyIter_zip st.1 h
theorem Ej{n a b:Nat}(la:a<n)(lb:b<n):ZipApart (n+4) (n+2) (n+3) n (n+1) a b:=by
 have k:∀{x y:Nat},x<y\/y<x->x≠y:=fun h=>by lia
 constructor<;>exact k (by lia)
section
variable {X:Cx}{elts:List Expr}{n:Nat}{tp:Pos}
def P7(K:bJ)(ta:TA):TI:=fun σ H R=>ta σ H fun vs H1=>∃ a,vs=[.ref a]/\(∃ xs,aL K H1 a xs)/\R (Om K a) H1
def Tg(K:bJ)(ta:TA):TI:=fun σ H R=>ta σ H fun vs H1=>∃ a b,vs=[.ref a,.ref b]/\(∃ xs,aL K H1 a xs)/\(∃ ys,aL K H1 b ys)/\R (Td K a b) H1
theorem Dg(K:bJ){a:Expr}{ta:TA}{p pos:Pos}(hg:Gl X "enumerate")(hm:X.mg "enumerate"=none)(ha:PA X [a] ta)(hs:starEach [a] X.env=[(false,eval a X.env)]:=by rfl)(hK:X.K=K:=by rfl):
 PI X (.Tuple elts n tp) (.Call (.Name "enumerate" p) [a] [] pos) (P7 K ta):=by
 subst hK;intro pins s σ H R I h;refine Call_ (jr I hg hm boot_enumerate (PyProof.Rows.callWith_type1 (cT (ha pos pins s σ H _ I h) fun us s1 ⟨vs,H1,I1,r1,q1⟩=>?_) hs rfl))
 obtain⟨a,e,⟨xs,hq⟩,q⟩:=q1;subst e;cases r1 with
 | cons r rr =>
   cases rr;cases r;obtain⟨its,rv,pl,hz⟩:=I1.list hq;refine call_enumerate_list pl.isList fun h' he hit hsz hk=>?_
   have I2:Inv X pins σ H1 { s1 with heap:=h'}:=I1.kept (t':=s1.toks) hk
   refine wpAny_pyIter_enum he ⟨_,[s1.heap.objs.size+1,s1.heap.objs.size],_,_,H1,rfl,I2,Ei a _ _ (Nat.succ_ne_self _),⟨⟨_,he⟩,hit⟩,fun b hb=>?_,q⟩
   have hb' : b=s1.heap.objs.size+1\/b=s1.heap.objs.size:=by simpa using hb
   have P8:s1.heap.objs.size<=b:=by
    rcases hb' with rfl|rfl
    ·exact Nat.le_succ _
    ·exact Nat.le_refl _
   exact I1.D0 P8 (I1.hok.fresh P8)
theorem MX(K:bJ){a b:Expr}{ta:TA}{p pos:Pos}(hg:Gl X "zip")(hm:X.mg "zip"=none)(ha:PA X [a,b] ta)(hs:starEach [a,b] X.env=[(false,eval a X.env),(false,eval b X.env)]:=by rfl)(hs2:starEach [b] X.env=[(false,eval b X.env)]:=by rfl)(hK:X.K=K:=by rfl):
 PI X (.Tuple elts n tp) (.Call (.Name "zip" p) [a,b] [] pos) (Tg K ta):=by
 subst hK;intro pins s σ H R I h;refine Call_ (jr I hg hm boot_zip (PyProof.Rows.callWith_type1 (cT (ha pos pins s σ H _ I h) fun us s1 ⟨vs,H1,I1,r1,q1⟩=>?_) (by rw[hs,hs2]) (by rw[hs2];rfl)))
 obtain⟨a,b,e,⟨xs,hq⟩,⟨ys,hq2⟩,q⟩:=q1;subst e;cases r1 with
 | cons r rr =>
   cases rr with
   | cons r' rr =>
     cases rr;cases r;cases r';obtain⟨its,rv,pl,hz⟩:=I1.list hq;obtain⟨its2,RI,RH,hz2⟩:=I1.list hq2;refine call_zip_2 pl.isList RH.isList fun h' U5 hI hO h1 h2 hsz hk=>?_
     have I2:Inv X pins σ H1 { s1 with heap:=h'}:=I1.kept (t':=s1.toks) hk
     have la:a<s1.heap.objs.size:=by obtain⟨_,q,_⟩:=pl.isList;exact Heap.lt_size q
     have lb:b<s1.heap.objs.size:=by obtain⟨_,q,_⟩:=RH.isList;exact Heap.lt_size q
     refine wpAny_pyIter_zip U5 ⟨_,[s1.heap.objs.size+4,s1.heap.objs.size+2,s1.heap.objs.size+3,s1.heap.objs.size,s1.heap.objs.size+1],_,_,H1,rfl,I2,
      GY a b _ _ _ _ _ (Ej la lb),⟨U5,hI,⟨_,_,hO⟩,h1,h2⟩,fun c hc=>?_,q⟩
     have hc' : c=s1.heap.objs.size+4\/c=s1.heap.objs.size+2\/c=s1.heap.objs.size+3\/c=s1.heap.objs.size\/c=s1.heap.objs.size+1:=by simpa using hc
     have hcs:s1.heap.objs.size<=c:=by
      rcases hc' with rfl|rfl|rfl|rfl|rfl
      ·exact Nat.le_add_right _ _
      ·exact Nat.le_add_right _ _
      ·exact Nat.le_add_right _ _
      ·exact Nat.le_refl _
      ·exact Nat.le_add_right _ _
     exact I1.D0 hcs (I1.hok.fresh hcs)
end
section
variable {K:bJ}{a b:Addr}{xs ys:List V}{g:TG}{tt:TT}{te:TE}{n:Nat}{fr:St}{D:Addr}{Q:Hp->Prop}{H1:Hp}
theorem G0{tb:TS}{D:Ends}{σ:St}{H:Hp}(Pv:Nat->St->Hp->Prop)(h0:Pv 0 σ H)(hl:∀ i σ H,i<=xs.length->Pv i σ H->aL K H a xs)
 (hs:∀ i x T σ H,xs[i]?=some x->Pv i σ H->H T=none->g (.ref T) σ (upd H T (.tup [.int (i:Int),x])) fun σ2 H2=>tb { D with nx:=Pv (i+1),ct:=Pv (i+1),bk:=D.nx} σ2 H2) (hd:∀ σ H,Pv xs.length σ H->D.nx σ H) :
 ∃ W:Nat->Nat->St->Hp->Prop,(∃ m,W 0 m σ H)/\∀ i m σ H,W i m σ H->
   ((Om K a).stop i H/\D.nx σ H)\/((Om K a).go i H/\∃ N:St->Hp->Prop,(∀ σ' H',N σ' H'->∃ m',m'<m/\W (i+1) m' σ' H')/\∀ x H',(Om K a).JA i H x H'->g x σ H' fun σ2 H2=>tb { D with nx:=N,ct:=N,bk:=D.nx} σ2 H2):=by
 refine⟨fun i m σ H=>m=xs.length-i/\i<=xs.length/\Pv i σ H,⟨xs.length,by simp,Nat.zero_le _,h0⟩,?_⟩
 rintro i m σ H ⟨rfl,hi,p⟩;have q:=hl i σ H hi p
 by_cases hlt:i<xs.length
 ·refine .inr ⟨⟨xs,xs[i],q,by simp[hlt]⟩,Pv (i+1),fun σ' H' p'=>⟨xs.length-(i+1),by lia,rfl,hlt,p'⟩,fun v H' y=>?_⟩
  obtain⟨T,x,rfl,hT,rfl,y⟩:=y;exact hs i x T σ _ (y xs q) p hT
 ·have e:i=xs.length:=by lia
  subst e;exact .inl ⟨⟨xs,q,Nat.le_refl _⟩,hd σ H p⟩
theorem G3(hxy:xs.length=ys.length)(Pv:Nat->List V->Hp->Prop)(h0:Pv 0 [] H1)(hl:∀ i acc H,i<=xs.length->Pv i acc H->aL K H a xs/\aL K H b ys/\H D=some (.lst acc)/\acc.length<=i)(hz:xs.length<=sizeLine)
 (hs:∀ i x y T acc H,xs[i]?=some x->ys[i]?=some y->Pv i acc H->H T=none->g (.ref T) (List.replicate n none++fr) (upd H T (.tup [x,y])) fun σ2 H2=>σ2.drop n=fr/\tt σ2 H2 fun b H3 =>
  if b=true then te σ2 H3 fun v H4=>H4 D=some (.lst acc)/\Pv (i+1) (acc++[v]) (upd H4 D (.lst (acc++[v]))) else Pv (i+1) acc H3)
 (hd:∀ acc H,Pv xs.length acc H->Q H):iG (Td K a b) g tt te n fr D Q H1:=by
 refine⟨fun i m acc H=>m=xs.length-i/\i<=xs.length/\Pv i acc H,⟨xs.length,by simp,Nat.zero_le _,h0⟩,?_⟩
 rintro i m acc H ⟨rfl,hi,p⟩;obtain⟨q,q2,hD,ha⟩:=hl i acc H hi p;refine⟨hD,?_⟩
 by_cases hlt:i<xs.length
 ·have Th:i<ys.length:=by lia
  refine .inr ⟨⟨xs,ys,xs[i],ys[i],q,q2,by simp[hlt],by simp[Th]⟩,by lia,Pv (i+1),fun acc' H' p'=>⟨xs.length-(i+1),by lia,rfl,hlt,p'⟩,fun v H' y=>?_⟩
  obtain⟨T,x,z,rfl,hT,rfl,y1,y2⟩:=y;exact hs i x z T acc _ (y1 xs q) (y2 ys q2) p hT
 ·have e:i=xs.length:=by lia
  subst e;exact .inl ⟨⟨xs,ys,q,q2,.inl (Nat.le_refl _)⟩,hd acc H p⟩
end
section
variable {X:Cx}
theorem zk:fg X (.type "range") (fun xs H Q=>∃ j:Int,xs=[.int j]/\∀ p,H p=none->Q (.ref p) (upd H p (.DW 0 j))):=by
 intro pins s σ H xs us Q I r h;obtain⟨j,rfl,q⟩:=h;obtain⟨u,rfl,t,rfl⟩:=vals1 r;refine call_range_1 ⟨.ref s.heap.objs.size,_,I.laid (t':=s.toks+1+1) (fun b o e=>Heap.get?_push_of_some _ e) (Nat.le_refl _) ?_,rfl,q _ I.fresh⟩
 exact⟨_,_,_,Heap.get?_push_size _ rfl⟩
def uW(n:Nat):List V:=(List.range n).map fun i=>V.int ((i:Nat):Int)
theorem LO(hc:X.calm=true):fg X (.type "list") (fun xs H Q=>∃ p,∃ n:Nat,xs=[.ref p]/\H p=some (.DW 0 (n:Int))/\n<=900/\∀ l,H l=none->Q (.ref l) (upd H l (.lst (uW n)))):=by
 intro pins s σ H xs us Q I r h;obtain⟨p,n,rfl,hp,hn,q⟩:=h;obtain⟨u,rfl,rx⟩:=vals1 r;cases rx;obtain⟨t,u,v,e⟩:=(show bf X.prog X.w H s.heap p (.DW 0 (n:Int)) from I.hok p _ hp)
 have hsz:Builtin.Range.rangeSize 0 (n:Int) 1=(n:Int):=by rw[rangeSize_one];split<;>lia
 refine call_list_range (I.ok.hd hc) e (small_one (by lia) (by lia) (by lia) (by lia)) hsz (Nat.le_trans hn (by decide)) fun h' tk acc c kp e' hacc=>?_
 refine⟨.ref s.heap.objs.size,_,I.laid (t':=tk) kp (Nat.le_refl _) ?_,rfl,q _ I.fresh⟩;have hl:acc.toList.length=n:=by rw[Array.length_toList];exact hacc.1
 have hz:(uW n).length<=sizeLine:=by
  unfold uW;rw[List.length_map,List.length_range];exact Nat.le_of_lt (jI (by lia))
 refine⟨hz,acc.toList,c,?_,by simpa using e'⟩
 have key:∀(ys:List Value) (k:Nat),(∀ j v,ys[j]?=some v->∃ t,v=Value.int (((k+j:Nat)):Int) t)->Vals ((List.range' k ys.length).map fun i=>V.int ((i:Nat):Int)) ys:=by
  intro ys
  induction ys with
  | nil=>intro k _;exact .nil
  | cons y r ih =>
    intro k hy;obtain⟨t,ht⟩:=hy 0 y rfl;refine .cons ⟨t,by simpa using ht⟩ (ih (k+1) fun j v hv=>?_)
    obtain⟨t',ht'⟩:=hy (j+1) v (by simpa using hv)
    exact⟨t',by rw[ht'];congr 2;lia⟩
 have z:=key acc.toList 0 fun j v hv=>by
  obtain⟨t,ht⟩:=hacc.2 j v (by simpa using hv)
  exact⟨t,by rw[ht];congr 1;lia⟩
 rw[hl]at z;unfold uW;rw[List.range_eq_range'];exact z
theorem sumK(K:bJ)(hc:X.calm=true)(hK:X.K=K:=by rfl):fg X (.builtin "sum") (fun xs H Q=>∃(p:Addr) (ns:List Int),xs=[.ref p]/\aL K H p (ns.map V.int)/\Q (.int ns.sum) H):=by
 subst hK;intro pins s σ H xs us Q I r h;obtain⟨p,ns,rfl,hq,q⟩:=h;obtain⟨u,rfl,rx⟩:=vals1 r;cases rx;obtain⟨its,rv,pl,hz⟩:=I.list hq;have hi:∀{ns:List Int} {its:List Value},Vals (ns.map V.int) its->∃ xs:Array (Int×Tok),its.toArray=intItems xs/\xs.toList.map (·.1)=ns:=by
  intro ns
  induction ns with
  | nil=>intro its r;cases r;exact⟨#[],by simp[intItems],rfl⟩
  | cons a l ih =>
    intro its r;cases r with
    | cons r1 r2 =>
      obtain⟨t,rfl⟩:=r1;obtain⟨xs,h1,h2⟩:=ih r2;refine⟨#[(a,t)]++xs,?_,by simp[h2]⟩
      have GX:=congrArg Array.toList h1;simp only[intItems,Array.toList_map,List.toList_toArray]at GX;simp[intItems,GX,Array.map_append]
 obtain⟨ar,e1,e2⟩:=hi rv;have hl:s.heap.IsList p (intItems ar):=e1▸pl.isList;refine sum_intListG (I.ok.hd hc) hl fun h' tk t' hk=>?_
 have e3:preSum (numAt ar) ar.size=ns.sum:=by rw[preSum_eq,List.take_of_length_le (by simp),e2]
 rw[e3];exact⟨.int ns.sum,H,I.kept hk,⟨t',rfl⟩,q⟩
theorem Ti(K:bJ)(hc:X.calm=true)(hK:X.K=K:=by rfl):fg X (.type "set") (fun xs H Q=>∃(p:Addr) (ns:List Int),xs=[.ref p]/\aL K H p (ns.map V.int)/\ns.length<=900/\
 ∀(l:Addr) (S:Int->Bool),H l=none->Q (.ref l) (upd H l (.set S (firstMet (fun i=>ns.getD i 0) ns.length).length))):=by
 subst hK;intro pins s σ H xs us Q I r h;obtain⟨p,ns,rfl,hq,hn,q⟩:=h;obtain⟨u,rfl,rx⟩:=vals1 r;cases rx;obtain⟨its,rv,pl,hz⟩:=I.list hq;have hl:=rv.length;rw[List.length_map]at hl;have hsz:its.toArray.size=ns.length:=by rw[List.size_toArray];lia
 refine PySem.call_set_list (I.ok.hd hc) pl.isList (ns:=ns) (by simpa using intsAre_of rv) (by rw[hsz];show ns.length+1<4096;lia) fun h' tk hS hk=>?_
 rw[hsz]at hS;exact⟨.ref s.heap.objs.size,_,I.laid (t':=tk) (o:=.set (fun k'=>(firstMet (fun i=>ns.getD i 0) ns.length).any fun x=>x==k') (firstMet (fun i=>ns.getD i 0) ns.length).length) (fun b o e=>hk b o (Heap.lt_size e) e) (Nat.le_refl _) hS,rfl,q _ _ I.fresh⟩
theorem MY:fg X (.builtin "len") (fun xs H Q=>∃(p:Addr) (S:Int->Bool) (n:Nat),xs=[.ref p]/\H p=some (.set S n)/\Q (.int (n:Int)) H):=by
 intro pins s σ H xs us Q I r h;obtain⟨p,S,n,rfl,hp,q⟩:=h;obtain⟨u,rfl,rx⟩:=vals1 r;cases rx;obtain⟨o,es,ep,t,ho,hex,hd,_,_,hb,hf,rfl⟩:=(show bf X.prog X.w H s.heap p (.set S n) from I.hok p _ hp)
 refine call_len_set ho hex hd hf (by have:es.size<4096:=hb;lia) ⟨.int _,H,I.tok _,⟨_,rfl⟩,q⟩
end
end L2
namespace HT
open PySem PyProof.Rows
end HT
namespace L2
open PySem PySem.Spec PyProof.Rows
end L2
namespace Ring
open PySem
abbrev c5:=Int×Int×Int
def bit(S:Int)(k:Nat):Bool:=decide (S/2^k%2=1)
def bu(S:Int):List Nat:=(List.range (Builtin.Int.intBits S)).filter (bit S)
def bump(e:List Int)(i:Int):List Int:=e.set i.toNat (e.getD i.toNat 0+1)
def step(ts:List c5)(e:List Int)(k:Nat):List Int:=match ts[k]? with
 | some t=>bump (bump e t.1) t.2.1
 | none=>e
def jt(p:Nat)(ts:List c5)(S:Int):List Int:=(bu S).foldl (step ts) (List.replicate p 0)
def sP(p:Nat)(ts:List c5)(S:Int):List Nat:=(List.range p).filter fun i=>decide ((jt p ts S).getD i 0%2=1)
def JC(ts:List c5)(k i:Nat):Int:=match ts[k]? with
 | some t=>(if t.1=(i:Int) then 1 else 0)+(if t.2.1=(i:Int) then 1 else 0)
 | none=>0
theorem jJ(e:List Int)(i:Int):(bump e i).length=e.length:=by unfold bump;rw[List.length_set]
theorem G4(ts:List c5)(e:List Int)(k:Nat):(step ts e k).length=e.length:=by
 unfold step
 split
 ·rw[jJ,jJ]
 ·rfl
theorem zl(e:List Int)(j:Int)(i:Nat)(h0:0<=j)(h1:j<e.length):(bump e j).getD i 0=e.getD i 0+if j=(i:Int) then 1 else 0:=by
 unfold bump;rw[List.getD_eq_getElem?_getD,List.getD_eq_getElem?_getD,List.getD_eq_getElem?_getD]
 by_cases h:j=(i:Int)
 ·have hi:j.toNat=i:=by lia
  rw[if_pos h,hi,List.getElem?_set_self (by lia)]
  rfl
 ·have hi:j.toNat≠i:=by lia
  rw[if_neg h,List.getElem?_set_ne hi]
  lia
structure Dh(p:Nat)(ts:List c5):Prop where
 ends:∀ t∈ts,0<=t.1/\t.1<(p:Int)/\0<=t.2.1/\t.2.1<(p:Int)
theorem step_get{p:Nat}{ts:List c5}(W:Dh p ts)(e:List Int)(k i:Nat)(he:e.length=p):(step ts e k).getD i 0=e.getD i 0+JC ts k i:=by
 unfold step JC;cases h:ts[k]? with
 | none=>simp
 | some t =>
   obtain⟨a0,a1,b0,b1⟩:=W.ends t (List.mem_of_getElem? h);dsimp only;rw[zl _ _ _ b0 (by rw[jJ,he];exact b1),zl _ _ _ a0 (by rw[he];exact a1)]
   lia
def pH(ts:List c5)(ks:List Nat)(i:Nat):Int:=(ks.map fun k=>JC ts k i).sum
theorem zm{p:Nat}{ts:List c5}(W:Dh p ts)(i:Nat):∀(ks:List Nat) (e:List Int),e.length=p->(ks.foldl (step ts) e).getD i 0=e.getD i 0+pH ts ks i
 | [],e,_=>by simp[pH]
 | k::r,e,he=>by
   rw[List.foldl_cons,zm W i r _ (by rw[G4,he]),step_get W e k i he]
   unfold pH;rw[List.map_cons,List.sum_cons]
   lia
theorem G5{p:Nat}{ts:List c5}(W:Dh p ts)(S:Int)(i:Nat):(jt p ts S).getD i 0=pH ts (bu S) i:=by
 unfold jt;rw[zm W i _ _ (by simp)]
 have e:(List.replicate p (0:Int)).getD i 0=0:=by
  rw[List.getD_eq_getElem?_getD,List.getElem?_replicate]
  split<;>rfl
 rw[e]
 lia
theorem fE(m k:Nat):bit (m:Int) k=m.testBit k:=by
 unfold bit;rw[Nat.testBit_eq_decide_div_mod_eq];have e:((m:Int)/2^k%2=1)↔(m/2^k%2=1):=by
  have h2:((2:Int)^k)=((2^k:Nat):Int):=by simp
  rw[h2,<-Int.natCast_ediv]
  lia
 simp only[e]
theorem sQ(m:Nat):Builtin.Int.intBits (m:Int)=if m=0 then 0 else m.log2+1:=by
 unfold Builtin.Int.intBits
 by_cases h:m=0
 ·simp[h]
 ·simp[h]
theorem bits_le{m n:Nat}(h:m<2^n):Builtin.Int.intBits (m:Int)<=n:=by
 rw[sQ]
 split
 ·exact Nat.zero_le _
 ·rename_i h0
  exact(Nat.log2_lt h0).mpr h
theorem zo{m k:Nat}(h:Builtin.Int.intBits (m:Int)<=k):bit (m:Int) k=false:=by
 rw[fE];rw[sQ]at h
 by_cases h0:m=0
 ·simp[h0]
 ·rw[if_neg h0]at h;exact Nat.testBit_lt_two_pow (Nat.lt_of_lt_of_le Nat.lt_log2_self (Nat.pow_le_pow_right (by decide) h))
theorem n5(f:Nat->Bool)(a:Nat):∀ d,(∀ k,a<=k->f k=false)->(List.range (a+d)).filter f=(List.range a).filter f
 | 0,_=>rfl
 | d+1,h=>by
   rw[<-Nat.add_assoc,List.range_succ,List.filter_append,n5 f a d h];have e:[a+d].filter f=[]:=by rw[List.filter_cons,if_neg (by rw[h _ (by lia)];simp)];rfl
   rw[e,List.append_nil]
theorem iI{m n:Nat}(h:m<2^n):bu (m:Int)=(List.range n).filter fun k=>m.testBit k:=by
 unfold bu;have hb:=bits_le h;obtain⟨d,hd⟩:=Nat.exists_eq_add_of_le hb;have e:(fun k=>m.testBit k)=bit (m:Int):=funext fun k=>(fE m k).symm
 rw[e]
 conv=>rhs;rw[hd]
 exact(n5 _ _ d fun k hk=>zo hk).symm
theorem rS{m n:Nat}(h:m<2^n){k:Nat}(hk:k∈bu (m:Int)):k<n:=by
 rw[iI h]at hk;exact List.mem_range.mp (List.mem_filter.mp hk).1
theorem sum_filter(ts:List c5)(i:Nat)(f:Nat->Bool):∀ ks:List Nat,pH ts (ks.filter f) i=(ks.map fun k=>if f k=true then JC ts k i else 0).sum
 | []=>rfl
 | k::r=>by
   have ih:=sum_filter ts i f r;rw[List.map_cons,List.sum_cons,<-ih];cases h:f k with
   | true =>
     rw[List.filter_cons,if_pos h];unfold pH;rw[List.map_cons,List.sum_cons];simp
   | false =>
     rw[List.filter_cons,if_neg (by rw[h];simp)]
     simp
theorem G6{a b x y:Nat}(q:x/2+2*(y/2)=a/2+b/2)(h:x%2+2*(y%2)=a%2+b%2):x+2*y=a+b:=by lia
theorem mod_one{u v:Nat}(hu:u=0\/u=1)(hv:v=0\/v=1):(u^^^v)+2*(u&&&v)=u+v:=by
 rcases hu with rfl|rfl<;>rcases hv with rfl|rfl<;>rfl
theorem xC:∀ a b:Nat,(a^^^b)+2*(a&&&b)=a+b:=by
 intro a
 induction a using Nat.strongRecOn with
 | ind a ih =>
   intro b
   by_cases h:a=0
   ·subst h;simp
   ·have q:=ih (a/2) (by lia) (b/2)
    rw[<-Nat.xor_div_two,<-Nat.and_div_two]at q;refine G6 q ?_;have e1:(a^^^b)%2=a%2^^^b%2:=Nat.xor_mod_two_pow (n:=1);have e2:(a&&&b)%2=a%2&&&b%2:=Nat.and_mod_two_pow (n:=1);rw[e1,e2];exact mod_one (Nat.mod_two_eq_zero_or_one a) (Nat.mod_two_eq_zero_or_one b)
theorem xor_int(a b:Nat):Builtin.bitXor (a:Int) (b:Int)=((a^^^b:Nat):Int):=by
 have h:(a:Int)+b-2*((a&&&b:Nat):Int)=((a^^^b:Nat):Int):=by
  have q:=xC a b
  lia
 have e:=PyProof.Rows.bitXor_and (a:Int) (b:Int);rw[e,PyProof.Rows.bitAnd_pp (by lia) (by lia)]
 simpa using h
open PySem L2
def Ku(t:c5):List V:=[.int t.1,.int t.2.1,.int t.2.2]
def TupAt(H:Hp)(x:V)(t:c5):Prop:=∃ b,x = .ref b/\H b=some (.tup (Ku t))
structure bg(H:Hp)(w:Addr)(p:Nat)(ts:List c5):Prop where
 ex:∃ b xs,H w=some (.tup [.int (p:Int),.ref b])/\H b=some (.tup xs)/\Paired (TupAt H) xs ts
structure Kv(p:Nat)(ts:List c5):Prop where
 U6:Dh p ts
 len:ts.length<=24
 U7:p<=10
theorem TupAt.tups{H H' : Hp}(s:dH H H'){x:V}{t:c5}(h:TupAt H x t):TupAt H' x t:=by
 obtain⟨b,e,h⟩:=h;exact⟨b,e,s _ _ h⟩
theorem bg.tups{H H' : Hp}{w:Addr}{p:Nat}{ts:List c5}(s:dH H H')(h:bg H w p ts):bg H' w p ts:=by
 obtain⟨b,xs,h1,h2,h3⟩:=h.ex;exact⟨b,xs,s _ _ h1,s _ _ h2,Paired.imp' (fun _ _ z=>z.tups s) h3⟩
theorem bg.same{H H' : Hp}{w:Addr}{p:Nat}{ts:List c5}(s:aq H H')(h:bg H w p ts):bg H' w p ts:=h.tups s.tups
def aA(l:List Nat):List V:=l.map fun k=>V.int ((k:Nat):Int)
theorem bY(l:List Nat)(k:Nat):aA (l++[k])=aA l++[.int (k:Int)]:=by unfold aA;rw[List.map_append];rfl
theorem aC(l:List Nat):(aA l).length=l.length:=by unfold aA;rw[List.length_map]
theorem cg{l:List Nat}{i:Nat}{x:V}(h:(aA l)[i]?=some x):∃ k,l[i]?=some k/\x = .int (k:Int):=by
 unfold aA at h;rw[List.getElem?_map]at h;obtain⟨k,e,q⟩:=Option.map_eq_some_iff.mp h;exact⟨k,e,q.symm⟩
theorem aU(f:Nat->Bool)(i:Nat):(List.range (i+1)).filter f=(List.range i).filter f++(if f i=true then[i] else[]):=by
 rw[List.range_succ,List.filter_append]
 congr 1
 cases h:f i with
 | true=>rw[List.filter_cons,if_pos h,if_pos rfl];rfl
 | false=>rw[List.filter_cons,if_neg (by rw[h];simp),if_neg (by simp)];rfl
def mX(f:Nat->Bool)(H:Hp)(D:Addr)(i:Nat)(acc:List V)(H2:Hp):Prop:=aq H H2/\H2 D=some (.lst acc)/\acc=aA ((List.range i).filter f)
section
variable {f:Nat->Bool}{H H2 H3:Hp}{D:Addr}{i:Nat}{acc:List V}
theorem mX.start(hD:H D=none):mX f H D 0 [] (upd H D (.lst [])):=⟨aq.new hD,ae,rfl⟩
theorem mX.len(p:mX f H D i acc H2):H2 D=some (.lst acc)/\acc.length<=i:=by
 refine⟨p.2.1,?_⟩;rw[p.2.2,aC];exact Nat.le_trans (List.length_filter_le _ _) (by rw[List.length_range];exact Nat.le_refl _)
theorem mX.yes(p:mX f H D i acc H2)(hD:H D=none)(s:aq H2 H3)(hf:f i=true):H3 D=some (.lst acc)/\mX f H D (i+1) (acc++[.int (i:Int)]) (upd H3 D (.lst (acc++[.int (i:Int)]))):=by
 refine⟨s _ _ p.2.1,(p.1.trans s).put hD,ae,?_⟩;rw[aU,if_pos hf,bY,<-p.2.2]
theorem mX.no(p:mX f H D i acc H2)(s:aq H2 H3)(hf:f i=false):mX f H D (i+1) acc H3:=by
 refine⟨p.1.trans s,s _ _ p.2.1,?_⟩;rw[aU,if_neg (by rw[hf];simp),List.append_nil]
 exact p.2.2
end
def bN(ts:List c5)(k:Nat):c5:=ts.getD k (0,0,0)
def stepT(e:List Int)(t:c5):List Int:=bump (bump e t.1) t.2.1
theorem vN{ts:List c5}:∀(ks:List Nat) (e:List Int),(∀ k∈ks,k<ts.length)->(ks.map (bN ts)).foldl stepT e=ks.foldl (step ts) e
 | [],_,_=>rfl
 | k::r,e,h=>by
   rw[List.map_cons,List.foldl_cons,List.foldl_cons,vN r _ fun j hj=>h j (List.mem_cons_of_mem _ hj)]
   have hk:=h k List.mem_cons_self;have e1:ts[k]?=some (bN ts k):=by
    unfold bN;rw[List.getD_eq_getElem?_getD];simp[hk]
   have e2:step ts e k=stepT e (bN ts k):=by
    unfold step stepT;rw[e1]
   rw[e2]
theorem vO{p:Nat}{ts:List c5}{m:Nat}(h:m<2^ts.length):jt p ts (m:Int)=((bu (m:Int)).map (bN ts)).foldl stepT (List.replicate p 0):=by
 unfold jt;rw[vN _ _ fun k hk=>rS h hk]
theorem Ek(e:List Int)(t:c5):(stepT e t).length=e.length:=by unfold stepT;rw[jJ,jJ]
theorem pJ:∀(l:List c5) (e:List Int),(l.foldl stepT e).length=e.length
 | [],_=>rfl
 | t::r,e=>by rw[List.foldl_cons,pJ r,Ek]
def k9(l:List Int):List V:=l.map V.int
theorem pL{l:List Int}{i:Nat}(h:i<l.length):(k9 l)[i]?=some (.int (l.getD i 0)):=by
 unfold k9;rw[List.getElem?_map,List.getD_eq_getElem?_getD];simp[h]
theorem sR(l:List Int)(i:Nat):(k9 l).set i (.int (l.getD i 0+1))=k9 (bump l (i:Int)):=by
 unfold k9 bump;rw[Int.toNat_natCast,List.map_set]
theorem G7(p:Nat):(List.replicate p [V.int 0]).flatten=k9 (List.replicate p 0):=by
 induction p with
 | zero=>rfl
 | succ p ih=>rw[List.replicate_succ,List.flatten_cons,ih,List.replicate_succ];rfl
theorem n6{n j:Nat}(h:j<n):J7 n (j:Int)=some j:=by
 unfold J7;rw[if_pos (by lia),if_pos (by lia),Int.toNat_natCast]
def xD(k:Nat):PyData:=.int (k:Int)
theorem zp{K:bJ}{H:Hp}:∀ l:List Nat,DatVs K H (aA l) (l.map xD)
 | []=>.nil
 | _::r=>.cons (.int _) (zp r)
theorem zq:∀ l:List Nat,PyData.canLayAll0 (l.map xD)=true
 | []=>rfl
 | _::r=>by
   have ih:=zq r;simp only[List.map_cons,PyData.canLayAll0,ih,Bool.and_true];rfl
theorem vP:∀ l:List Nat,PyData.depthAll (l.map xD)=0
 | []=>rfl
 | _::r=>by
   have ih:=vP r;show max (PyData.depth (PyData.int _)) (PyData.depthAll (r.map _))=0;rw[ih];rfl
theorem zu(l:List Nat):SeqAt.shaped (.list (l.map xD))=true:=by
 unfold SeqAt.shaped;have e:(PyData.list (l.map xD)).canLay0=PyData.canLayAll0 (l.map xD):=by simp[PyData.canLay0]
 rw[e,zq,Bool.true_and];refine decide_eq_true ?_;have e2:PyData.depth (PyData.list (l.map xD))=PyData.depthAll (l.map xD)+1:=by simp[PyData.depth]
 rw[e2,vP]
 decide
theorem Kw(l:List Nat):PyData.eqv (.list (l.map xD)) (.list [])=decide (l=[]):=by
 cases l with
 | nil=>rfl
 | cons a r=>rfl
theorem MZ(S:Int)(k:Nat):decide (V.int (Builtin.bitAnd (S/2^k) 1)=V.int 1)=bit S k:=by
 unfold bit;rw[PyProof.Rows.bitAnd_m1];rw[Bool.eq_iff_iff];simp
theorem Bx(S:Int)(k:Nat):decide (V.int (S/2^k%2)=V.int 1)=bit S k:=by
 unfold bit;rw[Bool.eq_iff_iff];simp
theorem Kx(x:Int):decide (V.int x=V.int 1)=decide (x=1):=by
 rw[Bool.eq_iff_iff];simp
structure n8(p:Int)(t:c5):Prop where
 a0:0<=t.1
 a1:t.1<p
 b0:0<=t.2.1
 b1:t.2.1<p
 ne:t.1≠t.2.1
 l0:1<=t.2.2
 l1:t.2.2<=1000000000000000000000000000000
structure aD(p:Nat)(ts:List c5):Prop where
 p1:1<=p
 p2:p<=10
 len:ts.length<=24
 xE:∀ t∈ts,n8 (p:Int) t
theorem aD.G8{p:Nat}{ts:List c5}(g:aD p ts):Kv p ts:=⟨⟨fun t ht=>let z:=g.xE t ht;⟨z.a0,z.a1,z.b0,z.b1⟩⟩,g.len,g.p2⟩
def rE(p:Int)(H:Hp)(D:Addr)(n:Nat)(H2:Hp):Prop:=aq H H2/\∃ acc ts,H2 D=some (.lst acc)/\Paired (TupAt H2) acc ts/\acc.length=n/\∀ t∈ts,n8 p t
section
variable {p:Int}{H H2 H3:Hp}{D b:Addr}{n:Nat}{t:c5}
theorem rE.start(hD:H D=none):rE p H D 0 (upd H D (.lst [])):=⟨aq.new hD,[],[],ae,.nil,rfl,fun t ht=>nomatch ht⟩
theorem rE.push(h:rE p H D n H2)(hD:H D=none)(s:aq H2 H3)(g:n8 p t)(hb:H3 b=some (.tup (Ku t))):
 ∃ acc,H3 D=some (.lst acc)/\acc.length=n/\rE p H D (n+1) (upd H3 D (.lst (acc++[.ref b]))):=by
 obtain⟨s2,acc,ts,hd,pr,hn,gt⟩:=h;have LP:H3 D=some (.lst acc):=s _ _ hd;refine⟨acc,LP,hn,(s2.trans s).put hD,acc++[.ref b],ts++[t],ae,?_,by rw[List.length_append,List.length_singleton,hn],fun u hu=>?_⟩
 ·exact Paired.snoc (Paired.imp' (fun _ _ z=>z.tups (s.tups.trans (dH.put LP))) pr) ⟨b,rfl,dH.put LP _ _ hb⟩
 ·rcases List.mem_append.mp hu with hu|hu
  ·exact gt u hu
  ·cases List.mem_singleton.mp hu;exact g
theorem rE.fin{q:Nat}(h:rE (q:Int) H D n H2):∃ acc ts,H2 D=some (.lst acc)/\ts.length=n/\(∀ t∈ts,n8 (q:Int) t)/\∀ l,H2 l=none->∀ w,upd H2 l (.tup acc) w=none->
 aq H (upd (upd H2 l (.tup acc)) w (.tup [.int (q:Int),.ref l]))/\bg (upd (upd H2 l (.tup acc)) w (.tup [.int (q:Int),.ref l])) w q ts:=by
 obtain⟨s2,acc,ts,hd,pr,hn,gt⟩:=h;refine⟨acc,ts,hd,by rw[<-pr.length,hn],gt,fun l hl w hw=>?_⟩
 have n1:aq H2 (upd H2 l (.tup acc)):=aq.new hl;have n2:=n1.trans (aq.new (o:=.tup [.int (q:Int),.ref l]) hw);refine⟨s2.trans n2,l,acc,ae,?_,Paired.imp' (fun _ _ z=>z.tups n2.tups) pr⟩
 rw[aj (aW ae hw),ae]
end
theorem G9{p o r:Int}(h:0<=o)(h1:o<p)(r0:0<=r)(r1:r<p-1):0<=(o+1+r)%p/\(o+1+r)%p<p/\o≠(o+1+r)%p:=by
 have hp:0<p:=by lia
 refine⟨Int.emod_nonneg _ (by lia),Int.emod_lt_of_pos _ hp,?_⟩
 by_cases hlt:o+1+r<p
 ·rw[Int.emod_eq_of_lt (by lia) hlt]
  lia
 ·have e:(o+1+r)%p=o+1+r-p:=by
   rw[<-Int.sub_emod_right,Int.emod_eq_of_lt (by lia) (by lia)]
  rw[e]
  lia
theorem cV{n:Nat}(h:n<=24):n<=sizeLine:=Nat.le_of_lt (jI (by lia))
theorem cW{n:Nat}(h:n<=900):n<sizeLine:=jI (by lia)
theorem Ky{ns:List Int}{k:Nat}(h:k<ns.length):(ns.map V.int)[k]?=some (.int (ns.getD k 0)):=by
 rw[List.getElem?_map,List.getD_eq_getElem?_getD];simp[h]
theorem m4(x m:Int)(h:0<m):0<=x%m/\x%m<m:=⟨Int.emod_nonneg _ (by lia),Int.emod_lt_of_pos _ h⟩
end Ring
namespace RM
def bM(f:Nat->Bool):Nat->Bool
 | 0=>false
 | n+1=>bM f n^^f n
theorem bR{f g:Nat->Bool}:∀{n:Nat},(∀ k,k<n->f k=g k)->bM f n=bM g n
 | 0,_=>rfl
 | n+1,h=>by
   unfold bM;rw[bR fun k hk=>h k (by lia),h n (by lia)]
theorem iJ(f g:Nat->Bool):∀ n,bM (fun k=>f k^^g k) n=(bM f n^^bM g n)
 | 0=>rfl
 | n+1=>by
   unfold bM;rw[iJ f g n];cases bM f n<;>cases bM g n<;>cases f n<;>cases g n<;>rfl
theorem nq:∀ n,bM (fun _=>false) n=false
 | 0=>rfl
 | n+1=>by unfold bM;rw[nq n];rfl
theorem oh(c:Bool)(f:Nat->Bool):∀ n,bM (fun k=>c&&f k) n=(c&&bM f n)
 | 0=>by cases c<;>rfl
 | n+1=>by
   unfold bM;rw[oh c f n];cases c<;>simp
theorem vQ(f:Nat->Nat->Bool)(n:Nat):∀ m,bM (fun x=>bM (fun k=>f x k) n) m=bM (fun k=>bM (fun x=>f x k) m) n
 | 0=>by
   show false=_;rw[<-nq n];rfl
 | m+1=>by
   show(bM (fun x=>bM (fun k=>f x k) n) m^^bM (fun k=>f m k) n)=_
   rw[vQ f n m,<-iJ];rfl
theorem iq{f:Nat->Bool}{n:Nat}(h:∀ k,k<n->f k=false):bM f n=false:=by
 rw[bR (g:=fun _=>false) h,nq]
theorem om{f:Nat->Bool}{a:Nat}:∀{n:Nat},a<n->(∀ k,k<n->k≠a->f k=false)->bM f n=f a
 | 0,h,_=>absurd h (Nat.not_lt_zero _)
 | n+1,h,z=>by
   unfold bM
   by_cases e:a=n
   ·subst e;rw[iq fun k hk=>z k (by lia) (by lia)]
    simp
   ·rw[om (a:=a) (by lia) fun k hk hn=>z k (by lia) hn,z n (by lia) (fun q=>e q.symm)]
    simp
theorem iK(C:Nat->Bool){a m:Nat}(h:a<m):bM (fun x=>C x&&decide (a=x)) m=C a:=by
 rw[om h fun k _ hk=>by simp[Ne.symm hk]]
 simp
structure Net where
 p:Nat
 n:Nat
 a:Nat->Nat
 b:Nat->Nat
 al:∀ k,k<n->a k<p
 bl:∀ k,k<n->b k<p
 ne:∀ k,k<n->a k≠b k
variable (N:Net)
def Net.inc(k x:Nat):Bool:=decide (N.a k=x)^^decide (N.b k=x)
def Net.bd(m x:Nat):Bool:=bM (fun k=>m.testBit k&&N.inc k x) N.n
def Net.bS(m:Nat):Prop:=∀ x,x<N.p->N.bd m x=false
variable {N}
theorem fc(m q x:Nat):N.bd (m^^^q) x=(N.bd m x^^N.bd q x):=by
 unfold Net.bd;rw[<-iJ];refine bR fun k _=>?_
 rw[Nat.testBit_xor];cases m.testBit k<;>cases q.testBit k<;>cases N.inc k x<;>rfl
theorem l7(x:Nat):N.bd 0 x=false:=by
 unfold Net.bd;exact iq fun k _=>by simp
theorem jW{k:Nat}(h:k<N.n)(x:Nat):N.bd (2^k) x=N.inc k x:=by
 unfold Net.bd;rw[om h fun j _ hj=>by simp[Nat.testBit_two_pow,Ne.symm hj]]
 simp[Nat.testBit_two_pow]
theorem bS.xor{m q:Nat}(h:N.bS m)(h' : N.bS q):N.bS (m^^^q):=fun x hx=>by rw[fc,h x hx,h' x hx];rfl
theorem bS.zero:N.bS 0:=fun x _=>l7 x
theorem Hf{m:Nat}(C:Nat->Bool)(h:∀ k,k<N.n->m.testBit k=true->C (N.a k)=C (N.b k)):bM (fun x=>C x&&N.bd m x) N.p=false:=by
 have e:bM (fun x=>C x&&N.bd m x) N.p=bM (fun x=>bM (fun k=>C x&&(m.testBit k&&N.inc k x)) N.n) N.p :=
  bR fun x _=>(oh (C x) _ N.n).symm
 rw[e,vQ];refine iq fun k hk=>?_
 have e2:bM (fun x=>C x&&(m.testBit k&&N.inc k x)) N.p=(m.testBit k&&(C (N.a k)^^C (N.b k))):=by
  rw[<-iK C (N.al k hk),<-iK C (N.bl k hk),<-iJ,<-oh];refine bR fun x _=>?_
  unfold Net.inc;cases C x<;>cases m.testBit k<;>cases decide (N.a k=x)<;>cases decide (N.b k=x)<;>rfl
 rw[e2];cases hb:m.testBit k with
 | false=>rfl
 | true=>rw[h k hk hb];simp
def join(L:Nat->Nat)(u v:Nat):Nat->Nat:=fun x=>if L x=max (L u) (L v) then min (L u) (L v) else L x
theorem join_eq{L:Nat->Nat}{u v x y:Nat}(h:L x=L y):join L u v x=join L u v y:=by unfold join;rw[h]
theorem vR(L:Nat->Nat)(u v:Nat):join L u v u=join L u v v:=by
 unfold join
 split<;>split<;>lia
theorem vS{L:Nat->Nat}{u v:Nat}(h:L u=L v):join L u v=L:=by
 funext x
 unfold join;rw[h]
 split<;>lia
theorem sS{L:Nat->Nat}{u v x y:Nat}(h:join L u v x=join L u v y):L x=L y\/(L x=L u/\L y=L v)\/(L x=L v/\L y=L u):=by
 unfold join at h;have mm:(max (L u) (L v)=L u/\min (L u) (L v)=L v)\/(max (L u) (L v)=L v/\min (L u) (L v)=L u):=by
  rcases Nat.le_total (L u) (L v) with q|q
  ·exact .inr ⟨Nat.max_eq_right q,Nat.min_eq_left q⟩
  ·exact .inl ⟨Nat.max_eq_left q,Nat.min_eq_right q⟩
 rcases mm with⟨e1,e2⟩|⟨e1,e2⟩
 ·rw[e1,e2]at h
  split at h
  ·rename_i hx
   split at h
   ·rename_i hy
    exact .inl (hx.trans hy.symm)
   ·exact .inr (.inl ⟨hx,h.symm⟩)
  ·split at h
   ·rename_i hy
    exact .inr (.inr ⟨h,hy⟩)
   ·exact .inl h
 ·rw[e1,e2]at h
  split at h
  ·rename_i hx
   split at h
   ·rename_i hy
    exact .inl (hx.trans hy.symm)
   ·exact .inr (.inr ⟨hx,h.symm⟩)
  ·split at h
   ·rename_i hy
    exact .inr (.inl ⟨h,hy⟩)
   ·exact .inl h
theorem join_le{L:Nat->Nat}{u v x:Nat}(h:L x<=x):join L u v x<=x:=by
 unfold join
 split<;>lia
theorem El{L:Nat->Nat}{u v:Nat}(h:∀ x,L (L x)=L x)(x:Nat):join L u v (join L u v x)=join L u v x:=by
 have hu:=h u;have hv:=h v;have hx:=h x;have hlo:L (min (L u) (L v))=min (L u) (L v):=by
  rcases Nat.le_total (L u) (L v) with q|q
  ·rw[Nat.min_eq_left q];exact hu
  ·rw[Nat.min_eq_right q];exact hv
 unfold join
 split
 ·rw[hlo]
  split<;>lia
 ·rw[hx]
  split<;>lia
def Net.aJ(N:Net)(S:Nat->Bool):Nat->Nat->Nat
 | 0=>fun x=>x
 | k+1=>if S k=true then join (Net.aJ N S k) (N.a k) (N.b k) else Net.aJ N S k
variable {S:Nat->Bool}
theorem oq:∀(k x:Nat),N.aJ S k x<=x
 | 0,_=>Nat.le_refl _
 | k+1,x=>by
   unfold Net.aJ
   split
   ·exact join_le (oq k x)
   ·exact oq k x
theorem bT:∀(k x:Nat),N.aJ S k (N.aJ S k x)=N.aJ S k x
 | 0,_=>rfl
 | k+1,x=>by
   by_cases hs:S k=true
   ·have e:N.aJ S (k+1)=join (N.aJ S k) (N.a k) (N.b k):=by
     conv=>lhs;unfold Net.aJ
     rw[if_pos hs]
    rw[e];exact El (bT k) x
   ·have e:N.aJ S (k+1)=N.aJ S k:=by
     conv=>lhs;unfold Net.aJ
     rw[if_neg hs]
    rw[e];exact bT k x
theorem vU{x y k:Nat}(h:N.aJ S k x=N.aJ S k y):∀ d,N.aJ S (k+d) x=N.aJ S (k+d) y
 | 0=>h
 | d+1=>by
   have ih:=vU h d;show N.aJ S (k+d+1) x=N.aJ S (k+d+1) y;unfold Net.aJ
   split
   ·exact join_eq ih
   ·exact ih
theorem gH{j k:Nat}(h:j<k)(hs:S j=true):N.aJ S k (N.a j)=N.aJ S k (N.b j):=by
 obtain⟨d,rfl⟩:=Nat.exists_eq_add_of_le (Nat.succ_le_of_lt h);refine vU ?_ d;show N.aJ S (j+1) (N.a j)=N.aJ S (j+1) (N.b j);unfold Net.aJ;rw[if_pos hs];exact vR _ _ _
inductive Net.kT(N:Net)(S:Nat->Bool)(k u:Nat):Nat->Prop
 | refl:Net.kT N S k u u
 | fwd {j:Nat} (h:Net.kT N S k u (N.a j)) (hj:j<k) (hs:S j=true):Net.kT N S k u (N.b j)
 | bwd {j:Nat} (h:Net.kT N S k u (N.b j)) (hj:j<k) (hs:S j=true):Net.kT N S k u (N.a j)
theorem Net.kT.trans{k u v w:Nat}(h:N.kT S k u v)(h' : N.kT S k v w):N.kT S k u w:=by
 induction h' with
 | refl=>exact h
 | fwd _ hj hs ih=>exact .fwd ih hj hs
 | bwd _ hj hs ih=>exact .bwd ih hj hs
theorem Net.kT.mono{k l u v:Nat}(h:N.kT S k u v)(l6:k<=l):N.kT S l u v:=by
 induction h with
 | refl=>exact .refl
 | fwd _ hj hs ih=>exact .fwd ih (by lia) hs
 | bwd _ hj hs ih=>exact .bwd ih (by lia) hs
theorem bG:∀(k u v:Nat),N.aJ S k u=N.aJ S k v->N.kT S k u v
 | 0,u,v,h=>by
   have e:u=v:=h;subst e;exact .refl
 | k+1,u,v,h=>by
   unfold Net.aJ at h
   split at h
   ·rename_i hs
    rcases sS h with q|⟨q1,q2⟩|⟨q1,q2⟩
    ·exact(bG k u v q).mono (by lia)
    ·have c1:=(bG k u _ q1).mono (Nat.le_succ k);have c2:=(bG k _ v q2.symm).mono (Nat.le_succ k);exact Net.kT.trans (.fwd c1 (by lia) hs) c2
    ·have c1:=(bG k u _ q1).mono (Nat.le_succ k);have c2:=(bG k _ v q2.symm).mono (Nat.le_succ k);exact Net.kT.trans (.bwd c1 (by lia) hs) c2
   ·exact(bG k u v h).mono (by lia)
def Net.dI(N:Net)(k:Nat):Nat->Nat:=N.aJ (fun _=>true) k
def Net.iW(N:Net)(k:Nat):Bool:=!decide (N.dI k (N.a k)=N.dI k (N.b k))
theorem zw(k:Nat):N.dI (k+1)=if N.iW k=true then join (N.dI k) (N.a k) (N.b k) else N.dI k:=by
 show N.aJ (fun _=>true) (k+1)=_
 unfold Net.aJ;rw[if_pos rfl];unfold Net.iW
 by_cases h:N.dI k (N.a k)=N.dI k (N.b k)
 ·rw[if_neg (by simp[h])]
  exact vS h
 ·rw[if_pos (by simp[h])]
  rfl
theorem fF{m:Nat}(hf:∀ k,m.testBit k=true->k<N.n/\N.iW k=true)(he:N.bS m):m=0:=by
 by_cases h0:m=0
 ·exact h0
 exfalso
 have hK:m.testBit m.log2=true:=Nat.testBit_log2 h0;obtain⟨RK,RL⟩:=hf _ hK;generalize XH:m.log2=K at hK RK RL;have hlt:m<2^(K+1):=by rw[<-XH];exact Nat.lt_log2_self
 have hcl:=Hf (N:=N) (m:=m^^^2^K) (fun x=>decide (N.dI K x=N.dI K (N.a K))) fun k hk hb=>by
  have XI:k<K:=by
   rw[Nat.testBit_xor,Nat.testBit_two_pow]at hb
   by_cases e:K=k
   ·subst e;simp[hK]at hb
   ·have hb' : m.testBit k=true:=by simpa[e]using hb
    have:k<K+1:=by
     by_cases q:k<K+1
     ·exact q
     ·have z:=Nat.testBit_lt_two_pow (Nat.lt_of_lt_of_le hlt (Nat.pow_le_pow_right (by decide) (show K+1<=k by lia)))
      rw[hb']at z;cases z
    lia
  have e:N.dI K (N.a k)=N.dI K (N.b k):=gH (S:=fun _=>true) XI rfl
  show decide (N.dI K (N.a k)=_)=decide (N.dI K (N.b k)=_);rw[e]
 have e:bM (fun x=>decide (N.dI K x=N.dI K (N.a K))&&N.bd (m^^^2^K) x) N.p=bM (fun x=>decide (N.dI K x=N.dI K (N.a K))&&N.inc K x) N.p :=
  bR fun x hx=>by rw[fc,he x hx,jW RK];simp
 rw[e]at hcl;have e2:bM (fun x=>decide (N.dI K x=N.dI K (N.a K))&&N.inc K x) N.p=(decide (N.dI K (N.a K)=N.dI K (N.a K))^^decide (N.dI K (N.b K)=N.dI K (N.a K))):=by
  rw[<-iK (fun x=>decide (N.dI K x=N.dI K (N.a K))) (N.al K RK),<-iK (fun x=>decide (N.dI K x=N.dI K (N.a K))) (N.bl K RK),<-iJ]
  refine bR fun x _=>?_
  unfold Net.inc;cases decide (N.dI K x=N.dI K (N.a K))<;>cases decide (N.a K=x)<;>cases decide (N.b K=x)<;>rfl
 rw[e2]at hcl;unfold Net.iW at RL;have hne : ¬ N.dI K (N.b K)=N.dI K (N.a K):=fun q=>by rw[q]at RL;simp at RL
 simp[hne]at hcl
def Net.trail(N:Net):Nat->Nat->Nat
 | 0=>fun _=>0
 | k+1=>if N.iW k=true then fun v=>if N.dI k v=max (N.dI k (N.a k)) (N.dI k (N.b k)) then Net.trail N k v^^^(Net.trail N k (N.a k)^^^Net.trail N k (N.b k)^^^2^k) else Net.trail N k v
   else Net.trail N k
theorem c7:∀(k v j:Nat),(N.trail k v).testBit j=true->j<k/\N.iW j=true
 | 0,v,j,h=>by simp[Net.trail]at h
 | k+1,v,j,h=>by
   have ih:=c7 k;unfold Net.trail at h
   split at h
   ·rename_i hf
    dsimp only at h
    split at h
    ·rw[Nat.testBit_xor,Nat.testBit_xor,Nat.testBit_xor,Nat.testBit_two_pow]at h
     by_cases e:k=j
     ·subst e;exact⟨by lia,hf⟩
     ·have z : ¬((N.trail k v).testBit j=false/\(N.trail k (N.a k)).testBit j=false/\(N.trail k (N.b k)).testBit j=false):=by
       rintro⟨z1,z2,z3⟩;simp[z1,z2,z3,e]at h
      cases h1:(N.trail k v).testBit j with
      | true=>obtain⟨q,r⟩:=ih v j h1;exact⟨by lia,r⟩
      | false=>cases h2:(N.trail k (N.a k)).testBit j with
        | true=>obtain⟨q,r⟩:=ih _ j h2;exact⟨by lia,r⟩
        | false=>cases h3:(N.trail k (N.b k)).testBit j with
          | true=>obtain⟨q,r⟩:=ih _ j h3;exact⟨by lia,r⟩
          | false=>exact absurd ⟨h1,h2,h3⟩ z
    ·obtain⟨q,r⟩:=ih v j h;exact⟨by lia,r⟩
   ·obtain⟨q,r⟩:=ih v j h;exact⟨by lia,r⟩
theorem Hg(a b c d e f g h:Bool)(XJ:(d^^f)=(g^^h)):((a^^g)^^(((c^^d)^^(e^^f))^^(c^^e)))=(a^^h):=by
 have e1:(((c^^d)^^(e^^f))^^(c^^e))=(d^^f):=by cases c<;>cases d<;>cases e<;>cases f<;>rfl
 rw[e1,XJ];cases a<;>cases g<;>cases h<;>rfl
theorem lg:∀(k:Nat),k<=N.n->∀ v x,N.bd (N.trail k v) x=(decide (v=x)^^decide (N.dI k v=x))
 | 0,_,v,x=>by
   show N.bd 0 x=(decide (v=x)^^decide (v=x));rw[l7];simp
 | k+1,hk,v,x=>by
   have ih:=lg k (by lia)
   rw[zw];unfold Net.trail
   by_cases hf:N.iW k=true
   ·rw[if_pos hf,if_pos hf]
    by_cases hm:N.dI k v=max (N.dI k (N.a k)) (N.dI k (N.b k))
    ·have e:join (N.dI k) (N.a k) (N.b k) v=min (N.dI k (N.a k)) (N.dI k (N.b k)):=by unfold join;rw[if_pos hm]
     show N.bd (if N.dI k v=_ then _ else _) x=_
     rw[if_pos hm,e,fc,fc,fc,jW (by lia),ih,ih,ih]
     unfold Net.inc;refine Hg _ false _ _ _ _ _ _ ?_;rw[hm];rcases Nat.le_total (N.dI k (N.a k)) (N.dI k (N.b k)) with q|q
     ·rw[Nat.max_eq_right q,Nat.min_eq_left q,Bool.xor_comm]
     ·rw[Nat.max_eq_left q,Nat.min_eq_right q]
    ·have e:join (N.dI k) (N.a k) (N.b k) v=N.dI k v:=by unfold join;rw[if_neg hm]
     show N.bd (if N.dI k v=_ then _ else _) x=_
     rw[if_neg hm,e,ih]
   ·rw[if_neg hf,if_neg hf];exact ih v x
def Net.ring(N:Net)(c:Nat):Nat:=N.trail N.n (N.a c)^^^N.trail N.n (N.b c)^^^2^c
theorem Hh{c:Nat}(h:c<N.n):N.dI N.n (N.a c)=N.dI N.n (N.b c):=gH (S:=fun _=>true) h rfl
theorem fX{c:Nat}(h:c<N.n):N.bS (N.ring c):=fun x _=>by
 unfold Net.ring;rw[fc,fc,jW h,lg _ (Nat.le_refl _),lg _ (Nat.le_refl _),Hh h];unfold Net.inc;cases decide (N.a c=x)<;>cases decide (N.b c=x)<;>cases decide (N.dI N.n (N.b c)=x)<;>rfl
theorem iL{c j:Nat}(h:(N.ring c).testBit j=true):j=c\/(j<N.n/\N.iW j=true):=by
 unfold Net.ring at h;rw[Nat.testBit_xor,Nat.testBit_xor,Nat.testBit_two_pow]at h
 by_cases e:c=j
 ·exact .inl e.symm
 ·right
  cases h1:(N.trail N.n (N.a c)).testBit j with
  | true=>exact c7 _ _ _ h1
  | false=>cases h2:(N.trail N.n (N.b c)).testBit j with
    | true=>exact c7 _ _ _ h2
    | false=>simp[h1,h2,e]at h
theorem ou{c:Nat}(hf:N.iW c=false):(N.ring c).testBit c=true:=by
 unfold Net.ring;rw[Nat.testBit_xor,Nat.testBit_xor,Nat.testBit_two_pow];cases h1:(N.trail N.n (N.a c)).testBit c with
 | true=>obtain⟨_,q⟩:=c7 _ _ _ h1;rw[hf]at q;cases q
 | false=>cases h2:(N.trail N.n (N.b c)).testBit c with
   | true=>obtain⟨_,q⟩:=c7 _ _ _ h2;rw[hf]at q;cases q
   | false=>simp
theorem Em{j:Nat}(h:j<N.n)(hf:N.iW j=true):(N.trail N.n (N.a j)).testBit j=true\/(N.trail N.n (N.b j)).testBit j=true:=by
 have z:N.ring j=0:=fF (fun k hk=>by
  rcases iL hk with rfl|q
  ·exact⟨h,hf⟩
  ·exact q) (fX h)
 have b:(N.ring j).testBit j=false:=by rw[z];simp
 unfold Net.ring at b;rw[Nat.testBit_xor,Nat.testBit_xor,Nat.testBit_two_pow]at b;cases h1:(N.trail N.n (N.a j)).testBit j with
 | true=>exact .inl rfl
 | false=>cases h2:(N.trail N.n (N.b j)).testBit j with
   | true=>exact .inr rfl
   | false=>simp[h1,h2]at b
def cnt(f:Nat->Bool):Nat->Nat
 | 0=>0
 | n+1=>cnt f n+(if f n=true then 1 else 0)
theorem dW{f g:Nat->Bool}:∀{n:Nat},(∀ k,k<n->f k=g k)->cnt f n=cnt g n
 | 0,_=>rfl
 | n+1,h=>by
   unfold cnt;rw[dW fun k hk=>h k (by lia),h n (by lia)]
theorem sU{f g:Nat->Bool}{h:Nat}(hg:g h=true):∀{p:Nat},h<p->(∀ x,x<p->f x=(g x && !decide (x=h)))->cnt g p=cnt f p+1
 | 0,hh,_=>absurd hh (Nat.not_lt_zero _)
 | p+1,hh,e=>by
   unfold cnt
   by_cases q:h=p
   ·subst q;have z:cnt g h=cnt f h:=dW fun k hk=>by rw[e k (by lia)];simp[show k≠h by lia]
    rw[z,if_pos hg,e h (by lia)]
    simp
   ·rw[sU hg (by lia) fun x hx=>e x (by lia),e p (by lia)]
    simp[Ne.symm q]
    lia
theorem fY(f:Nat->Bool):∀ n,((List.range n).filter f).length=cnt f n
 | 0=>rfl
 | n+1=>by
   rw[List.range_succ,List.filter_append,List.length_append,fY f n];show _=cnt f n+(if f n=true then 1 else 0)
   cases h:f n with
   | true=>rw[List.filter_cons,if_pos h];rfl
   | false=>rw[List.filter_cons,if_neg (by rw[h];simp)];rfl
theorem i0(f:Nat->Bool):∀ n,cnt f n+cnt (fun k=>!f k) n=n
 | 0=>rfl
 | n+1=>by
   have ih:=i0 f n;unfold cnt;cases h:f n<;>simp<;>lia
theorem xF{f:Nat->Bool}:∀{n:Nat},(∀ k,k<n->f k=true)->cnt f n=n
 | 0,_=>rfl
 | n+1,h=>by
   unfold cnt;rw[xF fun k hk=>h k (by lia),if_pos (h n (by lia))]
variable {N:Net}{S:Nat->Bool}
def Net.root(N:Net)(S:Nat->Bool)(k x:Nat):Bool:=decide (N.aJ S k x=x)
theorem fh(k:Nat):N.aJ S (k+1)=if S k=true then join (N.aJ S k) (N.a k) (N.b k) else N.aJ S k:=by
 conv=>lhs;unfold Net.aJ
theorem i7{k x:Nat}(h:x<N.p):N.aJ S k x<N.p:=Nat.lt_of_le_of_lt (oq k x) h
theorem En{L:Nat->Nat}{u v:Nat}(hr:∀ x,L (L x)=L x)(hne:L u≠L v)(x:Nat):decide (join L u v x=x)=(decide (L x=x) && !decide (x=max (L u) (L v))):=by
 have hhi:L (max (L u) (L v))=max (L u) (L v):=by
  rcases Nat.le_total (L u) (L v) with q|q
  ·rw[Nat.max_eq_right q];exact hr v
  ·rw[Nat.max_eq_left q];exact hr u
 have hlo:L (min (L u) (L v))=min (L u) (L v):=by
  rcases Nat.le_total (L u) (L v) with q|q
  ·rw[Nat.min_eq_left q];exact hr u
  ·rw[Nat.min_eq_right q];exact hr v
 unfold join
 by_cases h:L x=max (L u) (L v)
 ·rw[if_pos h];have h1 : ¬ min (L u) (L v)=x:=fun z=>by
   rw[<-z,hlo]at h
   lia
  by_cases h2:x=max (L u) (L v)
  ·simp[h1,h2]
   lia
  ·have h3 : ¬ L x=x:=fun z=>h2 (z.symm.trans h)
   simp[h1,h3]
 ·rw[if_neg h];have h2 : ¬ x=max (L u) (L v):=fun z=>h (by rw[z];exact hhi)
  simp[h2]
theorem sV{k:Nat}(hk:k<N.n):cnt (N.root S k) N.p=cnt (N.root S (k+1)) N.p+(if(S k && !decide (N.aJ S k (N.a k)=N.aJ S k (N.b k)))=true then 1 else 0):=by
 cases hs:S k with
 | false =>
   have e:N.root S (k+1)=N.root S k:=by unfold Net.root;rw[fh,if_neg (by rw[hs];simp)]
   rw[e];simp
 | true =>
   by_cases h:N.aJ S k (N.a k)=N.aJ S k (N.b k)
   ·have e:N.root S (k+1)=N.root S k:=by unfold Net.root;rw[fh,if_pos hs,vS h]
    rw[e];simp[h]
   ·have hhi:N.aJ S k (max (N.aJ S k (N.a k)) (N.aJ S k (N.b k)))=max (N.aJ S k (N.a k)) (N.aJ S k (N.b k)):=by
     rcases Nat.le_total (N.aJ S k (N.a k)) (N.aJ S k (N.b k)) with q|q
     ·rw[Nat.max_eq_right q];exact bT _ _
     ·rw[Nat.max_eq_left q];exact bT _ _
    have h1:=i7 (S:=S) (k:=k) (N.al k hk);have h2:=i7 (S:=S) (k:=k) (N.bl k hk);rw[sU (f:=N.root S (k+1)) (g:=N.root S k) (h:=max (N.aJ S k (N.a k)) (N.aJ S k (N.b k))) (decide_eq_true hhi) (by lia) fun x _=>by
     unfold Net.root;rw[fh,if_pos hs];exact En (bT k) h x]
    simp[h]
theorem oz:∀ k,k<=N.n->cnt (N.root (fun _=>true) k) N.p+cnt N.iW k=N.p
 | 0,_=>by
   show cnt (N.root (fun _=>true) 0) N.p+0=N.p
   rw[xF (f:=N.root (fun _=>true) 0) fun x _=>decide_eq_true rfl]
   rfl
 | k+1,hk=>by
   have ih:=oz k (by lia)
   have st:=sV (N:=N) (S:=fun _=>true) (k:=k) (by lia)
   have e:((fun _=>true:Nat->Bool) k && !decide (N.aJ (fun _=>true) k (N.a k)=N.aJ (fun _=>true) k (N.b k)))=N.iW k:=by rw[Bool.true_and];rfl
   rw[e]at st;show cnt (N.root (fun _=>true) (k+1)) N.p+(cnt N.iW k+if N.iW k=true then 1 else 0)=N.p
   lia
theorem zx:(N.n:Int)-N.p+cnt (N.root (fun _=>true) N.n) N.p=(cnt (fun k=>!N.iW k) N.n:Nat):=by
 have h:=oz (N:=N) N.n (Nat.le_refl _);have h2:=i0 N.iW N.n
 lia
def Net.ay(N:Net):List Nat:=(List.range N.n).filter fun k=>!N.iW k
theorem aR{c:Nat}:c∈N.ay↔c<N.n/\N.iW c=false:=by
 unfold Net.ay;rw[List.mem_filter,List.mem_range];simp
theorem By:N.ay.length=cnt (fun k=>!N.iW k) N.n:=fY _ _
theorem bZ{m n:Nat}(h:∀ k,m.testBit k=true->k<n):m<2^n:=Nat.lt_pow_two_of_testBit m fun k hk=>by
 cases q:m.testBit k with
 | false=>rfl
 | true=>exact absurd (h k q) (by lia)
theorem bO{m n k:Nat}(h:m<2^n)(hb:m.testBit k=true):k<n:=by
 by_cases q:k<n
 ·exact q
 ·have z:=Nat.testBit_lt_two_pow (Nat.lt_of_lt_of_le h (Nat.pow_le_pow_right (by decide) (show n<=k by lia)))
  rw[hb]at z;cases z
theorem gJ{m q:Nat}(hm:m<2^N.n)(hq:q<2^N.n)(em:N.bS m)(eq:N.bS q)(h:∀ c,c<N.n->N.iW c=false->m.testBit c=q.testBit c):m=q:=by
 have z:m^^^q=0:=fF (N:=N) (fun k hk=>by
  have hk':=bO (Nat.xor_lt_two_pow hm hq) hk;refine⟨hk',?_⟩;cases hf:N.iW k with
  | true=>rfl
  | false =>
    rw[Nat.testBit_xor,h k hk' hf]at hk;simp at hk) (bS.xor em eq)
 have e:m=m^^^q^^^q:=by rw[Nat.xor_assoc,Nat.xor_self,Nat.xor_zero]
 rw[e,z,Nat.zero_xor]
theorem jX{c:Nat}(h:c<N.n):N.ring c<2^N.n:=bZ fun k hk=>by
 rcases iL hk with rfl|⟨q,_⟩
 ·exact h
 ·exact q
theorem dM{c d:Nat}(hc:N.iW c=false)(hd:N.iW d=false):(N.ring c).testBit d=decide (c=d):=by
 by_cases e:c=d
 ·subst e;rw[ou hc];simp
 ·cases q:(N.ring c).testBit d with
  | false=>simp[e]
  | true=>rcases iL q with rfl | ⟨_,r⟩
          ·exact absurd rfl e
          ·rw[hd]at r;cases r
def Net.cQ(N:Net)(number:Nat):List Nat->Nat->Nat
 | [],_=>0
 | c::r,i=>(if number.testBit i=true then N.ring c else 0)^^^Net.cQ N number r (i+1)
theorem l8{number:Nat}:∀{l:List Nat} {i:Nat},(∀ c∈l,c<N.n)->N.bS (N.cQ number l i)/\N.cQ number l i<2^N.n
 | [],_,_=>⟨bS.zero,Nat.two_pow_pos _⟩
 | c::r,i,h=>by
   obtain⟨h1,h2⟩:=l8 (number:=number) (l:=r) (i:=i+1) fun d hd=>h d (List.mem_cons_of_mem _ hd)
   have hc:=h c List.mem_cons_self;unfold Net.cQ
   split
   ·exact⟨bS.xor (fX hc) h1,Nat.xor_lt_two_pow (jX hc) h2⟩
   ·rw[Nat.zero_xor];exact⟨h1,h2⟩
theorem zy{number d:Nat}(hd:N.iW d=false):∀{l:List Nat} {i:Nat},(∀ c∈l,N.iW c=false)->d∉l->(N.cQ number l i).testBit d=false
 | [],_,_,_=>by simp[Net.cQ]
 | c::r,i,h,hn=>by
   have ih:=zy (number:=number) (d:=d) hd (l:=r) (i:=i+1) (fun e he=>h e (List.mem_cons_of_mem _ he)) fun q=>hn (List.mem_cons_of_mem _ q)
   unfold Net.cQ;rw[Nat.testBit_xor,ih]
   split
   ·rw[dM (h c List.mem_cons_self) hd];have:c≠d:=fun q=>hn (by rw[q];exact List.mem_cons_self)
    simp[this]
   ·simp
theorem zz{number:Nat}:∀{l:List Nat} {i j:Nat} {d:Nat},l.Nodup->(∀ c∈l,N.iW c=false)->l[j]?=some d->(N.cQ number l i).testBit d=number.testBit (i+j)
 | [],_,_,_,_,_,h=>by simp at h
 | c::r,i,0,d,hn,hf,h=>by
   have e:c=d:=by simpa using h
   subst e;have hc:=hf c List.mem_cons_self;unfold Net.cQ;rw[Nat.testBit_xor,zy hc (fun e he=>hf e (List.mem_cons_of_mem _ he)) (List.nodup_cons.mp hn).1]
   cases q:number.testBit (i+0) with
   | true=>rw[if_pos (by simpa using q),ou hc];rfl
   | false=>rw[if_neg (by simpa using q)];simp
 | c::r,i,j+1,d,hn,hf,h=>by
   have h' : r[j]?=some d:=by simpa using h
   have hd:d∈r:=List.mem_of_getElem? h';have ih:=zz (number:=number) (l:=r) (i:=i+1) (j:=j) (d:=d) (List.nodup_cons.mp hn).2 (fun e he=>hf e (List.mem_cons_of_mem _ he)) h'
   unfold Net.cQ;rw[Nat.testBit_xor,ih];have hne:c≠d:=fun q=>(List.nodup_cons.mp hn).1 (q▸hd)
   have z:(if number.testBit i=true then N.ring c else 0).testBit d=false:=by
    split
    ·rw[dM (hf c List.mem_cons_self) (hf d (List.mem_cons_of_mem _ hd))];simp[hne]
    ·simp
   rw[z,show i+1+j=i+(j+1) by lia]
   simp
end RM
namespace Ring
open PySem L2
def maskOf(f:Nat->Bool):Nat->Nat
 | 0=>0
 | n+1=>(if f n=true then 2^n else 0)+maskOf f n
theorem mask_lt(f:Nat->Bool):∀ n,maskOf f n<2^n
 | 0=>by show 0<1;decide
 | n+1=>by
   have ih:=mask_lt f n;have e:2^(n+1)=2^n+2^n:=by rw[Nat.pow_succ];lia
   unfold maskOf
   split<;>lia
theorem mask_bit(f:Nat->Bool)(j:Nat):∀ n,(maskOf f n).testBit j=(decide (j<n)&&f j)
 | 0=>by simp[maskOf]
 | n+1=>by
   have ih:=mask_bit f j n;have hl:=mask_lt f n;unfold maskOf
   by_cases h:f n=true
   ·rw[if_pos h];rcases Nat.lt_trichotomy j n with q|q|q
    ·rw[Nat.testBit_two_pow_add_gt q,ih];simp[q,show j<n+1 by lia]
    ·subst q;rw[Nat.testBit_two_pow_add_eq,ih];simp[h]
    ·have z:2^n+maskOf f n<2^j:=Nat.lt_of_lt_of_le (show 2^n+maskOf f n<2^(n+1) by rw[Nat.pow_succ];lia) (Nat.pow_le_pow_right (by decide) q)
     rw[Nat.testBit_lt_two_pow z];simp[show ¬ j<n+1 by lia]
   ·rw[if_neg h,Nat.zero_add,ih]
    by_cases q:j=n
    ·subst q;have h' : f j=false:=by simpa using h
     simp[h']
    ·by_cases r:j<n
     ·simp[r,show j<n+1 by lia]
     ·simp[r,show ¬ j<n+1 by lia]
theorem Hi(n:Nat):maskOf (fun _=>true) n=2^n-1:=by
 induction n with
 | zero=>rfl
 | succ n ih =>
   unfold maskOf;rw[ih,if_pos rfl,Nat.pow_succ];have:=Nat.two_pow_pos n
   lia
theorem Di(n j:Nat):(2^n-1).testBit j=decide (j<n):=by
 rw[<-Hi,mask_bit];simp
theorem M0{a b x y:Nat}(q:x/2+y/2=a/2+b/2)(h:x%2+y%2=a%2+b%2):x+y=a+b:=by lia
theorem M3{u v:Nat}(hu:u=0\/u=1)(hv:v=0\/v=1):(u ||| v)+(u&&&v)=u+v:=by
 rcases hu with rfl|rfl<;>rcases hv with rfl|rfl<;>rfl
theorem M4:∀ a b:Nat,(a ||| b)+(a&&&b)=a+b:=by
 intro a
 induction a using Nat.strongRecOn with
 | ind a ih =>
   intro b
   by_cases h:a=0
   ·subst h;simp
   ·have q:=ih (a/2) (by lia) (b/2)
    rw[<-Nat.or_div_two,<-Nat.and_div_two]at q;refine M0 q ?_;have e1:(a ||| b)%2=a%2 ||| b%2:=Nat.or_mod_two_pow (n:=1)
    have e2:(a&&&b)%2=a%2&&&b%2:=Nat.and_mod_two_pow (n:=1);rw[e1,e2];exact M3 (Nat.mod_two_eq_zero_or_one a) (Nat.mod_two_eq_zero_or_one b)
theorem or_int(a b:Nat):Builtin.bitOr (a:Int) (b:Int)=((a ||| b:Nat):Int):=by
 have q:=M4 a b;rw[PyProof.Rows.bitOr_and,PyProof.Rows.bitAnd_pp (by lia) (by lia)]
 have h:(a:Int)+b-((a&&&b:Nat):Int)=((a ||| b:Nat):Int):=by lia
 simpa using h
theorem l9(k:Nat):(1:Int)*2^(k:Int).toNat=((2^k:Nat):Int):=by
 rw[Int.toNat_natCast,Int.one_mul];simp
theorem fj{ts:List c5}{k:Nat}(h:k<ts.length):bN ts k∈ts:=by
 unfold bN;rw[List.getD_eq_getElem?_getD];simp[h]
theorem pM{ts:List c5}{k:Nat}(h:k<ts.length):ts[k]?=some (bN ts k):=by
 unfold bN;rw[List.getD_eq_getElem?_getD];simp[h]
def aD.N{p:Nat}{ts:List c5}(g:aD p ts):RM.Net where
 p:=p
 n:=ts.length
 a:=fun k=>(bN ts k).1.toNat
 b:=fun k=>(bN ts k).2.1.toNat
 al:=fun k hk=>by
  have z:=g.xE _ (fj hk);have z0:=z.a0;have z1:=z.a1
  lia
 bl:=fun k hk=>by
  have z:=g.xE _ (fj hk);have z0:=z.b0;have z1:=z.b1
  lia
 ne:=fun k hk e=>by
  have z:=g.xE _ (fj hk);have z0:=z.a0;have z1:=z.b0;exact z.ne (by lia)
theorem Dl{p:Nat}{ts:List c5}{g:aD p ts}{k:Nat}(h:k<ts.length):(bN ts k).1=((g.N.a k:Nat):Int):=by
 have z:=(g.xE _ (fj h)).a0;show _=(((bN ts k).1.toNat:Nat):Int)
 lia
theorem Dm{p:Nat}{ts:List c5}{g:aD p ts}{k:Nat}(h:k<ts.length):(bN ts k).2.1=((g.N.b k:Nat):Int):=by
 have z:=(g.xE _ (fj h)).b0;show _=(((bN ts k).2.1.toNat:Nat):Int)
 lia
theorem Kz{p:Nat}{ts:List c5}{g:aD p ts}{k:Nat}(h:k<ts.length)(x:Nat):JC ts k x%2=if g.N.inc k x=true then 1 else 0:=by
 unfold JC RM.Net.inc;rw[pM h];dsimp only;rw[Dl (g:=g) h,Dm (g:=g) h];generalize g.N.a k=u;generalize g.N.b k=v
 by_cases h1:u=x
 ·by_cases h2:v=x
  ·simp[h1,h2]
  ·have MW : ¬((v:Int)=(x:Int)):=by lia
   simp[h1,h2,MW]
 ·have GX : ¬((u:Int)=(x:Int)):=by lia
  by_cases h2:v=x
  ·simp[h1,h2,GX]
  ·have MW : ¬((v:Int)=(x:Int)):=by lia
   simp[h1,h2,GX,MW]
theorem Hj{p:Nat}{ts:List c5}{g:aD p ts}(m x:Nat):∀ n,n<=ts.length->((List.range n).map fun k=>if m.testBit k=true then JC ts k x else 0).sum%2=if RM.bM (fun k=>m.testBit k&&g.N.inc k x) n=true then 1 else 0
 | 0,_=>rfl
 | n+1,h=>by
   have ih:=Hj (g:=g) m x n (by lia)
   have hd:=Kz (g:=g) (k:=n) (by lia) x
   rw[List.range_succ,List.map_append,List.sum_append];show(_+((if m.testBit n=true then JC ts n x else 0)+0))%2=if(RM.bM _ n^^(m.testBit n&&g.N.inc n x))=true then 1 else 0
   generalize ((List.range n).map fun k=>if m.testBit k=true then JC ts k x else 0).sum=u at ih ⊢
   generalize RM.bM (fun k=>m.testBit k&&g.N.inc k x) n=v at ih ⊢
   generalize g.N.inc n x=i at hd ⊢;generalize JC ts n x=d at hd ⊢;cases m.testBit n<;>cases v<;>cases i<;>simp at ih hd ⊢ <;> lia
theorem Dp{p:Nat}{ts:List c5}(g:aD p ts){m:Nat}(hm:m<2^ts.length){x:Nat}:decide ((jt p ts (m:Int)).getD x 0%2=1)=g.N.bd m x:=by
 rw[G5 g.G8.U6,iI hm,sum_filter];have h:=Hj (g:=g) m x ts.length (Nat.le_refl _);rw[h];show _=RM.bM _ ts.length;generalize RM.bM (fun k=>m.testBit k&&g.N.inc k x) ts.length=v
 cases v<;>simp
theorem zA{p:Nat}{ts:List c5}(g:aD p ts){m:Nat}(hm:m<2^ts.length):sP p ts (m:Int)=[]↔g.N.bS m:=by
 unfold sP;rw[List.filter_eq_nil_iff]
 constructor
 ·intro h x hx;have q:=h x (List.mem_range.mpr hx);rw[Dp g hm]at q
  simpa using q
 ·intro h x hx;rw[Dp g hm,h x (List.mem_range.mp hx)];simp
def b7(f:Nat->Nat)(n:Nat):List V:=(List.range n).map fun x=>V.int ((f x:Nat):Int)
theorem bL(f:Nat->Nat)(n:Nat):(b7 f n).length=n:=by unfold b7;rw[List.length_map,List.length_range]
theorem bH{f:Nat->Nat}{n x:Nat}(h:x<n):(b7 f n)[x]?=some (.int ((f x:Nat):Int)):=by
 unfold b7;rw[List.getElem?_map,List.getElem?_range h];rfl
theorem i8{f:Nat->Nat}{n x:Nat}{v:V}(h:(b7 f n)[x]?=some v):x<n/\v = .int ((f x:Nat):Int):=by
 have hx:x<n:=by
  have:=(List.getElem?_eq_some_iff.mp h).1
  rwa [bL]at this
 rw[bH hx]at h;exact⟨hx,(Option.some.inj h).symm⟩
theorem vV(f:Nat->Nat)(n:Nat):b7 f (n+1)=b7 f n++[.int ((f n:Nat):Int)]:=by
 unfold b7;rw[List.range_succ,List.map_append];rfl
theorem sW{f g:Nat->Nat}{n:Nat}(h:∀ x,x<n->f x=g x):b7 f n=b7 g n:=by
 unfold b7;refine List.map_congr_left fun x hx=>?_
 rw[h x (List.mem_range.mp hx)]
theorem zB(p:Nat):(List.replicate p [V.int 0]).flatten=b7 (fun _=>0) p:=by
 induction p with
 | zero=>rfl
 | succ p ih =>
   rw[vV,<-ih,List.replicate_succ',List.flatten_append];rfl
def sX(f:Nat->Nat)(H:Hp)(D:Addr)(i:Nat)(acc:List V)(H2:Hp):Prop:=aq H H2/\H2 D=some (.lst acc)/\acc=b7 f i
section
variable {f:Nat->Nat}{H H2 H3:Hp}{D:Addr}{i:Nat}{acc:List V}{v:V}
theorem sX.start(hD:H D=none):sX f H D 0 [] (upd H D (.lst [])):=⟨aq.new hD,ae,rfl⟩
theorem sX.len(p:sX f H D i acc H2):H2 D=some (.lst acc)/\acc.length<=i:=⟨p.2.1,by rw[p.2.2,bL];exact Nat.le_refl _⟩
theorem sX.next(p:sX f H D i acc H2)(hD:H D=none)(s:aq H2 H3)(hv:v = .int ((f i:Nat):Int)):H3 D=some (.lst acc)/\sX f H D (i+1) (acc++[v]) (upd H3 D (.lst (acc++[v]))):=by
 refine⟨s _ _ p.2.1,(p.1.trans s).put hD,ae,?_⟩;rw[vV,<-p.2.2,hv]
end
theorem vW{N:RM.Net}{m:Nat}:∀ n,((List.range n).filter fun k=>m.testBit k).foldl (fun L k=>RM.join L (N.a k) (N.b k)) (fun x=>x)=N.aJ (fun k=>m.testBit k) n
 | 0=>rfl
 | n+1=>by
   rw[aU,List.foldl_append,vW n,RM.fh]
   split<;>rfl
end Ring
namespace RM
theorem sY{N:Net}{S S' : Nat->Bool}:∀{n:Nat},(∀ k,k<n->S k=S' k)->N.aJ S n=N.aJ S' n
 | 0,_=>rfl
 | n+1,h=>by rw[fh,fh,sY fun k hk=>h k (by lia),h n (by lia)]
end RM
namespace Ring
open PySem L2
def pieceOf(L:Nat->Nat)(p s:Nat):List Nat:=(List.range p).filter fun x=>decide (L x=s)
def dX(L:Nat->Nat)(p:Nat):List Nat:=(List.range p).filter fun x=>decide (L x=x)
def LQ(D:Addr)(H0 H:Hp)(y:V)(l:List Nat):Prop:=∃ b,y = .ref b/\b≠D/\H0 b=none/\H b=some (.lst (aA l))
def sZ(L:Nat->Nat)(p:Nat)(H:Hp)(D:Addr)(i:Nat)(H2:Hp):Prop:=aq H H2/\∃ ys,H2 D=some (.lst ys)/\Paired (LQ D H H2) ys ((dX L i).map (pieceOf L p))/\ys.length<=i
section
variable {L:Nat->Nat}{p i:Nat}{H H2 H3:Hp}{D b:Addr}
theorem sZ.start(hD:H D=none):sZ L p H D 0 (upd H D (.lst [])):=⟨aq.new hD,[],ae,.nil,Nat.le_refl _⟩
theorem tu:dX L (i+1)=dX L i++(if L i=i then[i] else[]):=by
 unfold dX;rw[aU]
 by_cases h:L i=i<;>simp[h]
theorem sZ.skip(h:sZ L p H D i H2)(hn : ¬ L i=i):sZ L p H D (i+1) H2:=by
 obtain⟨s,ys,hd,pr,hl⟩:=h;refine⟨s,ys,hd,?_,by lia⟩
 rw[tu,if_neg hn,List.append_nil];exact pr
theorem sZ.push(h:sZ L p H D i H2)(hD:H D=none)(hr:L i=i)(s:aq H2 H3)(hb:H2 b=none)(XM:H3 b=some (.lst (aA (pieceOf L p i)))):
 ∃ ys,H3 D=some (.lst ys)/\ys.length<=i/\sZ L p H D (i+1) (upd H3 D (.lst (ys++[.ref b]))):=by
 obtain⟨s2,ys,hd,pr,hl⟩:=h;have LP:=s _ _ hd;have U8:b≠D:=fun e=>by rw[e,hd]at hb;cases hb
 refine⟨ys,LP,hl,(s2.trans s).put hD,ys++[.ref b],ae,?_,by rw[List.length_append,List.length_singleton];lia⟩
 rw[tu,if_pos hr,List.map_append];refine Paired.snoc (Paired.imp' (fun _ _ ⟨e,he,hn,h0,q⟩=>⟨e,he,hn,h0,by rw[aj hn];exact s _ _ q⟩) pr) ?_
 exact⟨b,rfl,U8,s2.free hb,by rw[aj U8];exact XM⟩
end
def qY(p:Nat)(ts:List c5)(g:aD p ts)(ks:List Nat):Nat->Nat:=ks.foldl (fun L k=>RM.join L (g.N.a k) (g.N.b k)) fun x=>x
theorem BA{p:Nat}{ts:List c5}{g:aD p ts}{ks:List Nat}{k:Nat}:qY p ts g (ks++[k])=RM.join (qY p ts g ks) (g.N.a k) (g.N.b k):=by
 unfold qY;rw[List.foldl_append];rfl
def bI(p:Nat)(ts:List c5)(g:aD p ts)(m:Nat):Nat->Nat:=g.N.aJ (fun k=>m.testBit k) ts.length
theorem BB{p:Nat}{ts:List c5}{g:aD p ts}{m:Nat}(hm:m<2^ts.length):qY p ts g (bu (m:Int))=bI p ts g m:=by
 unfold qY bI;rw[iI hm];exact vW _
theorem KA{p:Nat}{ts:List c5}{g:aD p ts}:bI p ts g (2^ts.length-1)=g.N.dI ts.length:=by
 unfold bI RM.Net.dI;exact RM.sY fun k hk=>by rw[Di];simp[hk]
theorem KC{p:Nat}{ts:List c5}{g:aD p ts}:(ts.length:Int)-(p:Int)+(dX (bI p ts g (2^ts.length-1)) p).length=(g.N.ay.length:Int):=by
 have h:=RM.zx (N:=g.N);rw[RM.By];unfold dX;rw[RM.fY,KA];exact h
theorem Dq(a b:Nat):(if(b:Int)<(a:Int) then(b:Int) else(a:Int))=((min a b:Nat):Int):=by
 split<;>lia
theorem Dr(a b:Nat):(if(b:Int) > (a:Int) then(b:Int) else(a:Int))=((max a b:Nat):Int):=by
 split<;>lia
theorem i9(a b:Nat):decide (V.int (a:Int)=V.int (b:Int))=decide (a=b):=by
 rw[Bool.eq_iff_iff];simp
 lia
end Ring
namespace RM
variable {N:Net}{S:Nat->Bool}
variable {pt r j:Nat}{l:List Nat}
theorem Hl{l:List Nat}:∀{p:Nat},l.Nodup->(∀ x∈l,x<p)->l.length<=p:=by
 intro p hn hl;have hp:l.Perm ((List.range p).filter fun x=>decide (x∈l)):=by
  refine(List.perm_ext_iff_of_nodup hn (List.Pairwise.filter _ List.nodup_range)).mpr fun a=>?_
  rw[List.mem_filter,List.mem_range];simp;exact fun h=>hl a h
 rw[hp.length_eq];have:=List.length_filter_le (fun x=>decide (x∈l)) (List.range p)
 rwa [List.length_range]at this
end RM
namespace Ring
open PySem L2
theorem BC{p:Nat}{f:Nat->Bool}:((List.range p).filter f).Pairwise (· < ·):=List.Pairwise.filter _ List.pairwise_lt_range
theorem iM(l:List Nat):aA l=(l.map fun x=>((x:Nat):Int)).map V.int:=by unfold aA;rw[List.map_map];rfl
theorem lq(u:Nat)(l:List Nat):LH (.int (u:Int)) (aA l)=decide (u∈l):=by
 unfold LH aA;rw[List.any_map,Bool.eq_iff_iff,List.any_eq_true];simp only[Function.comp,decide_eq_true_eq]
 constructor
 ·rintro⟨x,hx,h⟩;have e:((x:Nat):Int)=(u:Int):=eq_of_beq h;have:x=u:=by lia
  exact this▸hx
 ·intro h;exact⟨u,h,by simp[Ka]⟩
theorem mh(l:List Nat):(aA l).all nV=true:=by
 unfold aA;rw[List.all_map,List.all_eq_true];intro x _;rfl
theorem and_int(a b:Nat):Builtin.bitAnd (a:Int) (b:Int)=((a&&&b:Nat):Int):=by
 rw[PyProof.Rows.bitAnd_pp (by lia) (by lia)]
 simp
end Ring
namespace RM
variable {N:Net}
theorem Ho{L:Nat->Nat}{u v x y:Nat}:join L u v x=join L u v y↔(L x=L y\/(L x=L u/\L y=L v)\/(L x=L v/\L y=L u)):=by
 constructor
 ·exact sS
 ·have e:=vR L u v;rintro(h|⟨h1,h2⟩|⟨h1,h2⟩)
  ·exact join_eq h
  ·rw[join_eq h1,join_eq h2,e]
  ·rw[join_eq h1,join_eq h2,e]
def M5(L:Nat->Nat)(u v:Nat):Nat->Nat:=fun x=>if L x=L v then L u else L x
theorem KD{L:Nat->Nat}{u v x y:Nat}:M5 L u v x=M5 L u v y↔(L x=L y\/(L x=L u/\L y=L v)\/(L x=L v/\L y=L u)):=by
 unfold M5
 split<;>split<;>lia
end RM
namespace Ring
open PySem L2
def Oo(T:Nat->Nat):Nat->Nat
 | 0=>0
 | n+1=>Oo T n ||| T n
theorem Dt(T:Nat->Nat)(j:Nat):∀ n,(Oo T n).testBit j=true↔∃ x,x<n/\(T x).testBit j=true
 | 0=>by simp[Oo]
 | n+1=>by
   unfold Oo;rw[Nat.testBit_or,Bool.or_eq_true,Dt T j n]
   constructor
   ·rintro(⟨x,hx,h⟩|h)
    ·exact⟨x,by lia,h⟩
    ·exact⟨n,by lia,h⟩
   ·rintro⟨x,hx,h⟩
    by_cases e:x=n
    ·subst e;exact .inr h
    ·exact .inl ⟨x,by lia,h⟩
section
variable {p:Nat}{ts:List c5}{g:aD p ts}
def ja(p:Nat)(ts:List c5)(g:aD p ts):Nat:=maskOf g.N.iW ts.length
theorem BD:Oo (g.N.trail ts.length) p=ja p ts g:=by
 refine Nat.eq_of_testBit_eq fun j=>?_
 unfold ja;rw[mask_bit,Bool.eq_iff_iff,Dt];simp only[Bool.and_eq_true,decide_eq_true_eq]
 constructor
 ·rintro⟨x,_,h⟩;exact RM.c7 _ _ _ h
 ·rintro⟨h1,h2⟩;rcases RM.Em (N:=g.N) h1 h2 with h|h
  ·exact⟨_,g.N.al j h1,h⟩
  ·exact⟨_,g.N.bl j h1,h⟩
theorem BE(j:Nat):((2^ts.length-1)^^^ja p ts g).testBit j=(decide (j<ts.length) && !g.N.iW j):=by
 unfold ja;rw[Nat.testBit_xor,Di,mask_bit];cases decide (j<ts.length)<;>cases g.N.iW j<;>rfl
theorem vX:(2^ts.length-1)^^^ja p ts g<2^ts.length:=Nat.xor_lt_two_pow (by have:=Nat.two_pow_pos ts.length;lia) (mask_lt _ _)
theorem zC:bu (((2^ts.length-1)^^^ja p ts g:Nat):Int)=g.N.ay:=by
 rw[iI vX];unfold RM.Net.ay;refine List.filter_congr fun k hk=>?_
 have:=List.mem_range.mp hk;rw[BE];simp[this]
end
theorem KG(n:Nat):((2:Int)^n-1)=((2^n-1:Nat):Int):=by
 have h:((2:Int)^n)=((2^n:Nat):Int):=by simp
 have:=Nat.two_pow_pos n
 lia
theorem M6{S:Int}{l:List Nat}(h:∀ c∈l,S≠((c:Nat):Int)):LH (.int S) (aA l)=false:=by
 unfold LH aA;rw[List.any_map,List.any_eq_false];intro x hx z;exact h x hx (eq_of_beq z).symm
theorem m5{c:Nat}:∀{n:Nat},c<n->(List.range n).filter (fun k=>decide (k=c))=[c]
 | 0,h=>absurd h (Nat.not_lt_zero _)
 | n+1,h=>by
   rw[aU]
   by_cases e:c=n
   ·subst e;have z:(List.range c).filter (fun k=>decide (k=c))=[]:=by
     rw[List.filter_eq_nil_iff];intro x hx;have:=List.mem_range.mp hx;simp
     lia
    rw[z];simp
   ·rw[m5 (by lia)]
    simp[Ne.symm e]
theorem xG{l:List Nat}{i:Nat}{k:Nat}(h:l[i]?=some k):(aA l)[i]?=some (.int (k:Int)):=by
 unfold aA;rw[List.getElem?_map,h];rfl
def uX(f:Nat->Int)(l:List Nat)(H:Hp)(D:Addr)(i:Nat)(acc:List V)(H2:Hp):Prop:=aq H H2/\H2 D=some (.lst acc)/\acc=((l.take i).map f).map V.int
section
variable {f:Nat->Int}{l:List Nat}{H H2 H3:Hp}{D:Addr}{i k:Nat}{acc:List V}{v:V}
theorem uX.start(hD:H D=none):uX f l H D 0 [] (upd H D (.lst [])):=⟨aq.new hD,ae,rfl⟩
theorem uX.len(p:uX f l H D i acc H2):H2 D=some (.lst acc)/\acc.length<=i:=by
 refine⟨p.2.1,?_⟩;rw[p.2.2,List.length_map,List.length_map,List.length_take]
 lia
theorem uX.next(p:uX f l H D i acc H2)(hD:H D=none)(s:aq H2 H3)(hk:l[i]?=some k)(hv:v = .int (f k)):H3 D=some (.lst acc)/\uX f l H D (i+1) (acc++[v]) (upd H3 D (.lst (acc++[v]))):=by
 refine⟨s _ _ p.2.1,(p.1.trans s).put hD,ae,?_⟩;rw[List.take_add_one,hk,List.map_append,List.map_append,<-p.2.2,hv];rfl
theorem uX.fin(p:uX f l H D l.length acc H2):H2 D=some (.lst ((l.map f).map V.int)):=by rw[p.2.1,p.2.2,List.take_length]
end
end Ring
namespace RM
theorem tw(f:Nat->Bool):∀ n,bM f n=decide (cnt f n%2=1)
 | 0=>rfl
 | n+1=>by
   unfold bM cnt;rw[tw f n]
   by_cases h:f n=true
   ·rw[h,if_pos rfl]
    by_cases q:cnt f n%2=1
    ·have q' : ¬(cnt f n+1)%2=1:=by lia
     simp[q,q']
    ·have q' : (cnt f n+1)%2=1:=by lia
     simp[q,q']
   ·have h' : f n=false:=by simpa using h
    rw[h',if_neg (by decide)]
    simp
end RM
namespace Ring
open PySem L2
def lenOf(ts:List c5)(m:Nat):Int:=((bu (m:Int)).map fun k=>(bN ts k).2.2).sum
def Eo(ts:List c5)(f:Nat->Bool):Nat->Int
 | 0=>0
 | n+1=>Eo ts f n+(if f n=true then(bN ts n).2.2 else 0)
theorem qZ(ts:List c5)(f:Nat->Bool):∀ n,(((List.range n).filter f).map fun k=>(bN ts k).2.2).sum=Eo ts f n
 | 0=>rfl
 | n+1=>by
   rw[aU,List.map_append,List.sum_append,qZ ts f n];show _=Eo ts f n+(if f n=true then(bN ts n).2.2 else 0)
   split<;>simp
theorem Ep{ts:List c5}{m:Nat}(hm:m<2^ts.length):lenOf ts m=Eo ts (fun k=>m.testBit k) ts.length:=by
 unfold lenOf;rw[iI hm];exact qZ ts _ _
section
variable {p:Nat}{ts:List c5}(g:aD p ts)
include g
end
end Ring
namespace L2
open PySem PySem.Spec PyProof.Rows
end L2
namespace Ring
open PySem L2
end Ring
namespace RM
def sm(f:Nat->Nat):Nat->Nat
 | 0=>0
 | n+1=>sm f n+f n
theorem eT{f g:Nat->Nat}:∀{n:Nat},(∀ k,k<n->f k=g k)->sm f n=sm g n
 | 0,_=>rfl
 | n+1,h=>by
   show sm f n+f n=sm g n+g n;rw[eT fun k hk=>h k (by lia),h n (by lia)]
theorem pN(f g:Nat->Nat):∀ n,sm (fun k=>f k+g k) n=sm f n+sm g n
 | 0=>rfl
 | n+1=>by
   show sm (fun k=>f k+g k) n+(f n+g n)=sm f n+f n+(sm g n+g n)
   rw[pN f g n]
   lia
theorem rT:∀ n,sm (fun _=>0) n=0
 | 0=>rfl
 | n+1=>by
   show sm (fun _=>0) n+0=0
   rw[rT n]
theorem Dv(f:Nat->Nat->Nat)(n:Nat):∀ p,sm (fun x=>sm (fun k=>f x k) n) p=sm (fun k=>sm (fun x=>f x k) p) n
 | 0=>(rT n).symm
 | p+1=>by
   show sm (fun x=>sm (fun k=>f x k) n) p+sm (fun k=>f p k) n=sm (fun k=>sm (fun x=>f x k) p+f p k) n
   rw[Dv f n p,pN]
theorem gR(f:Nat->Bool):∀ n,cnt f n=sm (fun k=>if f k=true then 1 else 0) n
 | 0=>rfl
 | n+1=>by
   show cnt f n+(if f n=true then 1 else 0)=sm (fun k=>if f k=true then 1 else 0) n+(if f n=true then 1 else 0)
   rw[gR f n]
theorem Dw{f g:Nat->Nat}:∀{n:Nat},(∀ k,k<n->f k<=g k)->sm f n<=sm g n
 | 0,_=>Nat.le_refl _
 | n+1,h=>by
   have h1:=Dw (f:=f) (g:=g) (n:=n) fun k hk=>h k (by lia)
   have h2:=h n (by lia)
   show sm f n+f n<=sm g n+g n
   lia
theorem Hq{f g:Nat->Nat}{n:Nat}(h:∀ k,k<n->f k<=g k)(e:sm f n=sm g n):∀ k,k<n->f k=g k:=by
 induction n with
 | zero=>exact fun k hk=>absurd hk (Nat.not_lt_zero _)
 | succ n ih =>
   intro k hk;have h1:=Dw (f:=f) (g:=g) (n:=n) fun k hk=>h k (by lia)
   have h2:=h n (by lia)
   have e:sm f n+f n=sm g n+g n:=e
   by_cases hkn:k=n
   ·subst hkn
    lia
   ·exact ih (fun j hj=>h j (by lia)) (by lia) k (by lia)
theorem xH{f g:Nat->Bool}{n:Nat}(h:∀ k,k<n->f k=true->g k=true):cnt f n<=cnt g n:=by
 rw[gR,gR];refine Dw fun k hk=>?_
 by_cases hf:f k=true
 ·rw[if_pos hf,if_pos (h k hk hf)];exact Nat.le_refl _
 ·rw[if_neg hf];exact Nat.zero_le _
theorem zD{f g:Nat->Bool}{n:Nat}(h:∀ k,k<n->f k=true->g k=true)(e:cnt f n=cnt g n):∀ k,k<n->g k=true->f k=true:=fun k hk hg=>by
 rw[gR,gR]at e;have q:=Hq (n:=n) (fun k hk=>by
  by_cases hf:f k=true
  ·rw[if_pos hf,if_pos (h k hk hf)];exact Nat.le_refl _
  ·rw[if_neg hf];exact Nat.zero_le _) e k hk
 rw[if_pos hg]at q
 by_cases hf:f k=true
 ·exact hf
 ·rw[if_neg hf]at q
  lia
theorem ly{f:Nat->Bool}:∀{n:Nat},0<cnt f n->∃ k,k<n/\f k=true
 | 0,h=>absurd h (Nat.lt_irrefl _)
 | n+1,h=>by
   by_cases hf:f n=true
   ·exact⟨n,by lia,hf⟩
   ·have h:0<cnt f n+(if f n=true then 1 else 0):=h
    rw[if_neg hf]at h;obtain⟨k,hk,q⟩:=ly (f:=f) (n:=n) (by lia)
    exact⟨k,by lia,q⟩
theorem mj{f:Nat->Bool}{k:Nat}(hf:f k=true):∀{n:Nat},k<n->0<cnt f n
 | 0,h=>absurd h (Nat.not_lt_zero _)
 | n+1,h=>by
   show 0<cnt f n+(if f n=true then 1 else 0)
   by_cases hk:k=n
   ·subst hk;rw[if_pos hf]
    lia
   ·have:=mj hf (n:=n) (by lia)
    lia
theorem mq{f:Nat->Bool}:∀{n:Nat},2<=cnt f n->∃ c d,c<d/\d<n/\f c=true/\f d=true
 | 0,h=>absurd h (by show ¬ 2<=0;lia)
 | n+1,h=>by
   have h:2<=cnt f n+(if f n=true then 1 else 0):=h
   by_cases hf:f n=true
   ·rw[if_pos hf]at h;obtain⟨k,hk,q⟩:=ly (f:=f) (n:=n) (by lia)
    exact⟨k,n,hk,by lia,q,hf⟩
   ·rw[if_neg hf]at h;obtain⟨c,d,h1,h2,h3,h4⟩:=mq (f:=f) (n:=n) (by lia)
    exact⟨c,d,h1,by lia,h3,h4⟩
theorem rV{f:Nat->Bool}{u v:Nat}(hu:f u=true)(hv:f v=true)(ne:u≠v):∀{n:Nat},u<n->v<n->2<=cnt f n
 | 0,h,_=>absurd h (Nat.not_lt_zero _)
 | n+1,h1,h2=>by
   show 2<=cnt f n+(if f n=true then 1 else 0)
   by_cases e1:u=n
   ·subst e1;have:=mj hv (n:=u) (by lia)
    rw[if_pos hu]
    lia
   ·by_cases e2:v=n
    ·subst e2;have:=mj hu (n:=v) (by lia)
     rw[if_pos hv]
     lia
    ·have:=rV hu hv ne (n:=n) (by lia) (by lia)
     lia
theorem tD(a:Nat):∀ n,cnt (fun x=>decide (a=x)) n=if a<n then 1 else 0
 | 0=>rfl
 | n+1=>by
   show cnt (fun x=>decide (a=x)) n+(if decide (a=n)=true then 1 else 0)=_
   rw[tD a n]
   by_cases e:a=n
   ·subst e;simp
   ·have d:(if decide (a=n)=true then 1 else 0)=0:=if_neg (by simpa using e)
    rw[d]
    by_cases h:a<n
    ·rw[if_pos h,if_pos (by lia)]
    ·rw[if_neg h,if_neg (by lia)]
theorem tE{f g:Nat->Bool}:∀{n:Nat},(∀ x,x<n->¬(f x=true/\g x=true))->cnt (fun x=>f x^^g x) n=cnt f n+cnt g n
 | 0,_=>rfl
 | n+1,h=>by
   show cnt (fun x=>f x^^g x) n+(if(f n^^g n)=true then 1 else 0)=cnt f n+(if f n=true then 1 else 0)+(cnt g n+(if g n=true then 1 else 0))
   rw[tE fun x hx=>h x (by lia)]
   have q:=h n (by lia)
   cases hf:f n<;>cases hg:g n
   ·simp
   ·simp
    lia
   ·simp
    lia
   ·exact absurd ⟨hf,hg⟩ q
variable {N:Net}
def Net.dg(N:Net)(m x:Nat):Nat:=cnt (fun k=>m.testBit k&&N.inc k x) N.n
theorem zE(m x:Nat):N.bd m x=decide (N.dg m x%2=1):=tw _ _
theorem rW{m x:Nat}(e:N.bS m)(hx:x<N.p):N.dg m x%2=0:=by
 have h:=e x hx;rw[zE]at h;have:=of_decide_eq_false h
 lia
theorem rX{k x:Nat}(hk:k<N.n):N.inc k x=true↔(N.a k=x\/N.b k=x):=by
 have ne:=N.ne k hk;unfold Net.inc
 by_cases h1:N.a k=x
 ·have h2 : ¬ N.b k=x:=fun z=>ne (h1.trans z.symm)
  simp[h1,h2]
 ·by_cases h2:N.b k=x
  ·simp[h1,h2]
  ·simp[h1,h2]
theorem KH{k:Nat}(hk:k<N.n):cnt (N.inc k) N.p=2:=by
 have ne:=N.ne k hk;have e:cnt (N.inc k) N.p=cnt (fun x=>decide (N.a k=x)^^decide (N.b k=x)) N.p:=rfl
 rw[e,tE fun x _ ⟨h1,h2⟩=>ne ((of_decide_eq_true h1).trans (of_decide_eq_true h2).symm),tD,tD,if_pos (N.al k hk),if_pos (N.bl k hk)]
theorem xJ(m:Nat):sm (fun x=>N.dg m x) N.p=2*cnt (fun k=>m.testBit k) N.n:=by
 have e:sm (fun x=>N.dg m x) N.p=sm (fun x=>sm (fun k=>if(m.testBit k&&N.inc k x)=true then 1 else 0) N.n) N.p:=eT fun x _=>gR _ _
 rw[e,Dv,gR];have d:∀ n,2*sm (fun k=>if m.testBit k=true then 1 else 0) n=sm (fun k=>(if m.testBit k=true then 1 else 0)+(if m.testBit k=true then 1 else 0)) n:=fun n=>by
  rw[pN]
  lia
 rw[d];refine eT fun k hk=>?_
 by_cases h:m.testBit k=true
 ·rw[if_pos h];have q:=KH hk;rw[gR]at q;show _=2;exact(eT fun x _=>by rw[h,Bool.true_and]).trans q
 ·rw[if_neg h];have h' : m.testBit k=false:=by simpa using h
  have:sm (fun x=>if(m.testBit k&&N.inc k x)=true then 1 else 0) N.p=sm (fun _=>0) N.p:=eT fun x _=>by rw[h'];rfl
  rw[this,rT]
theorem P9{q m:Nat}(h:∀ k,q.testBit k=true->m.testBit k=true)(x:Nat):N.dg q x<=N.dg m x:=xH fun k _ hq=>by
 rw[Bool.and_eq_true]at hq ⊢;exact⟨h k hq.1,hq.2⟩
theorem tF{m k x:Nat}(hk:k<N.n)(hb:m.testBit k=true)(hx:N.a k=x\/N.b k=x):0<N.dg m x:=mj (k:=k) (by rw[hb,Bool.true_and];exact(rX hk).mpr hx) hk
theorem oA{m x:Nat}(h:0<N.dg m x):∃ k,k<N.n/\m.testBit k=true/\(N.a k=x\/N.b k=x):=by
 obtain⟨k,hk,q⟩:=ly h;rw[Bool.and_eq_true]at q;exact⟨k,hk,q.1,(rX hk).mp q.2⟩
theorem alone{m x y:Nat}(h:N.dg m x=0)(c:N.kT (fun k=>m.testBit k) N.n x y):y=x:=by
 induction c with
 | refl=>rfl
 | fwd _ hj hs ih=>exact absurd (tF hj hs (.inl ih)) (by lia)
 | bwd _ hj hs ih=>exact absurd (tF hj hs (.inr ih)) (by lia)
theorem Er{S:Nat->Bool}{k u v:Nat}(hk:k<=N.n)(c:N.kT S k u v):∃ t,(∀ j,t.testBit j=true->j<k/\S j=true)/\∀ x,N.bd t x=(decide (u=x)^^decide (v=x)):=by
 induction c with
 | refl=>exact⟨0,fun j hj=>by simp at hj,fun x=>by rw[l7];simp⟩
 | fwd _ hj hs ih =>
   rename_i j _
   obtain⟨t,h1,h2⟩:=ih;refine⟨t^^^2^j,fun i hi=>?_,fun x=>?_⟩
   ·rw[Nat.testBit_xor,Nat.testBit_two_pow]at hi
    by_cases e:j=i
    ·subst e;exact⟨hj,hs⟩
    ·rw[decide_eq_false e,Bool.xor_false]at hi;exact h1 i hi
   ·rw[fc,h2,jW (by lia)]
    unfold Net.inc;cases decide (u=x)<;>cases decide (N.a j=x)<;>cases decide (N.b j=x)<;>rfl
 | bwd _ hj hs ih =>
   rename_i j _
   obtain⟨t,h1,h2⟩:=ih;refine⟨t^^^2^j,fun i hi=>?_,fun x=>?_⟩
   ·rw[Nat.testBit_xor,Nat.testBit_two_pow]at hi
    by_cases e:j=i
    ·subst e;exact⟨hj,hs⟩
    ·rw[decide_eq_false e,Bool.xor_false]at hi;exact h1 i hi
   ·rw[fc,h2,jW (by lia)]
    unfold Net.inc;cases decide (u=x)<;>cases decide (N.a j=x)<;>cases decide (N.b j=x)<;>rfl
def Net.Ring(N:Net)(m:Nat):Prop:=m≠0/\N.bS m/\∀ q,(∀ k,q.testBit k=true->m.testBit k=true)->N.bS q->q=0\/q=m
section
variable {m s:Nat}
theorem Dy(hm:m<2^N.n)(ev:N.bS m)(C:Nat->Bool)(hC:∀ x,x<N.p->C x=decide (N.aJ (fun k=>m.testBit k) N.n x=s))(h2:2<=cnt C N.p)
 (Tj:∀ k,k<N.n->m.testBit k=true->C (N.a k)=true) (hl:cnt C N.p=cnt (fun k=>m.testBit k) N.n):N.Ring m:=by
 have LR:∀ k,k<N.n->m.testBit k=true->C (N.a k)=true/\C (N.b k)=true:=fun k hk hb=>by
  have h:=Tj k hk hb;refine⟨h,?_⟩;rw[hC _ (N.al k hk)]at h;rw[hC _ (N.bl k hk)];rw[gH (S:=fun k=>m.testBit k) hk hb]at h
  exact h
 have pos:∀ x,x<N.p->C x=true->0<N.dg m x:=fun x hx hc=>by
  cases hz:N.dg m x with
  | succ d=>lia
  | zero =>
    exfalso
    obtain⟨y,hy,LS,hne⟩:∃ y,y<N.p/\C y=true/\y≠x:=by
     obtain⟨c,d,h1,h3,h4,h5⟩:=mq h2
     by_cases e:c=x
     ·exact⟨d,h3,h5,by lia⟩
     ·exact⟨c,by lia,h4,e⟩
    rw[hC x hx]at hc;rw[hC y hy]at LS;exact hne (alone hz (bG _ _ _ ((of_decide_eq_true hc).trans (of_decide_eq_true LS).symm)))
 have two:∀ x,x<N.p->(if C x=true then 2 else 0)=N.dg m x:=by
  refine Hq (fun x hx=>?_) ?_
  ·by_cases hc:C x=true
   ·rw[if_pos hc];have h1:=pos x hx hc;have h3:=rW ev hx
    lia
   ·rw[if_neg hc];exact Nat.zero_le _
  ·rw[xJ,<-hl,gR];have d:∀ n,2*sm (fun k=>if C k=true then 1 else 0) n=sm (fun k=>(if C k=true then 1 else 0)+(if C k=true then 1 else 0)) n:=fun n=>by
    rw[pN]
    lia
   rw[d];exact eT fun x _=>by split<;>rfl
 obtain⟨c0,hc0,hcc⟩:=ly (f:=C) (n:=N.p) (by lia)
 refine⟨fun z=>?_,ev,fun q hq eq=>?_⟩
 ·have h:=pos c0 hc0 hcc;obtain⟨k,_,hb,_⟩:=oA h;rw[z]at hb;simp at hb
 ·by_cases BF:q=0
  ·exact .inl BF
  ·right
   have full:∀ x,x<N.p->0<N.dg q x->∀ k,k<N.n->m.testBit k=true->(N.a k=x\/N.b k=x)->q.testBit k=true:=fun x hx h k hk hb JD=>by
    have h1:=P9 (N:=N) hq x;have h3:=rW eq hx;have h4:=two x hx;have h5:N.dg q x=N.dg m x:=by
     by_cases hc:C x=true
     ·rw[if_pos hc]at h4
      lia
     ·rw[if_neg hc]at h4
      lia
    have h6:=zD (f:=fun k=>q.testBit k&&N.inc k x) (g:=fun k=>m.testBit k&&N.inc k x) (n:=N.n) (fun k _ z=>by
     rw[Bool.and_eq_true]at z ⊢;exact⟨hq k z.1,z.2⟩) h5 k hk (by rw[hb,Bool.true_and];exact(rX hk).mpr JD)
    rw[Bool.and_eq_true]at h6;exact h6.1
   obtain⟨k0,hb0⟩:∃ k,q.testBit k=true:=Nat.exists_testBit_of_ne_zero BF;have hk0:k0<N.n:=bO hm (hq k0 hb0);have spread:∀{y},N.kT (fun k=>m.testBit k) N.n (N.a k0) y->0<N.dg q y:=fun {y} c=>by
    induction c with
    | refl=>exact tF hk0 hb0 (.inl rfl)
    | fwd _ hj hs ih=>exact tF hj (full _ (N.al _ hj) ih _ hj hs (.inl rfl)) (.inr rfl)
    | bwd _ hj hs ih=>exact tF hj (full _ (N.bl _ hj) ih _ hj hs (.inr rfl)) (.inl rfl)
   refine Nat.eq_of_testBit_eq fun k=>?_
   cases hb:m.testBit k with
   | false =>
     cases hz:q.testBit k with
     | false=>rfl
     | true =>
       have:=hq k hz;rw[hb]at this;cases this
   | true =>
     have hk:=bO hm hb;have e1:=(LR k hk hb).1;have e2:=(LR k0 hk0 (hq k0 hb0)).1;rw[hC _ (N.al k hk)]at e1;rw[hC _ (N.al k0 hk0)]at e2;exact full _ (N.al k hk) (spread (bG _ _ _ ((of_decide_eq_true e2).trans (of_decide_eq_true e1).symm))) k hk hb (.inl rfl)
theorem nu(hm:m<2^N.n)(r:N.Ring m):∃ k0,k0<N.n/\m.testBit k0=true/\∀ k,k<N.n->m.testBit k=true->N.aJ (fun k=>m.testBit k) N.n (N.a k)=N.aJ (fun k=>m.testBit k) N.n (N.a k0):=by
 obtain⟨h0,ev,mn⟩:=r;obtain⟨k0,hb0⟩:=Nat.exists_testBit_of_ne_zero h0;have hk0:=bO hm hb0;refine⟨k0,hk0,hb0,?_⟩;generalize hs:N.aJ (fun k=>m.testBit k) N.n (N.a k0)=s
 have bit:∀ k,(Ring.maskOf (fun k=>m.testBit k&&decide (N.aJ (fun k=>m.testBit k) N.n (N.a k)=s)) N.n).testBit k=(decide (k<N.n)&&(m.testBit k&&decide (N.aJ (fun k=>m.testBit k) N.n (N.a k)=s))):=fun k=>Ring.mask_bit _ k _
 have sub:∀ k,(Ring.maskOf (fun k=>m.testBit k&&decide (N.aJ (fun k=>m.testBit k) N.n (N.a k)=s)) N.n).testBit k=true->m.testBit k=true:=fun k hk=>by
  rw[bit,Bool.and_eq_true,Bool.and_eq_true]at hk;exact hk.2.1
 have Tn:N.bS (Ring.maskOf (fun k=>m.testBit k&&decide (N.aJ (fun k=>m.testBit k) N.n (N.a k)=s)) N.n):=fun x hx=>by
  have e:N.bd (Ring.maskOf (fun k=>m.testBit k&&decide (N.aJ (fun k=>m.testBit k) N.n (N.a k)=s)) N.n) x=(decide (N.aJ (fun k=>m.testBit k) N.n x=s)&&N.bd m x):=by
   unfold Net.bd;rw[<-oh];refine bR fun k hk=>?_
   rw[bit,decide_eq_true hk,Bool.true_and];cases hb:m.testBit k with
   | false=>simp
   | true =>
     cases hi:N.inc k x with
     | false=>simp
     | true =>
       have el:N.aJ (fun k=>m.testBit k) N.n (N.a k)=N.aJ (fun k=>m.testBit k) N.n x:=by
        rcases(rX hk).mp hi with z|z
        ·rw[z]
        ·rw[<-z];exact gH (S:=fun k=>m.testBit k) hk hb
       rw[el];simp
  rw[e,ev x hx,Bool.and_false]
 rcases mn _ sub Tn with q|q
 ·have:=bit k0;rw[q,hb0,hs,decide_eq_true hk0]at this;simp at this
 ·intro k hk hb;have h:=bit k;rw[q,hb,decide_eq_true hk]at h;exact of_decide_eq_true (by simpa using h.symm)
theorem vY(S:Nat->Bool):∀ k,k<=N.n->cnt (N.root S k) N.p+cnt (fun j=>S j && !decide (N.aJ S j (N.a j)=N.aJ S j (N.b j))) k=N.p
 | 0,_=>by
   show cnt (N.root S 0) N.p+0=N.p;rw[xF (f:=N.root S 0) fun x _=>decide_eq_true rfl]
   rfl
 | k+1,hk=>by
   have ih:=vY S k (by lia)
   have st:=sV (N:=N) (S:=S) (k:=k) (by lia)
   show cnt (N.root S (k+1)) N.p+(cnt (fun j=>S j && !decide (N.aJ S j (N.a j)=N.aJ S j (N.b j))) k+if(S k && !decide (N.aJ S k (N.a k)=N.aJ S k (N.b k)))=true then 1 else 0)=N.p
   lia
theorem zF(hm:m<2^N.n)(r:N.Ring m)(C:Nat->Bool)(hC:∀ x,x<N.p->C x=decide (N.aJ (fun k=>m.testBit k) N.n x=s))
 (Tj:∀ k,k<N.n->m.testBit k=true->C (N.a k)=true):2<=cnt C N.p/\cnt C N.p=cnt (fun k=>m.testBit k) N.n/\∀ x,x<N.p->C x=false->N.aJ (fun k=>m.testBit k) N.n x=x/\∀ y,N.aJ (fun k=>m.testBit k) N.n y=x->y=x:=by
 obtain⟨h0,ev,mn⟩:=r;obtain⟨k0,hb0⟩:=Nat.exists_testBit_of_ne_zero h0;have hk0:=bO hm hb0;have LR:∀ k,k<N.n->m.testBit k=true->C (N.a k)=true/\C (N.b k)=true:=fun k hk hb=>by
  have h:=Tj k hk hb;refine⟨h,?_⟩;rw[hC _ (N.al k hk)]at h;rw[hC _ (N.bl k hk),<-gH (S:=fun k=>m.testBit k) hk hb]
  exact h
 have h2:2<=cnt C N.p:=rV (LR k0 hk0 hb0).1 (LR k0 hk0 hb0).2 (N.ne k0 hk0) (N.al k0 hk0) (N.bl k0 hk0);have none:∀ x,x<N.p->C x=false->N.dg m x=0:=fun x hx hc=>by
  cases hz:N.dg m x with
  | zero=>rfl
  | succ d =>
    exfalso
    obtain⟨k,hk,hb,JD⟩:=oA (N:=N) (m:=m) (x:=x) (by lia)
    rcases JD with e|e
    ·have:=(LR k hk hb).1;rw[e,hc]at this;cases this
    ·have:=(LR k hk hb).2;rw[e,hc]at this;cases this
 have Es:∀ x,x<N.p->C x=false->N.aJ (fun k=>m.testBit k) N.n x=x/\∀ y,N.aJ (fun k=>m.testBit k) N.n y=x->y=x:=fun x hx hc=>by
  have hz:=none x hx hc;have r1:N.aJ (fun k=>m.testBit k) N.n x=x:=alone hz (bG _ _ _ (bT _ _).symm)
  exact⟨r1,fun y hy=>alone hz (bG _ _ _ (r1.trans hy.symm))⟩
 refine⟨h2,?_,Es⟩;have pos:∀ x,x<N.p->C x=true->0<N.dg m x:=fun x hx hc=>by
  cases hz:N.dg m x with
  | succ d=>lia
  | zero =>
    exfalso
    obtain⟨y,hy,LS,hne⟩:∃ y,y<N.p/\C y=true/\y≠x:=by
     obtain⟨c,d,h1,h3,h4,h5⟩:=mq h2
     by_cases e:c=x
     ·exact⟨d,h3,h5,by lia⟩
     ·exact⟨c,by lia,h4,e⟩
    rw[hC x hx]at hc;rw[hC y hy]at LS;exact hne (alone hz (bG _ _ _ ((of_decide_eq_true hc).trans (of_decide_eq_true LS).symm)))
 have ge:cnt C N.p<=cnt (fun k=>m.testBit k) N.n:=by
  have h:sm (fun x=>if C x=true then 2 else 0) N.p<=sm (fun x=>N.dg m x) N.p:=Dw fun x hx=>by
   by_cases hc:C x=true
   ·rw[if_pos hc];have h1:=pos x hx hc;have h3:=rW ev hx
    lia
   ·rw[if_neg hc];exact Nat.zero_le _
  rw[xJ]at h;have d:sm (fun x=>if C x=true then 2 else 0) N.p=2*cnt C N.p:=by
   rw[gR];have d:∀ n,2*sm (fun k=>if C k=true then 1 else 0) n=sm (fun k=>(if C k=true then 1 else 0)+(if C k=true then 1 else 0)) n:=fun n=>by
    rw[pN]
    lia
   rw[d];exact eT fun x _=>by split<;>rfl
  lia
 refine Nat.le_antisymm ge (Nat.le_of_not_lt fun more=>?_)
 have To:=vY (N:=N) (fun k=>m.testBit k) N.n (Nat.le_refl _)
 have hr:cnt (N.root (fun k=>m.testBit k) N.n) N.p+cnt C N.p=N.p+1:=by
  have hc0:=(LR k0 hk0 hb0).1;rw[hC _ (N.al k0 hk0)]at hc0;have hs:=of_decide_eq_true hc0;have rC:s<N.p:=by rw[<-hs];exact i7 (N.al k0 hk0)
  have hss:N.aJ (fun k=>m.testBit k) N.n s=s:=by rw[<-hs];exact bT _ _
  have e:cnt (N.root (fun k=>m.testBit k) N.n) N.p=cnt (fun x=>!C x^^decide (s=x)) N.p:=dW fun x hx=>by
   unfold Net.root;cases hc:C x with
   | false =>
     have ne : ¬ s=x:=fun z=>by
      have:=hC x hx;rw[hc,<-z,hss]at this;simp at this
     rw[decide_eq_true (Es x hx hc).1,decide_eq_false ne];rfl
   | true =>
     have h:=hC x hx;rw[hc]at h;have h:=of_decide_eq_true h.symm;rw[h];simp
  rw[e,tE fun x hx ⟨z1,z2⟩=>by
   have z2:=of_decide_eq_true z2;have:=hC x hx;rw[<-z2,hss]at this;rw[<-z2,this]at z1;simp at z1,tD,if_pos rC]
  have:=i0 C N.p
  lia
 have split:cnt (fun k=>m.testBit k) N.n=cnt (fun j=>m.testBit j && !decide (N.aJ (fun k=>m.testBit k) j (N.a j)=N.aJ (fun k=>m.testBit k) j (N.b j))) N.n+cnt (fun j=>m.testBit j&&decide (N.aJ (fun k=>m.testBit k) j (N.a j)=N.aJ (fun k=>m.testBit k) j (N.b j))) N.n:=by
  rw[<-tE fun x _ ⟨z1,z2⟩=>by
   rw[Bool.and_eq_true]at z1 z2;have:=z1.2;rw[z2.2]at this;cases this]
  refine dW fun k _=>?_
  cases m.testBit k<;>cases decide (N.aJ (fun k=>m.testBit k) k (N.a k)=N.aJ (fun k=>m.testBit k) k (N.b k))<;>rfl
 obtain⟨c,d,hcd,hd,hc1,hd1⟩:=mq (f:=fun j=>m.testBit j&&decide (N.aJ (fun k=>m.testBit k) j (N.a j)=N.aJ (fun k=>m.testBit k) j (N.b j))) (n:=N.n) (by lia)
 have whole:∀ j,j<N.n->(m.testBit j&&decide (N.aJ (fun k=>m.testBit k) j (N.a j)=N.aJ (fun k=>m.testBit k) j (N.b j)))=true->∀ i,m.testBit i=true->i<=j:=fun j hj h i hi=>by
  rw[Bool.and_eq_true]at h;obtain⟨t,t1,t2⟩:=Er (Nat.le_of_lt hj) (bG _ _ _ (of_decide_eq_true h.2));have own:(t^^^2^j).testBit j=true:=by
   rw[Nat.testBit_xor,Nat.testBit_two_pow,decide_eq_true rfl];cases hz:t.testBit j with
   | false=>rfl
   | true=>exact absurd (t1 j hz).1 (Nat.lt_irrefl _)
  have sub:∀ k,(t^^^2^j).testBit k=true->m.testBit k=true:=fun k hk=>by
   rw[Nat.testBit_xor,Nat.testBit_two_pow]at hk
   by_cases e:j=k
   ·subst e;exact h.1
   ·rw[decide_eq_false e,Bool.xor_false]at hk;exact(t1 k hk).2
  have Tn:N.bS (t^^^2^j):=fun x hx=>by
   rw[fc,t2,jW hj];unfold Net.inc;cases decide (N.a j=x)<;>cases decide (N.b j=x)<;>rfl
  rcases mn _ sub Tn with q|q
  ·rw[q]at own;simp at own
  ·rw[<-q,Nat.testBit_xor,Nat.testBit_two_pow]at hi
   by_cases e:j=i
   ·lia
   ·rw[decide_eq_false e,Bool.xor_false]at hi;exact Nat.le_of_lt (t1 i hi).1
 have h1:m.testBit d=true:=by
  rw[Bool.and_eq_true]at hd1;exact hd1.1
 have:=whole c (by lia) hc1 d h1
 lia
end
end RM
namespace Ring
open PySem L2
def di(L:Nat->Nat)(p:Nat):List Nat:=(dX L p).filter fun s=>decide (1<(pieceOf L p s).length)
def M7(L:Nat->Nat)(p k:Nat):List Nat->Bool
 | [s]=>decide ((pieceOf L p s).length=k)
 | _=>false
def kQ(p:Nat)(ts:List c5)(g:aD p ts)(m:Nat):Bool:=decide (sP p ts (m:Int)=[])&&M7 (bI p ts g m) p (bu (m:Int)).length (di (bI p ts g m) p)
theorem ir(L:Nat->Nat)(p s:Nat):(pieceOf L p s).length=RM.cnt (fun x=>decide (L x=s)) p:=RM.fY _ _
theorem tG{m n:Nat}(hm:m<2^n):(bu (m:Int)).length=RM.cnt (fun k=>m.testBit k) n:=by
 rw[iI hm];exact RM.fY _ _
theorem Et{f:Nat->Bool}{n c:Nat}(hc:c<n)(h:∀ k,k<n->f k=decide (k=c)):(List.range n).filter f=[c]:=by
 rw[<-m5 hc];exact List.filter_congr fun k hk=>h k (List.mem_range.mp hk)
theorem pO{p:Nat}{ts:List c5}(g:aD p ts){m:Nat}(hm:m<2^ts.length):kQ p ts g m=true↔g.N.Ring m:=by
 have eL:bI p ts g m=g.N.aJ (fun k=>m.testBit k) g.N.n:=rfl
 have ep:g.N.p=p:=rfl
 constructor
 ·intro h;unfold kQ at h;rw[Bool.and_eq_true]at h;obtain⟨h1,h2⟩:=h;have ev:=(zA g hm).mp (of_decide_eq_true h1);unfold M7 at h2
  split at h2
  ·rename_i s hs
   have h2:=of_decide_eq_true h2;have hmem:s∈di (bI p ts g m) p:=by rw[hs];exact List.mem_singleton.mpr rfl
   unfold di at hmem;have hlen:=of_decide_eq_true (List.mem_filter.mp hmem).2;refine RM.Dy (s:=s) hm ev (fun x=>decide (bI p ts g m x=s)) (fun x _=>by rw[eL]) ?_ (fun k hk hb=>?_) ?_
   ·rw[ep,<-ir];exact hlen
   ·
    have U9:=g.N.al k hk;have XN:=g.N.bl k hk;have e:bI p ts g m (g.N.b k)=bI p ts g m (g.N.a k):=(RM.gH (S:=fun k=>m.testBit k) hk hb).symm
    have hr:bI p ts g m (bI p ts g m (g.N.a k))=bI p ts g m (g.N.a k):=RM.bT _ _;have hlt:bI p ts g m (g.N.a k)<p:=RM.i7 U9;have ht:bI p ts g m (g.N.a k)∈di (bI p ts g m) p:=by
     unfold di dX;refine List.mem_filter.mpr ⟨List.mem_filter.mpr ⟨List.mem_range.mpr hlt,decide_eq_true hr⟩,decide_eq_true ?_⟩;rw[ir];exact RM.rV (u:=g.N.a k) (v:=g.N.b k) (decide_eq_true rfl) (decide_eq_true e) (g.N.ne k hk) U9 XN
    rw[hs]at ht;exact decide_eq_true (List.mem_singleton.mp ht)
   ·rw[ep,<-ir,h2];exact tG hm
  ·cases h2
 ·intro r;obtain⟨k0,hk0,hb0,hall⟩:=RM.nu hm r;generalize hs:g.N.aJ (fun k=>m.testBit k) g.N.n (g.N.a k0)=s at hall
  obtain⟨h2,hl,Es⟩:=RM.zF (s:=s) hm r (fun x=>decide (bI p ts g m x=s)) (fun x _=>by rw[eL]) (fun k hk hb=>decide_eq_true (hall k hk hb))
  have rC:s<p:=by rw[<-hs];exact RM.i7 (g.N.al k0 hk0)
  have hss:bI p ts g m s=s:=by rw[eL,<-hs];exact RM.bT _ _
  have ht:di (bI p ts g m) p=[s]:=by
   unfold di dX;rw[List.filter_filter];refine Et rC fun x hx=>?_
   by_cases e:x=s
   ·subst e;rw[decide_eq_true hss,ir,decide_eq_true rfl,Bool.and_true];exact decide_eq_true h2
   ·rw[decide_eq_false e]
    by_cases JD:bI p ts g m x=x
    ·have hc:decide (bI p ts g m x=s)=false:=decide_eq_false (by rw[JD];exact e)
     obtain⟨_,q⟩:=Es x hx hc;have : ¬ 1<(pieceOf (bI p ts g m) p x).length:=fun z=>by
      rw[ir]at z;obtain⟨c,d,h1,_,h3,h4⟩:=RM.mq z;have h3:=q c (of_decide_eq_true h3);have h4:=q d (of_decide_eq_true h4)
      lia
     rw[decide_eq_false this,Bool.false_and]
    ·rw[decide_eq_false JD,Bool.and_false]
  unfold kQ;rw[decide_eq_true ((zA g hm).mpr r.2.1),ht,Bool.true_and];refine decide_eq_true ?_;rw[ir,tG hm];exact hl
theorem BG{p:Nat}{ts:List c5}{g:aD p ts}{m:Nat}(ev:sP p ts (m:Int)=[]):kQ p ts g m=M7 (bI p ts g m) p (bu (m:Int)).length (di (bI p ts g m) p):=by
 unfold kQ;rw[decide_eq_true ev,Bool.true_and]
def M8(H:Hp)(y:V)(l:List Nat):Prop:=∃ b,y = .ref b/\H b=some (.lst (aA l))
def tH(f:List Nat->Bool)(ls:List (List Nat))(H:Hp)(D:Addr)(i:Nat)(acc:List V)(H2:Hp):Prop:=aq H H2/\H2 D=some (.lst acc)/\Paired (M8 H) acc ((ls.take i).filter f)
section
variable {f:List Nat->Bool}{ls:List (List Nat)}{H H2 H3:Hp}{D:Addr}{i:Nat}{acc:List V}{y:V}{l:List Nat}
theorem tH.start(hD:H D=none):tH f ls H D 0 [] (upd H D (.lst [])):=⟨aq.new hD,ae,.nil⟩
theorem tH.len(h:tH f ls H D i acc H2):H2 D=some (.lst acc)/\acc.length<=i:=⟨h.2.1,by
 rw[h.2.2.length];exact Nat.le_trans (List.length_filter_le _ _) (by rw[List.length_take];lia)⟩
theorem tH.yes(h:tH f ls H D i acc H2)(hD:H D=none)(hl:ls[i]?=some l)(hf:f l=true)(hy:M8 H y l):H2 D=some (.lst acc)/\tH f ls H D (i+1) (acc++[y]) (upd H2 D (.lst (acc++[y]))):=by
 refine⟨h.2.1,h.1.put hD,ae,?_⟩;rw[List.take_add_one,hl,List.filter_append];show Paired _ _ (_++List.filter f [l]);rw[List.filter_cons,if_pos hf];exact Paired.snoc h.2.2 hy
theorem tH.no(h:tH f ls H D i acc H2)(hl:ls[i]?=some l)(hf:f l=false):tH f ls H D (i+1) acc H2:=by
 refine⟨h.1,h.2.1,?_⟩;rw[List.take_add_one,hl,List.filter_append];show Paired _ _ (_++List.filter f [l]);rw[List.filter_cons,if_neg (by rw[hf];exact Bool.false_ne_true)]
 simpa using h.2.2
end
end Ring
namespace L2
open PySem PySem.Spec PyProof.Rows
section
variable {prog:Program}{w:World}{A:Around}{E:dh}{s:Shared}
theorem BH{it t:Addr}{i:Nat}{items:Array Value}{x:Value}{Q:dh}(hit:s.heap.IsTupleIter it t i)(ht:s.heap.IsTuple t items)(hx:items[i]?=some x)
 (q:∀ h',h'.IsTupleIter it t (i+1)->Heap.SameBut it s.heap h'->Q x { s with heap:=h'}):wpAny (model prog w) A (Builtin.SmallTypes.nextOf (.ref it)) Q E s:=by
 obtain⟨o,ho,hc,hd⟩:=id hit;obtain⟨ot,Tp,_,nt,hdt⟩:=ht;rw[Builtin.SmallTypes.nextOf];refine wpAny_bind (wpAny_callSpecial?_slot (name:=Str.ofString "__next__") hit.typeIs F.slot_tuple_iterator_next (wpAny_call_entry F.slot_tuple_iterator_next hit.typeIs F.entry_tuple_iterator_next ?_ (F.args_tuple_iterator_next_1 _)));show wpAny _ _ (field (.ref it) 0 >>= fun _=>_) _ _ s
 refine wpAny_bind (wpAny_field ho hd (x:=.ref t) rfl ?_);show wpAny _ _ (if(Value.ref t==Value.none)=true then _ else _) _ _ s
 rw[if_neg (by simp)]
 show wpAny _ _ (field (.ref it) 1 >>= fun _=>_) _ _ s
 refine wpAny_bind (wpAny_field ho hd (x:=.int i 0) rfl ?_);show wpAny _ _ (seqItems? (.ref t) >>= fun _=>_) _ _ s
 refine wpAny_bind (wpAny_seqItems Tp hdt ?_);simp only[Int.toNat_natCast,hx];refine wpAny_bind (wpAny_setField ho hd (by simp) (wpAny_pure ⟨x,rfl,wpAny_pure (q _ ?_ (Heap.SameBut.update ..))⟩))
 refine⟨_,Heap.get?_update_self _ ho (Obj.isFreed_of_fields (Obj.data_mapFields hd _)),(Obj.cls_mapFields ..).trans hc,?_⟩;rw[Obj.data_mapFields hd];simp[rawInt]
theorem Eu{it t:Addr}{i:Nat}{items:Array Value}{Q:dh}(hh:A.handled=none)(hit:s.heap.IsTupleIter it t i)(ht:s.heap.IsTuple t items)(hx:items[i]?=none)
 (q:∀ h' e,Heap.ExtBut it s.heap h'->(∃ o,h'.get? e=some o/\o.cls = .type "StopIteration")->E (.ref e) { s with heap:=h'}):wpAny (model prog w) A (Builtin.SmallTypes.nextOf (.ref it)) Q E s:=by
 obtain⟨o,ho,hc,hd⟩:=id hit;obtain⟨ot,Tp,_,nt,hdt⟩:=ht;rw[Builtin.SmallTypes.nextOf];refine wpAny_bind (wpAny_callSpecial?_slot (name:=Str.ofString "__next__") hit.typeIs F.slot_tuple_iterator_next (wpAny_call_entry F.slot_tuple_iterator_next hit.typeIs F.entry_tuple_iterator_next ?_ (F.args_tuple_iterator_next_1 _)));show wpAny _ _ (field (.ref it) 0 >>= fun _=>_) _ _ s
 refine wpAny_bind (wpAny_field ho hd (x:=.ref t) rfl ?_);show wpAny _ _ (if(Value.ref t==Value.none)=true then _ else _) _ _ s
 rw[if_neg (by simp)]
 show wpAny _ _ (field (.ref it) 1 >>= fun _=>_) _ _ s
 refine wpAny_bind (wpAny_field ho hd (x:=.int i 0) rfl ?_);show wpAny _ _ (seqItems? (.ref t) >>= fun _=>_) _ _ s
 refine wpAny_bind (wpAny_seqItems Tp hdt ?_);simp only[Int.toNat_natCast,hx];refine wpAny_bind (wpAny_rule (wpAny_bind (wpAny_setField ho hd (by simp) ?_)))
 show wpAny _ _ (newExc (.type "StopIteration") [] >>= fun _=>_) _ _ _
 refine wpAny_bind ?_;simp only[newExc,newTuple];refine wpAny_bind (wpAny_newObj_type ?_ (by size_fits))
 refine wpAny_bind (m:=firstArgMember _ _) (wpAny_of_eq (a:=Value.none) (by first | rfl | (simp only[firstArgMember];rfl)) (wpAny_newObj_type ?_ (by size_fits)))
 exact wpAny_raiseNew_none hh (q _ _ (((Heap.SameBut.update ..).extBut.push _).push _) ⟨_,Heap.get?_push_size _ rfl,rfl⟩)
theorem q9(hh:A.handled=none)(it t:Addr)(hne:t≠it)(items:Array Value):
 Draws prog w A it [it,t] items.size (fun i v=>items[i]?=some v) (fun i h=>h.IsTupleIter it t i/\h.IsTuple t items) where
 live:=fun _ _ st=>let⟨o,ho,_⟩:=st.1;⟨o,ho⟩
 frame:=fun _ _ _ st hk=>⟨st.1.at fun o e=>hk it (by simp) o e,st.2.at fun o e=>hk t (by simp) o e⟩
 item:=fun i s Q E hi st hQ=>BH st.1 st.2 (x:=items[i]) (by simp[hi]) fun h' Tq hs'=>hQ _ h' s.toks (by simp[hi]) ⟨Tq,st.2.extBut hs'.extBut hne⟩ hs'
 done:=fun s Q E st hE=>Eu hh st.1 st.2 (by simp) hE
end
open AutoSeq1 (wpAny_loadPart') in
theorem pP(l:Addr)(items:Array Value)(n:Nat)(dct:Option Addr)(sl:Array (Option Value)):
 Meets (Builtin.«enumerate.__new__» ⟨[.type "enumerate",.ref l],[]⟩) (fun _ R s=>s.heap.get? l=some { cls:=.type "tuple",dict:=dct,data:=.seq items n,slots:=sl}/\
  R (.ok (.ret (.ref (s.heap.push { cls:=.type "tuple_iterator",data:=.fields #[.ref l,.int 0 0]}).objs.size)))
    { s with heap:=(s.heap.push { cls:=.type "tuple_iterator",data:=.fields #[.ref l,.int 0 0]}).push { cls:=.type "enumerate",data:=.fields #[.none,.bool false,.ref s.heap.objs.size,rawInt 0,.none,.none]}}) :=
 .of_wp fun prog w A R s h=>by
  obtain⟨hp,g,d,tk,os⟩:=s;obtain⟨hl,h⟩:=h;have hsub:=sub_enumerate;have hL:Heap.IsTuple (Shared.heap ⟨hp,g,d,tk,os⟩) l items:=⟨_,hl,rfl,n,rfl⟩
  wp_walk using wpAny_loadPart' hl
  refine wpAny_stack_any fun st=>wpAny_pure ?_
  split
  ·rename_i c _ _ _ _ _
   cases(c==Value.type "enumerate")
   ·wp_walk using wpAny_loadPart' hl,wpAny_pyIter_tuple hL
    exact⟨_,rfl,h⟩
   ·wp_walk using wpAny_loadPart' hl,wpAny_pyIter_tuple hL
    exact⟨_,rfl,h⟩
  ·wp_walk using wpAny_loadPart' hl,wpAny_pyIter_tuple hL
   exact⟨_,rfl,h⟩
section
variable {prog:Program}{w:World}{A:Around}{E:dh}{s:Shared}
theorem BI{l:Addr}{items:Array Value}{Q:dh}(hL:s.heap.IsTuple l items)
 (h:∀ h',IsEnum h' (s.heap.objs.size+1) s.heap.objs.size 0 .none->h'.IsTupleIter s.heap.objs.size l 0->h'.objs.size=s.heap.objs.size+2->(∀ b o,s.heap.get? b=some o->h'.get? b=some o)->Q (.ref (s.heap.objs.size+1)) { s with heap:=h'}) :
 wpAny (model prog w) A (call (.type "enumerate") [.ref l]) Q E s:=by
 obtain⟨⟨c,dct,dt,sl⟩,hl,hc,n,hd⟩:=hL
 replace hc:c = .type "tuple":=hc
 replace hd:dt = .seq items n:=hd
 subst hc hd;refine callType_new F.called_enumerate (by decide) (F.typeCall_enumerate_1 _) (F.newCall_enumerate_1 _) (fun obj=>F.args_object_init_2 obj _) F.entry_enumerate_new (pP l items n dct sl) ⟨hl,?_⟩
 have hz:(s.heap.push { cls:=.type "tuple_iterator",data:=.fields #[.ref l,.int 0 0]}).objs.size=s.heap.objs.size+1:=Heap.size_push ..;show _/\_;rw[hz];have he:IsEnum ((s.heap.push { cls:=.type "tuple_iterator",data:=.fields #[.ref l,.int 0 0]}).push { cls:=.type "enumerate",data:=.fields #[.none,.bool false,.ref s.heap.objs.size,rawInt 0,.none,.none]}) (s.heap.objs.size+1) s.heap.objs.size 0 .none:=by
  have z:=Heap.get?_push_size (s.heap.push { cls:=.type "tuple_iterator",data:=.fields #[.ref l,.int 0 0]}) (o:={ cls:=.type "enumerate",data:=.fields #[.none,.bool false,.ref s.heap.objs.size,rawInt 0,.none,.none]}) rfl;rw[hz]at z;exact z
 exact⟨⟨_,he,rfl⟩,h _ he ⟨_,Heap.get?_push_of_some _ (Heap.get?_push_size _ rfl),rfl,rfl⟩ (by rw[Heap.size_push,hz]) fun b o x=>Heap.get?_push_of_some _ (Heap.get?_push_of_some _ x)⟩
end
def Ew(K:bJ)(a:Addr):It :=
 ⟨fun i H=>∃ xs x,aV K H a xs/\xs[i]?=some x,fun i H v H'=>∃ T x,v = .ref T/\H T=none/\H' = upd H T (.tup [.int (i:Int),x])/\∀ xs,aV K H a xs->xs[i]?=some x,fun i H=>∃ xs,aV K H a xs/\xs.length=i⟩
theorem BJ{P:Program}{w:World}{K:bJ}{elts:List Expr}{k:Nat}{pos:Pos}(a e it:Addr)(hne:e≠it):
 Turn P w K (.Tuple elts k pos) (Ew K a) [e,it] e (fun i h=>(∃ old,IsEnum h e it (i:Int) old)/\h.IsTupleIter it a i) where
 mem:=by simp
 obj:=fun i h st b hb=>by
  obtain⟨⟨old,he⟩,o,ho,c,d⟩:=st;have hb' : b=e\/b=it:=by simpa using hb
  rcases hb' with rfl|rfl
  ·exact⟨_,he,fun v z=>by cases z⟩
  ·exact⟨o,ho,fun v z=>by rw[d]at z;cases z⟩
 keep:=fun i h h' st k=>by
  obtain⟨⟨old,he⟩,hit⟩:=st;exact⟨⟨old,k e (by simp) _ he⟩,hit.at fun o x=>k it (by simp) o x⟩
 item:=by
  intro X hP hw hK hc i pins s σ H E I hf st hg;subst hP hw hK;obtain⟨xs,x,hq,hx⟩:=hg;obtain⟨its,rv,p,hz⟩:=I.tuple hq;obtain⟨u,hu,ru⟩:=rv.get hx;obtain⟨⟨old,he⟩,hit⟩:=st;have pT:s.heap.IsTuple a its.toArray:=p;have hai:a≠it:=fun z=>by
   obtain⟨o1,h1,_,_,d1⟩:=pT;obtain⟨o2,h2,_,d2⟩:=hit;rw[z,h2]at h1;cases h1;rw[d2]at d1;cases d1
  have XO:e∉[it,a]:=fun z=>by
   have z' : e=it\/e=a:=by simpa using z
   rcases z' with z' | z'
   ·exact hne z'
   ·obtain⟨o1,h1,_,_,d1⟩:=pT;rw[<-z',he]at h1;cases h1;cases d1
  refine wpAny_pyNext_enum_itemD (q9 (A:=X.A.in1) (I.ok.hd hc) it a hai its.toArray) he ⟨hit,pT⟩ (by have:=(List.getElem?_eq_some_iff.mp hu).1;simpa using this) hne XO fun y h1 tk hy ho MV hT hsz hk=>?_
  have XQ:y=u:=by
   have z:its.toArray[i]?=some u:=by simpa using hu
   rw[hy]at z;exact Option.some.inj z
  subst XQ;refine⟨_,rfl,wpAny_letOwnedTupleGo_enum ho fun h2 Ks hs2=>?_⟩
  have P6:s.heap.objs.size≠e:=Nat.ne_of_gt (Heap.lt_size he);have hT2:h2.get? s.heap.objs.size=some { cls:=.type "tuple",data:=.seq #[.int i tk,y]}:=(hs2.2 _ P6).trans hT;refine⟨.ref s.heap.objs.size,upd H s.heap.objs.size (.tup [.int (i:Int),x]),I.yields (wr:=[e,it]) (t':=tk+1) (fun b o hb q=>?_) hf (Nat.le_refl _) ?_,rfl,⟨_,x,rfl,I.fresh,rfl,fun ys hy=>by rw[I.DZ hy hq];exact hx⟩,⟨⟨y,by simpa using Ks⟩,?_⟩,fun b hb=>?_⟩
  ·have GX:b≠e:=fun z=>hb (by simp[z])
   have MW:b≠it:=fun z=>hb (by simp[z])
   exact(hs2.2 b GX).trans (hk b o GX MW q)
  ·exact⟨dl rfl,[.int i tk,y],.cons ⟨_,rfl⟩ (.cons ru .nil),⟨_,hT2,rfl,_,rfl⟩⟩
  ·exact MV.1.at fun o q=>(hs2.2 it (Ne.symm hne)).trans q
  ·rw[aj]
   ·exact(hf b hb).1
   ·have hb' : b=e\/b=it:=by simpa using hb
    rcases hb' with rfl|rfl
    ·exact Ne.symm P6
    ·obtain⟨o,q,_⟩:=hit;exact Nat.ne_of_lt (Heap.lt_size q)
 done:=by
  intro X hP hw hK hc i pins s σ H E I hf st hg;subst hP hw hK;obtain⟨xs,hq,hx⟩:=hg;obtain⟨its,rv,p,hz⟩:=I.tuple hq;obtain⟨⟨old,he⟩,hit⟩:=st;have pT:s.heap.IsTuple a its.toArray:=p;have hai:a≠it:=fun z=>by
   obtain⟨o1,h1,_,_,d1⟩:=pT;obtain⟨o2,h2,_,d2⟩:=hit;rw[z,h2]at h1;cases h1;rw[d2]at d1;cases d1
  obtain⟨f0,f1,f2,f3,f4,f5⟩:=hf it (by simp)
  have hl:=rv.length;have hi:i=its.toArray.size:=by rw[List.size_toArray];lia
  subst hi;exact wpAny_pyNext_enum_endD (q9 (A:=X.A.in1) (I.ok.hd hc) it a hai its.toArray) he ⟨hit,pT⟩ fun h' eb=>⟨rfl,I.turned (t':=s.toks) (fun b o hb e=>eb b o hb e) f0 f1 f3 f4 f5⟩
 self:=fun _ _ _ _ _ st h=>by
  obtain⟨⟨old,he⟩,_⟩:=st;exact wpAny_pyIter_enum he h
section
variable {X:Cx}{elts:List Expr}{n:Nat}{tp:Pos}
def M9(K:bJ)(ta:TA):TI:=fun σ H R=>ta σ H fun vs H1=>∃ a,vs=[.ref a]/\(∃ xs,aV K H1 a xs)/\R (Ew K a) H1
theorem zG(K:bJ){a:Expr}{ta:TA}{p pos:Pos}(hg:Gl X "enumerate")(hm:X.mg "enumerate"=none)(ha:PA X [a] ta)(hs:starEach [a] X.env=[(false,eval a X.env)]:=by rfl)(hK:X.K=K:=by rfl):
 PI X (.Tuple elts n tp) (.Call (.Name "enumerate" p) [a] [] pos) (M9 K ta):=by
 subst hK;intro pins s σ H R I h;refine Call_ (jr I hg hm boot_enumerate (PyProof.Rows.callWith_type1 (cT (ha pos pins s σ H _ I h) fun us s1 ⟨vs,H1,I1,r1,q1⟩=>?_) hs rfl))
 obtain⟨a,e,⟨xs,hq⟩,q⟩:=q1;subst e;cases r1 with
 | cons r rr =>
   cases rr;cases r;obtain⟨its,rv,pl,hz⟩:=I1.tuple hq;refine BI (show s1.heap.IsTuple a its.toArray from pl) fun h' he hit hsz hk=>?_
   have I2:Inv X pins σ H1 { s1 with heap:=h'}:=I1.kept (t':=s1.toks) hk
   refine wpAny_pyIter_enum he ⟨_,[s1.heap.objs.size+1,s1.heap.objs.size],_,_,H1,rfl,I2,BJ a _ _ (Nat.succ_ne_self _),⟨⟨_,he⟩,hit⟩,fun b hb=>?_,q⟩
   have hb' : b=s1.heap.objs.size+1\/b=s1.heap.objs.size:=by simpa using hb
   have P8:s1.heap.objs.size<=b:=by
    rcases hb' with rfl|rfl
    ·exact Nat.le_succ _
    ·exact Nat.le_refl _
   exact I1.D0 P8 (I1.hok.fresh P8)
end
section
variable {K:bJ}{a:Addr}{xs:List V}{g:TG}{tt:TT}{te:TE}{n:Nat}{fr:St}{D:Addr}{Q:Hp->Prop}{H1:Hp}
theorem BK(Pv:Nat->List V->Hp->Prop)(h0:Pv 0 [] H1)(hl:∀ i acc H,i<=xs.length->Pv i acc H->aV K H a xs/\H D=some (.lst acc)/\acc.length<=i)(hz:xs.length<=sizeLine)
 (hs:∀ i x T acc H,xs[i]?=some x->Pv i acc H->H T=none->g (.ref T) (List.replicate n none++fr) (upd H T (.tup [.int (i:Int),x])) fun σ2 H2=>σ2.drop n=fr/\tt σ2 H2 fun b H3 =>
  if b=true then te σ2 H3 fun v H4=>H4 D=some (.lst acc)/\Pv (i+1) (acc++[v]) (upd H4 D (.lst (acc++[v]))) else Pv (i+1) acc H3)
 (hd:∀ acc H,Pv xs.length acc H->Q H):iG (Ew K a) g tt te n fr D Q H1:=by
 refine⟨fun i m acc H=>m=xs.length-i/\i<=xs.length/\Pv i acc H,⟨xs.length,by simp,Nat.zero_le _,h0⟩,?_⟩
 rintro i m acc H ⟨rfl,hi,p⟩;obtain⟨q,hD,ha⟩:=hl i acc H hi p;refine⟨hD,?_⟩
 by_cases hlt:i<xs.length
 ·refine .inr ⟨⟨xs,xs[i],q,by simp[hlt]⟩,by lia,Pv (i+1),fun acc' H' p'=>⟨xs.length-(i+1),by lia,rfl,hlt,p'⟩,fun v H' y=>?_⟩
  obtain⟨T,x,rfl,hT,rfl,y⟩:=y;exact hs i x T acc _ (y xs q) p hT
 ·have e:i=xs.length:=by lia
  subst e;exact .inl ⟨⟨xs,q,rfl⟩,hd acc H p⟩
end
end L2
namespace RM
variable {N:Net}
def Net.cut(N:Net)(C:Nat->Bool):Nat:=Ring.maskOf (fun k=>C (N.a k)^^C (N.b k)) N.n
def Net.par(N:Net)(q m:Nat):Bool:=bM (fun k=>q.testBit k&&m.testBit k) N.n
theorem mw(q r m:Nat):N.par (q^^^r) m=(N.par q m^^N.par r m):=by
 unfold Net.par;rw[<-iJ];refine bR fun k _=>?_
 rw[Nat.testBit_xor];cases q.testBit k<;>cases r.testBit k<;>cases m.testBit k<;>rfl
theorem jK(m:Nat):N.par 0 m=false:=iq fun k _=>by simp
theorem Dz{k:Nat}(h:k<N.n)(m:Nat):N.par (2^k) m=m.testBit k:=by
 unfold Net.par;rw[om h fun j _ hj=>by simp[Nat.testBit_two_pow,Ne.symm hj]]
 simp[Nat.testBit_two_pow]
theorem xK(C:Nat->Bool)(k:Nat):(N.cut C).testBit k=(decide (k<N.n)&&(C (N.a k)^^C (N.b k))):=Ring.mask_bit _ k _
theorem Na(C:Nat->Bool):N.cut C<2^N.n:=Ring.mask_lt _ _
theorem Ex{C D:Nat->Bool}(h:∀ x,x<N.p->C x=D x):N.cut C=N.cut D:=by
 refine Nat.eq_of_testBit_eq fun k=>?_
 rw[xK,xK]
 by_cases hk:k<N.n
 ·rw[h _ (N.al k hk),h _ (N.bl k hk)]
 ·rw[decide_eq_false hk];rfl
theorem zH{k:Nat}(hk:k<N.n)(hf:N.iW k=true):N.ring k=0:=fF (fun j hj=>by
 rcases iL hj with e|e
 ·subst e;exact⟨hk,hf⟩
 ·exact e) (fX hk)
theorem Ey{m:Nat}(k:Nat):(m^^^N.cut fun x=>N.par (N.trail N.n x) m).testBit k=if k<N.n then N.par (N.ring k) m else m.testBit k:=by
 rw[Nat.testBit_xor,xK]
 by_cases hk:k<N.n
 ·rw[if_pos hk,decide_eq_true hk,Bool.true_and];unfold Net.ring;rw[mw,mw,Dz hk];cases m.testBit k<;>cases N.par (N.trail N.n (N.a k)) m<;>cases N.par (N.trail N.n (N.b k)) m<;>rfl
 ·rw[if_neg hk,decide_eq_false hk];simp
theorem zI{m k:Nat}(hm:m<2^N.n)(h:(m^^^N.cut fun x=>N.par (N.trail N.n x) m).testBit k=true):k<N.n/\N.iW k=false/\N.par (N.ring k) m=true:=by
 rw[Ey]at h
 by_cases hk:k<N.n
 ·rw[if_pos hk]at h;refine⟨hk,?_,h⟩;cases hf:N.iW k with
  | false=>rfl
  | true =>
    rw[zH hk hf,jK]at h;cases h
 ·rw[if_neg hk]at h;exact absurd (bO hm h) hk
end RM
namespace Ring
def orM(ks:List Nat):Nat:=ks.foldl (fun m k=>m ||| 2^k) 0
theorem Hr(ks:List Nat)(j:Nat):∀ m,(ks.foldl (fun m k=>m ||| 2^k) m).testBit j=(m.testBit j || decide (j∈ks)):=by
 induction ks with
 | nil=>intro m;simp
 | cons k r ih =>
   intro m;rw[List.foldl_cons,ih,Nat.testBit_or,Nat.testBit_two_pow]
   by_cases h:k=j
   ·subst h;simp
   ·have h' : ¬ j=k:=fun z=>h z.symm
    simp[h,h']
theorem jc(ks:List Nat)(j:Nat):(orM ks).testBit j=decide (j∈ks):=by
 unfold orM;rw[Hr];simp
theorem zJ(ks:List Nat){t:Nat}(h:t∉ks):orM (ks++[t])=orM ks^^^2^t:=Nat.eq_of_testBit_eq fun j=>by
 rw[Nat.testBit_xor,jc,jc,Nat.testBit_two_pow]
 by_cases e:t=j
 ·subst e;simp[h]
 ·have e' : ¬ j=t:=fun z=>e z.symm
  simp[e,e']
theorem BL(f:Nat->Bool)(n:Nat):orM ((List.range n).filter f)=maskOf f n:=Nat.eq_of_testBit_eq fun j=>by
 rw[jc,mask_bit,Bool.eq_iff_iff];simp
end Ring
namespace RM
variable {N:Net}
inductive Net.Walk(N:Net):List Nat->Nat->List Nat->Prop
 | one {v:Nat}:Net.Walk N [] v []
 | snoc {pre ks:List Nat} {v w t:Nat} (h:Net.Walk N pre v ks) (ht:t<N.n) (hn:t∉ks) (j:(N.a t=v/\N.b t=w)\/(N.b t=v/\N.a t=w)):Net.Walk N (pre++[v]) w (ks++[t])
theorem Net.Walk.len{pre ks:List Nat}{v:Nat}(h:N.Walk pre v ks):pre.length=ks.length:=by
 induction h with
 | one=>rfl
 | snoc _ _ _ _ ih=>rw[List.length_append,List.length_append,ih];rfl
theorem Net.Walk.lt{pre ks:List Nat}{v:Nat}(h:N.Walk pre v ks):∀ t∈ks,t<N.n:=by
 induction h with
 | one=>exact fun t ht=>nomatch ht
 | snoc _ ht _ _ ih =>
   intro s hs;rcases List.mem_append.mp hs with q|q
   ·exact ih s q
   ·have e:=List.mem_singleton.mp q;rw[e];exact ht
theorem Net.Walk.bd{pre ks:List Nat}{v:Nat}(h:N.Walk pre v ks):∀ i u,(pre++[v])[i]?=some u->∀ x,N.bd (Ring.orM (ks.drop i)) x=(decide (u=x)^^decide (v=x)):=by
 induction h with
 | one =>
   rename_i v
   intro i u hu x
   match i,hu with
   | 0,hu =>
     have e:v=u:=Option.some.inj hu;subst e;show N.bd 0 x=_;rw[l7];simp
   | i+1,hu=>simp at hu
 | snoc hw ht hn j ih =>
   rename_i pre ks v w t
   intro i u hu x;have hl:=hw.len
   by_cases hi:i<(pre++[v]).length
   ·rw[List.getElem?_append_left hi]at hu;have hi' : i<=ks.length:=by rw[List.length_append]at hi;simp at hi;lia
    rw[List.drop_append_of_le_length hi',Ring.zJ _ (fun z=>hn (List.mem_of_mem_drop z)),fc,ih i u hu x,jW ht]
    have e:N.inc t x=(decide (v=x)^^decide (w=x)):=by
     unfold Net.inc;rcases j with⟨j1,j2⟩|⟨j1,j2⟩
     ·rw[j1,j2]
     ·rw[j1,j2];exact Bool.xor_comm _ _
    rw[e];cases decide (u=x)<;>cases decide (v=x)<;>cases decide (w=x)<;>rfl
   ·have hi2:i=(pre++[v]).length:=by
     have:=(List.getElem?_eq_some_iff.mp hu).1;rw[List.length_append]at this;simp at this hi ⊢
     lia
    rw[hi2,List.getElem?_append_right (Nat.le_refl _),Nat.sub_self]at hu;have e:w=u:=Option.some.inj hu;subst e;have:(ks++[t]).drop i=[]:=List.drop_eq_nil_of_le (by rw[hi2,List.length_append,List.length_append];simp;lia)
    rw[this];show N.bd 0 x=_;rw[l7];simp
structure Way(N:Net)(fZ:Nat)(pre:List Nat)(v:Nat)(ks:List Nat)(left:Nat):Prop where
 w:N.Walk pre v ks
 lt:fZ<2^N.n
 ev:N.bS fZ
 sub:∀ t∈ks,fZ.testBit t=true
 xM:left=fZ^^^Ring.orM ks
 nd:pre.Nodup
 Va:∀ x∈pre++[v],x<N.p
 st:pre=[]->∃ t,t<N.n/\fZ.testBit t=true/\N.a t=v
section
variable {fZ left v:Nat}{pre ks:List Nat}
theorem Way.start{t:Nat}(lt:fZ<2^N.n)(ev:N.bS fZ)(hb:fZ.testBit t=true):Way N fZ [] (N.a t) [] fZ:=by
 have ht:=bO lt hb;refine⟨.one,lt,ev,(fun _ z=>nomatch z),?_,List.Pairwise.nil,fun x hx=>?_,fun _=>⟨t,ht,hb,rfl⟩⟩
 ·show fZ=fZ^^^0;simp
 ·have e:x=N.a t:=by simpa using hx
  rw[e];exact N.al t ht
theorem Way.oB(h:Way N fZ pre v ks left)(t:Nat):left.testBit t=(fZ.testBit t && !decide (t∈ks)):=by
 rw[h.xM,Nat.testBit_xor,Ring.jc]
 by_cases hm:t∈ks
 ·rw[h.sub t hm,decide_eq_true hm];rfl
 ·rw[decide_eq_false hm];simp
theorem Way.KI(h:Way N fZ pre v ks left):left<2^N.n:=bZ fun k hk=>by
 rw[h.oB,Bool.and_eq_true]at hk;exact bO h.lt hk.1
theorem Way.on(h:Way N fZ pre v ks left)(hv:v∉pre):∃ t,left.testBit t=true/\(N.a t=v\/N.b t=v):=by
 cases pre with
 | nil =>
   obtain⟨t,ht,hb,e⟩:=h.st rfl;have hk:ks=[]:=List.length_eq_zero_iff.mp (by rw[<-h.w.len];rfl)
   refine⟨t,?_,.inl e⟩;rw[h.oB,hb,hk];simp
 | cons u r =>
   have hb:=h.w.bd 0 u rfl v;rw[List.drop_zero]at hb;have hu : ¬ u=v:=fun z=>hv (by rw[z];exact List.mem_cons_self)
   rw[decide_eq_false hu,decide_eq_true rfl]at hb;have XR:v<N.p:=h.Va v (List.mem_append_right _ (List.mem_singleton.mpr rfl));have hl:N.bd left v=true:=by
    rw[h.xM,fc,h.ev v XR,hb];rfl
   rw[zE]at hl;have hp:=of_decide_eq_true hl;obtain⟨k,hk,hkb,hx⟩:=oA (N:=N) (m:=left) (x:=v) (by lia)
   exact⟨k,hkb,hx⟩
theorem Way.go(h:Way N fZ pre v ks left)(hv:v∉pre){t w:Nat}(hb:left.testBit t=true)(j:(N.a t=v/\N.b t=w)\/(N.b t=v/\N.a t=w)):
 Way N fZ (pre++[v]) w (ks++[t]) (left^^^2^t):=by
 rw[h.oB,Bool.and_eq_true]at hb;have hn:t∉ks:=by simpa using hb.2
 have ht:=bO h.lt hb.1;refine⟨.snoc h.w ht hn j,h.lt,h.ev,fun s hs=>?_,?_,?_,fun x hx=>?_,fun z=>?_⟩
 ·rcases List.mem_append.mp hs with q|q
  ·exact h.sub s q
  ·rw[List.mem_singleton.mp q];exact hb.1
 ·rw[Ring.zJ _ hn,h.xM,Nat.xor_assoc]
 ·refine List.nodup_append.mpr ⟨h.nd,by simp,fun x hx y hy=>?_⟩
  have e:y=v:=by simpa using hy
  rw[e];exact fun z=>hv (z▸hx)
 ·rcases List.mem_append.mp hx with q|q
  ·exact h.Va x q
  ·have e:x=w:=by simpa using q
   rw[e];rcases j with⟨_,j2⟩|⟨_,j2⟩
   ·rw[<-j2];exact N.bl t ht
   ·rw[<-j2];exact N.al t ht
 ·simp at z
theorem Way.closes(h:Way N fZ pre v ks left){i:Nat}(hi:pre[i]?=some v):Ring.orM (ks.drop i)≠0/\N.bS (Ring.orM (ks.drop i))/\Ring.orM (ks.drop i)<2^N.n/\∀ k,(Ring.orM (ks.drop i)).testBit k=true->fZ.testBit k=true:=by
 have xN:=(List.getElem?_eq_some_iff.mp hi).1;have hl:=h.w.len;have oE:∀ k,(Ring.orM (ks.drop i)).testBit k=true->k∈ks:=fun k hk=>by
  rw[Ring.jc]at hk;exact List.mem_of_mem_drop (of_decide_eq_true hk)
 refine⟨fun z=>?_,fun x _=>?_,bZ fun k hk=>h.w.lt k (oE k hk),fun k hk=>h.sub k (oE k hk)⟩
 ·have hne:ks.drop i≠[]:=fun q=>by
   have:=List.drop_eq_nil_iff.mp q
   lia
  obtain⟨k,hk⟩:=List.exists_mem_of_ne_nil _ hne;have:=Ring.jc (ks.drop i) k;rw[z,decide_eq_true hk]at this;simp at this
 ·rw[h.w.bd i v (by rw[List.getElem?_append_left xN];exact hi) x]
  simp
end
end RM
namespace Ring
open PySem L2
theorem DA{p:Nat}{ts:List c5}{g:aD p ts}{q m:Nat}(hm:m<2^ts.length):decide ((bu ((q&&&m:Nat):Int)).length%2=1)=g.N.par q m:=by
 rw[tG (n:=ts.length) (Nat.and_lt_two_pow q hm)];unfold RM.Net.par;rw[RM.tw];have e:RM.cnt (fun k=>(q&&&m).testBit k) ts.length=RM.cnt (fun k=>q.testBit k&&m.testBit k) g.N.n:=RM.dW fun k _=>by rw[Nat.testBit_and]
 rw[e]
def xorL(rs:List Nat):Nat:=rs.foldl (fun m r=>m^^^r) 0
theorem Ez(rs:List Nat):∀ m,rs.foldl (fun m r=>m^^^r) m=m^^^xorL rs:=by
 induction rs with
 | nil=>intro m;show m=m^^^0;simp
 | cons r rs ih =>
   intro m;show rs.foldl (fun m r=>m^^^r) (m^^^r)=m^^^rs.foldl (fun m r=>m^^^r) (0^^^r)
   rw[ih,ih,Nat.zero_xor,Nat.xor_assoc]
theorem xorL_cons(rs:List Nat)(r:Nat):xorL (r::rs)=r^^^xorL rs:=by
 show rs.foldl (fun m r=>m^^^r) (0^^^r)=_
 rw[Ez,Nat.zero_xor]
theorem Hs(l:List Nat){i:Nat}(h:i<=l.length):xr (aA l) (some (i:Int)) none=aA (l.drop i):=by
 unfold xr;rw[HT.JZ,HT.GG,aC,Nat.min_eq_left h];unfold aA;rw[<-List.map_drop,<-List.map_take,List.take_of_length_le (by rw[List.length_drop];lia)]
end Ring
namespace L2
open PySem PySem.Spec PyProof.Rows
section
variable {κ:Type}[DecidableEq κ]
def dN(kvs:List (κ×V))(k:κ):Option V:=(kvs.find? fun kv=>decide (kv.1=k)).map (·.2)
def putK(kvs:List (κ×V))(k:κ)(v:V):List (κ×V) :=
 if(kvs.any fun kv=>decide (kv.1=k))=true then kvs.map (fun kv=>if kv.1=k then(kv.1,v) else kv) else kvs++[(k,v)]
def c8(kvs:List (κ×V))(k:κ):List (κ×V):=kvs.filter fun kv=>decide (kv.1≠k)
theorem tI{k:κ}:dN ([]:List (κ×V)) k=none:=rfl
theorem cz{p:κ×V}{r:List (κ×V)}{k:κ}(e:p.1=k):dN (p::r) k=some p.2:=by simp[dN,List.find?_cons,e]
theorem b8{p:κ×V}{r:List (κ×V)}{k:κ}(e : ¬ p.1=k):dN (p::r) k=dN r k:=by simp[dN,List.find?_cons,e]
theorem gM(k:κ):∀ kvs:List (κ×V),(kvs.any fun kv=>decide (kv.1=k))=(dN kvs k).isSome
 | []=>rfl
 | p::r=>by
   rw[List.any_cons]
   by_cases e:p.1=k
   ·simp only[cz e,decide_eq_true e,Bool.true_or,Option.isSome_some]
   ·rw[b8 e,decide_eq_false e,Bool.false_or];exact gM k r
theorem zK(k j:κ)(y:V):∀ kvs:List (κ×V),dN (kvs.map fun kv=>if kv.1=k then(kv.1,y) else kv) j=(dN kvs j).map fun x=>if j=k then y else x
 | []=>rfl
 | p::r=>by
   have ih:=zK k j y r;rw[List.map_cons]
   by_cases h:p.1=k
   ·rw[if_pos h]
    by_cases e:p.1=j
    ·rw[cz (p:=(p.1,y)) e,cz e,Option.map_some,if_pos (e.symm.trans h)]
    ·rw[b8 (p:=(p.1,y)) e,b8 e,ih]
   ·rw[if_neg h]
    by_cases e:p.1=j
    ·rw[cz (p:=p) e,cz e,Option.map_some,if_neg (fun z=>h (e.trans z))]
    ·rw[b8 (p:=p) e,b8 e,ih]
theorem vZ(k j:κ)(y:V):∀ kvs:List (κ×V),dN kvs k=none->dN (kvs++[(k,y)]) j=if j=k then some y else dN kvs j
 | [],_=>by
   by_cases e:k=j
   ·rw[if_pos e.symm];exact cz (p:=(k,y)) e
   ·rw[if_neg (fun z=>e z.symm)];exact b8 (p:=(k,y)) e
 | p::r,hn=>by
   rw[List.cons_append];have hk : ¬ p.1=k:=fun z=>by rw[cz z]at hn;cases hn
   rw[b8 hk]at hn;have ih:=vZ k j y r hn
   by_cases e:p.1=j
   ·rw[cz e,cz e,if_neg (fun z=>hk (e.trans z))]
   ·rw[b8 e,b8 e,ih]
theorem Ht(kvs:List (κ×V))(k j:κ)(y:V):dN (putK kvs k y) j=if j=k then some y else dN kvs j:=by
 unfold putK
 by_cases a:(kvs.any fun kv=>decide (kv.1=k))=true
 ·rw[if_pos a,zK];rw[gM]at a
  by_cases e:j=k
  ·obtain⟨x,hx⟩:=Option.isSome_iff_exists.mp a;rw[if_pos e,e,hx,Option.map_some,if_pos rfl]
  ·rw[if_neg e];cases dN kvs j with
   | none=>rfl
   | some x=>rw[Option.map_some,if_neg e]
 ·rw[if_neg a];refine vZ k j y kvs ?_;rw[gM]at a;cases q:dN kvs k with
  | none=>rfl
  | some x=>rw[q]at a;exact(a rfl).elim
theorem rf(kvs:List (κ×V))(k:κ)(v:V):(putK kvs k v).length<=kvs.length+1:=by
 unfold putK
 split
 ·rw[List.length_map];lia
 ·rw[List.length_append,List.length_cons,List.length_nil];lia
theorem zL{kvs:List (κ×V)}{k:κ}(v:V)(h:dN kvs k=none):putK kvs k v=kvs++[(k,v)]:=by
 unfold putK;rw[gM,h];exact if_neg (by decide)
theorem nN.EA{o:Option V}{u:Option Value}(r:nN o u):o.isSome=u.isSome:=by
 cases o with
 | none=>cases u with
   | none=>rfl
   | some _=>exact(show False from r).elim
 | some _=>cases u with
   | none=>exact(show False from r).elim
   | some _=>rfl
theorem nN.getD{o:Option V}{u:Option Value}{d:V}{d' : Value}(r:nN o u)(rd:RelV d d'):RelV (o.getD d) (u.getD d'):=by
 cases o with
 | none=>cases u with
   | none=>exact rd
   | some _=>exact(show False from r).elim
 | some _=>cases u with
   | none=>exact(show False from r).elim
   | some _=>exact r
theorem KV.val{kvs:List (κ×V)}{vs:List (κ×Value)}(r:KV kvs vs)(k:κ):nN (dN kvs k) (valueAt vs k):=by
 unfold KV at r
 induction r with
 | nil=>exact True.intro
 | @cons p q ps qs h t ih =>
   obtain⟨h1,h2⟩:=h
   by_cases e:p.1=k
   ·have e' : q.1=k:=h1.symm.trans e;have b:valueAt (q::qs) k=some q.2:=by simp[valueAt,List.find?_cons,e']
    rw[cz e,b];exact h2
   ·have e' : ¬ q.1=k:=fun z=>e (h1.trans z)
    have b:valueAt (q::qs) k=valueAt qs k:=by simp[valueAt,List.find?_cons,e']
    rw[b8 e,b];exact ih
theorem KV.any{kvs:List (κ×V)}{vs:List (κ×Value)}(r:KV kvs vs)(k:κ):(kvs.any fun kv=>decide (kv.1=k))=vs.any fun kv=>decide (kv.1=k):=by
 unfold KV at r
 induction r with
 | nil=>rfl
 | cons h t ih=>rw[List.any_cons,List.any_cons,ih,h.1]
theorem KV.repl{kvs:List (κ×V)}{vs:List (κ×Value)}(r:KV kvs vs)(k:κ){y:V}{u:Value}(ry:RelV y u):
 KV (kvs.map fun kv=>if kv.1=k then(kv.1,y) else kv) (vs.map fun kv=>if kv.1=k then(kv.1,u) else kv):=by
 unfold KV at r ⊢
 induction r with
 | nil=>exact .nil
 | @cons p q ps qs h t ih =>
   rw[List.map_cons,List.map_cons];refine .cons ?_ ih;obtain⟨h1,h2⟩:=h
   by_cases e:p.1=k
   ·rw[if_pos e,if_pos (h1.symm.trans e)];exact⟨h1,ry⟩
   ·rw[if_neg e,if_neg (fun z=>e (h1.trans z))];exact⟨h1,h2⟩
theorem KV.put{kvs:List (κ×V)}{vs:List (κ×Value)}(r:KV kvs vs)(k:κ){y:V}{u:Value}(ry:RelV y u):KV (putK kvs k y) (stored vs k u):=by
 unfold putK stored;rw[r.any k]
 by_cases e:(vs.any fun kv=>decide (kv.1=k))=true
 ·rw[if_pos e,if_pos e];exact r.repl k ry
 ·rw[if_neg e,if_neg e];exact Paired.snoc r ⟨rfl,ry⟩
theorem KV.length{kvs:List (κ×V)}{vs:List (κ×Value)}(r:KV kvs vs):kvs.length=vs.length:=Paired.length r
theorem Hu(kvs:List (κ×V))(k:κ):(c8 kvs k).length<=kvs.length:=List.length_filter_le _ _
end
theorem DB{P:Program}{w:World}{k:Key}{u:Value}(r:RelV (kV k) u):(cS P w).is k u=true:=by
 cases k with
 | inl i=>obtain⟨t,e⟩:=(show ∃ t,u=Value.int i t from r);subst e;exact yW P w i t
 | inr x=>obtain⟨t,e⟩:=(show ∃ t,u=Value.str x t from r);subst e;exact yX P w x t
theorem wc{P:Program}{w:World}:∀{ks:List Key} {us:List Value},Vals (ks.map kV) us->ItemsAre (cS P w) ks us
 | [],_,r=>by rw[List.map_nil]at r;cases r;exact .nil
 | k::ks,_,r=>by
   rw[List.map_cons]at r;cases r with
   | cons h t=>exact .cons (DB h) (wc t)
abbrev KT(H:Hp):List (List Key×V)->List (List Key×Addr×Value)->Prop:=Paired fun p q=>p.1=q.1/\H q.2.1=some (.tup (p.1.map kV))/\RelV p.2 q.2.2
theorem KT.val{H:Hp}{kvs:List (List Key×V)}{xs:List (List Key×Addr×Value)}(r:KT H kvs xs)(k:List Key):nN (dN kvs k) ((atKey xs k).map (·.2)):=by
 induction r with
 | nil=>exact True.intro
 | @cons p q ps qs h t ih =>
   obtain⟨h1,_,h2⟩:=h
   by_cases e:p.1=k
   ·have e' : q.1=k:=h1.symm.trans e;have b:atKey (q::qs) k=some q.2:=by simp[atKey,List.find?_cons,e']
    rw[cz e,b];exact h2
   ·have e' : ¬ q.1=k:=fun z=>e (h1.trans z)
    have b:atKey (q::qs) k=atKey qs k:=by simp[atKey,List.find?_cons,e']
    rw[b8 e,b];exact ih
theorem KT.repl{H:Hp}{kvs:List (List Key×V)}{xs:List (List Key×Addr×Value)}(r:KT H kvs xs)(k:List Key){y:V}{u:Value}(ry:RelV y u):
 KT H (kvs.map fun kv=>if kv.1=k then(kv.1,y) else kv) (xs.map (putAt k u)):=by
 induction r with
 | nil=>exact .nil
 | @cons p q ps qs h t ih =>
   rw[List.map_cons,List.map_cons];refine .cons ?_ ih;obtain⟨h1,h2,h3⟩:=h;unfold putAt
   by_cases e:p.1=k
   ·rw[if_pos e,if_pos (h1.symm.trans e)];exact⟨h1,h2,ry⟩
   ·rw[if_neg e,if_neg (fun z=>e (h1.trans z))];exact⟨h1,h2,h3⟩
theorem KT.put{H:Hp}{kvs:List (List Key×V)}{xs:List (List Key×Addr×Value)}(r:KT H kvs xs)(k:List Key){b:Addr}{y:V}{u:Value}(hb:H b=some (.tup (k.map kV)))(ry:RelV y u):
 KT H (putK kvs k y) (storedH xs k b u):=by
 have e:(kvs.any fun kv=>decide (kv.1=k))=(atKey xs k).isSome:=by
  rw[gM,(r.val k).EA,Option.isSome_map]
 unfold putK storedH;rw[e]
 by_cases q:(atKey xs k).isSome=true
 ·rw[if_pos q,if_pos q];exact r.repl k ry
 ·rw[if_neg q,if_neg q];exact Paired.snoc r ⟨rfl,hb,ry⟩
theorem KT.keeps{H H' : Hp}{kvs:List (List Key×V)}{xs:List (List Key×Addr×Value)}(r:KT H kvs xs)(ht:∀ b ys,H b=some (.tup ys)->H' b=some (.tup ys)):KT H' kvs xs :=
 Paired.w6 r fun _ _ z=>⟨z.1,ht _ _ z.2.1,z.2.2⟩
section
variable {P:Program}{w:World}{H:Hp}{h:Heap}{a:Addr}
theorem LU{u:HO}(ok:kW P w H h)(e:Rd H a u):bf P w H h a u:=e.ok ok
theorem zM{kvs:List (Key×V)}(ok:kW P w H h)(e:Rd H a (.dK kvs)):kvs.length<=sizeLine/\(a==sysModules)=false/\∃ vs,KV kvs vs/\h.DictOf (cS P w) a vs :=
 show bf P w H h a (.dK kvs) from LU ok e
theorem Qa{kvs:List (Key×V)}(ok:kW P w H h)(e:H a=some (.dK kvs)):kvs.length<=sizeLine/\(a==sysModules)=false/\∃ vs,KV kvs vs/\h.DictOf (cS P w) a vs:=zM ok (.inl e)
theorem pQ{ks:List Key}(ok:kW P w H h)(e:H a=some (.tup (ks.map kV))):(tupleKind (cS P w)).is h ks a:=by
 obtain⟨_,its,r,o,h1,h2,n,h3⟩:=(show bf P w H h a (.tup (ks.map kV)) from ok a _ e)
 exact⟨o,its.toArray,n,h1,h2,h3,by simpa using wc r⟩
theorem zN{kvs:List (List Key×V)}(ok:kW P w H h)(e:Rd H a (.dT kvs)):kvs.length<=sizeLine/\(a==sysModules)=false/\
 ∃ xs,KT H kvs xs/\h.DictOfH (tupleKind (cS P w)) a xs:=by
 obtain⟨z,y,xs,r,o,es,ep,h1,h2,h3,h4,h5⟩:=(show bf P w H h a (.dT kvs) from LU ok e)
 refine⟨z,y,xs,r,o,es,ep,h1,h2,h3,h4,fun x hx=>?_,h5⟩
 have all:∀{l:List (List Key×V)} {m:List (List Key×Addr×Value)},KT H l m->∀ x∈m,(tupleKind (cS P w)).is h x.1 x.2.1:=by
  intro l m q
  induction q with
  | nil=>intro x hx;exact nomatch hx
  | @cons p q ps qs hq t ih =>
    intro x hx;rcases List.mem_cons.mp hx with e|hx
    ·subst e;exact pQ ok (by rw[<-hq.1];exact hq.2.1)
    ·exact ih x hx
 exact all r x hx
theorem Hv{kvs:List (List Key×V)}(ok:kW P w H h)(e:H a=some (.dT kvs)):kvs.length<=sizeLine/\(a==sysModules)=false/\
 ∃ xs,KT H kvs xs/\h.DictOfH (tupleKind (cS P w)) a xs:=zN ok (.inl e)
end
def Hw(H:Hp)(a:Addr)(y:V)(r:Option V):Prop :=
 (∃ kvs k,Rd H a (.dK kvs)/\y=kV k/\r=dN kvs k)\/∃ kvs k b,Rd H a (.dT kvs)/\y = .ref b/\H b=some (.tup (k.map kV))/\r=dN kvs k
def Hx(H:Hp)(a:Addr)(y v:V)(H' : Hp):Prop :=
 (∃ kvs k,H a=some (.dK kvs)/\y=kV k/\kvs.length<sizeLine/\H' = upd H a (.dK (putK kvs k v)))\/
 ∃ kvs k b,H a=some (.dT kvs)/\y = .ref b/\H b=some (.tup (k.map kV))/\kvs.length<sizeLine/\H' = upd H a (.dT (putK kvs k v))
theorem Hx.t{H:Hp}{a b:Addr}{kvs:List (List Key×V)}{k:List Key}{v:V}(e:H a=some (.dT kvs))(eb:H b=some (.tup (k.map kV)))(hl:kvs.length<sizeLine):
 Hx H a (.ref b) v (upd H a (.dT (putK kvs k v))):=.inr ⟨kvs,k,b,e,rfl,eb,hl,rfl⟩
section
variable {X:Cx}{pins:aQ}{σ:St}{H:Hp}{s:Shared}{a:Addr}{y v:V}{u r:Value}{o:Option V}{A:Around}{E:dh}
theorem Inv.big(I:Inv X pins σ H s):sysModules<s.heap.objs.size:=by
 have h:mainGlobals<s.heap.objs.size:=(I.mod.glob.keeps I.bk).lt;exact Nat.lt_trans (by decide) h
theorem EB{Q:dh}(hu:A.units+1<cLine)(I:Inv X pins σ H s)(g:Hw H a y (some v))(ry:RelV y u)(h:∀ w' s',Inv X pins σ H s'->RelV v w'->Q w' s'):
 wpAny (model X.prog X.w) A (getItem (.ref a) u) Q E s:=by
 rcases g with⟨kvs,k,e,ey,l⟩|⟨kvs,k,b,e,ey,eb,l⟩
 ·subst ey;obtain⟨z,hd,vs,rel,dd⟩:=zM I.hok e;obtain⟨w',hw,rw'⟩:=nN.some_of (v:=v) (o:=valueAt vs k) (by rw[l];exact rel.val k)
  exact wpAny_getItem_of (DB ry) dd.mapOf hw (h w' _ (I.tok _) rw')
 ·subst ey;cases(show u=Value.ref b from ry)
  obtain⟨z,hd,xs,rel,dd⟩:=zN I.hok e;obtain⟨w',hw,rw'⟩:=nN.some_of (v:=v) (o:=(atKey xs k).map (·.2)) (by rw[l];exact rel.val k)
  obtain⟨p,hp,Ol⟩:=Option.map_eq_some_iff.mp hw;refine wpAny_getItem_heap (tupleKind_room_in1 hu) (pQ I.hok eb) dd hp ?_;rw[Ol];exact h w' _ (I.tok _) rw'
theorem rY{h' : Heap}{t' : Nat}{ob:HO}(I:Inv X pins σ H s)(mu:OT (H a))(hs:Heap.SameBut a s.heap h')(he:∃ q,h'.get? a=some q)(new:bf X.prog X.w (upd H a ob) h' a ob):
 Inv X pins σ (upd H a ob) { s with heap:=h',toks:=t'} :=
 I.write (x:=a) (e:=a) mu (.inl rfl) (fun b q hb z=>(hs.2 b hb).trans z) he new
theorem Nb{P:Program}{w:World}{H' : Hp}{h' : Heap}{kvs:List (Key×V)}{vs:List (Key×Value)}(z:kvs.length<=sizeLine)(hd:(a==sysModules)=false)(rel:KV kvs vs)(dd:h'.DictOf (cS P w) a vs):
 bf P w H' h' a (.dK kvs):=⟨z,hd,vs,rel,dd⟩
theorem EC{H' : Hp}{Q:Unit->Shared->Prop}(hu:A.units+1<cLine)(I:Inv X pins σ H s)(g:Hx H a y v H')(ry:RelV y u)(rv:RelV v r)(h:∀ s',Inv X pins σ H' s'->Q () s'):
 wpAny (model X.prog X.w) A (setItem (.ref a) u r) Q E s:=by
 rcases g with⟨kvs,k,e,ey,l,eH⟩|⟨kvs,k,b,e,ey,eb,l,eH⟩
 ·subst ey eH;obtain⟨z,hd,vs,rel,dd⟩:=Qa I.hok e;have hz:vs.length<=sizeLine:=by rw[<-rel.length];exact z
  have hl:(putK kvs k v).length<=sizeLine:=by have:=rf kvs k v;lia
  refine wpAny_setItem_pairs (hsz:=hz) (DB ry) dd fun h' Oq hs=>h _ ?_
  have he:∃ q,h'.get? a=some q:=let⟨q,_,_,hq,_⟩:=Oq;⟨q,hq⟩;exact rY I (by rw[e];exact True.intro) hs he (Nb hl hd (rel.put k rv) Oq)
 ·subst ey eH;cases(show u=Value.ref b from ry)
  obtain⟨z,hd,xs,rel,dd⟩:=Hv I.hok e;have hz:xs.length<=sizeLine:=by rw[<-Paired.length rel];exact z
  have hl:(putK kvs k v).length<=sizeLine:=by have:=rf kvs k v;lia
  refine wpAny_setItem_heap (hsz:=hz) (tupleKind_room_in1 hu) (pQ I.hok eb) dd fun h' Oq hs=>h _ ?_
  obtain⟨q,es,ep,hq,h2,h3,h4,_,h5⟩:=Oq;refine rY I (by rw[e];exact True.intro) hs ⟨q,hq⟩ ⟨hl,hd,_,(rel.put k eb rv).keeps fun c ys ec=>?_,q,es,ep,hq,h2,h3,h4,h5⟩
  rw[aj (aS ec e (fun z=>nomatch z))]
  exact ec
end
def Qc(i:Expr):Prop:=∀ ov iv,subscripted i false ov iv=operate [ov,iv] (getItem ov iv)
theorem KJ{prog:Program}{w:World}{A:Around}{E:dh}{s:Shared}{env:Env}{value slice:Expr}{pos:Pos}{T id:String}{Q:dh}
 (hl:typeLookup (.type T) "__getitem__"=pure (some (.builtin id))) (hs:Qc slice)
 (h:wpAny (model prog w) A (eval value env) (fun o s₁=>wpAny (model prog w) A (eval slice env) (fun i s₂=>s₂.TypeIs o T/\wpAny (model prog w) A (getItem o i) Q E s₂) E s₁) E s) :
 wpAny (model prog w) A (eval (.Subscript value slice pos) env) Q E s:=by
 refine Subscript_ (wpAny_mono h (fun o s₁ h₁=>wpAny_mono h₁ (fun i s₂ h₂=>?_) fun _ _ x=>x) fun _ _ x=>x)
 obtain⟨hT,h₂⟩:=h₂;unfold subscriptTail;refine wpAny_bind ?_;rw[getitemInPython_of_ne hT.not_modules];refine wpAny_bind (wpAny_specialOf hT hl ?_);have fin:wpAny (model prog w) A (subscripted slice false o i) (fun r s₃=>wpAny (model prog w) A (letTemporaryGo value o r >>= fun _=>pure r) Q E s₃) E s₂:=by
  rw[hs o i];exact wpAny_operating (wpAny_mono h₂ (fun r s₃ h₃=>wpAny_bind (wpAny_letTemporaryGo (wpAny_pure h₃))) fun _ _ x=>x)
 first
  | exact wpAny_pure (wpAny_bind fin)
  | exact wpAny_bind (wpAny_pure (wpAny_bind fin))
  | exact wpAny_bind fin
theorem zO{X:Cx}{pins:aQ}{σ:St}{H:Hp}{s:Shared}{a:Addr}{y:V}{o:Option V}(I:Inv X pins σ H s)(g:Hw H a y o):s.TypeIs (.ref a) "dict":=by
 rcases g with⟨kvs,k,e,_,_⟩|⟨kvs,k,b,e,_,_,_⟩
 ·obtain⟨_,_,vs,_,dd⟩:=zM I.hok e;exact dd.typeIs
 ·obtain⟨_,_,xs,_,dd⟩:=zN I.hok e;exact dd.typeIs
def Qd(td ty:TE):TE:=fun σ H Q=>td σ H fun x H1=>ty σ H1 fun y H2=>∃ a v,x = .ref a/\Hw H2 a y (some v)/\Q v H2
def Qe(td ty tv:TE):TS:=fun D σ H=>tv σ H fun v H1=>td σ H1 fun x H2=>ty σ H2 fun y H3=>∃ a H4,x = .ref a/\Hx H3 a y v H4/\D.nx σ H4
section
variable {X:Cx}{o i e value:Expr}{pos pos' tpos:Pos}{td ty tv:TE}
theorem KL(hu:X.A.units+1<cLine)(ho:PE X o td)(hi:PE X i ty)(hs:Qc i):PE X (.Subscript o i pos) (Qd td ty):=by
 intro pins s σ H Q I h;refine KJ PySem.F.slot_dict_getitem.lookup hs (cT (ho pins s σ H _ I h) fun u s1 ⟨x,H1,I1,rx,q1⟩=>cT (hi pins s1 σ H1 _ I1 q1) fun iv s2 ⟨y,H2,I2,ry,a,v,ex,g,q2⟩=>?_)
 subst ex;obtain rfl:u=Value.ref a:=rx;exact⟨zO I2 g,EB hu I2 g ry fun w' s3 I3 rw'=>⟨v,H2,I3,rw',q2⟩⟩
theorem KN(hu:X.A.units+1<cLine)(ho:PE X o td)(hi:PE X i ty)(hv:PE X value tv)(hs:swapsWith value (some (.Subscript o i pos')) pos.line X.env=pure false):
 PS X (.Assign [.Subscript o i pos'] value pos) (Qe td ty tv):=by
 intro pins s σ H D I h;refine wpAny_Assign_Subscript (cT (hv pins s σ H _ I h) fun r s1 ⟨v,H1,I1,rv,q1⟩=>cT (ho pins s1 σ H1 _ I1 q1) fun u s2 ⟨x,H2,I2,rx,q2⟩=>cT (hi pins s2 σ H2 _ I2 q2) fun iv s3 ⟨y,H3,I3,ry,a,H4,ex,g,q3⟩=>?_) hs
 subst ex;obtain rfl:u=Value.ref a:=rx;exact EC hu I3 g ry rv fun s4 I4=>⟨σ,H4,I4,q3⟩
end
theorem Hy{P:Program}{w:World}{H:Hp}(h:Heap)(hb:sysModules<h.objs.size):bf P w H (h.push { cls:=.type "dict",data:=.dict #[]}) h.objs.size (.dT []) :=
 ⟨Nat.zero_le _,beq_eq_false_iff_ne.mpr (Ne.symm (Nat.ne_of_lt hb)),[],.nil,_,#[],0,Heap.get?_push_size _ rfl,⟨rfl,rfl,rfl⟩,rfl,rfl,List.nodup_nil⟩
structure M1(X:Cx)(o:Expr)(m:Str)(apos:Pos)(e:Expr)(cpos:Pos):Prop where
 base:attributeBase o m X.env (eval o X.env)=eval o X.env
 few:((backTo cpos (starEach [e] X.env)).all (fun x=>!x.1)&&(backToKw cpos (keywordEach [] X.env)).all (fun x=>x.1.isSome)
  && decide (([e]:List Expr).length+([]:List Keyword).length+(if([]:List Keyword).isEmpty then 0 else 1)<30))=true
 line:(apos.endLine==cpos.line)=true
 trees:backTo cpos (starEach [e] X.env)=[(false,eval e X.env)]
structure M2(X:Cx)(o:Expr)(m:Str)(apos:Pos)(e f:Expr)(cpos:Pos):Prop where
 base:attributeBase o m X.env (eval o X.env)=eval o X.env
 few:((backTo cpos (starEach [e,f] X.env)).all (fun x=>!x.1)&&(backToKw cpos (keywordEach [] X.env)).all (fun x=>x.1.isSome)
  && decide (([e,f]:List Expr).length+([]:List Keyword).length+(if([]:List Keyword).isEmpty then 0 else 1)<30))=true
 line:(apos.endLine==cpos.line)=true
 trees:backTo cpos (starEach [e,f] X.env)=[(false,eval e X.env),(false,eval f X.env)]
def Tr(H:Hp)(a:Addr):Prop:=(∃ kvs,Rd H a (.dK kvs))\/∃ kvs,Rd H a (.dT kvs)
theorem Hz{X:Cx}{pins:aQ}{σ:St}{H:Hp}{s:Shared}{a:Addr}(I:Inv X pins σ H s)(d:Tr H a):
 s.TypeIs (.ref a) "dict"/\(∀ b,Value.ref a = .ref b->∃ ob,s.heap.get? b=some ob/\ob.dict=none)/\(a==sysModules)=false:=by
 rcases d with⟨kvs,e⟩|⟨kvs,e⟩
 ·obtain⟨_,hd,vs,_,dd⟩:=zM I.hok e;refine⟨dd.typeIs,fun b q=>?_,hd⟩
  cases q;obtain⟨ob,_,_,h1,h2,_⟩:=dd;exact⟨ob,h1,h2.2.1⟩
 ·obtain⟨_,hd,xs,_,dd⟩:=zN I.hok e;refine⟨dd.typeIs,fun b q=>?_,hd⟩
  cases q;obtain⟨ob,_,_,h1,h2,_⟩:=dd;exact⟨ob,h1,h2.2.1⟩
section
variable {X:Cx}{pins:aQ}{σ:St}{H:Hp}{s:Shared}{a:Addr}{y d:V}{u r:Value}{o:Option V}{A:Around}{E:dh}
theorem Nc{Q:dh}(hu:A.units+1<cLine)(I:Inv X pins σ H s)(g:Hw H a y o)(ry:RelV y u)(rd:RelV d r)(h:∀ w' s',Inv X pins σ H s'->RelV (o.getD d) w'->Q w' s'):
 wpAny (model X.prog X.w) A (call (.builtin "dict.get") [.ref a,u,r]) Q E s:=by
 rcases g with⟨kvs,k,e,ey,l⟩|⟨kvs,k,b,e,ey,eb,l⟩
 ·subst ey;obtain⟨z,hd,vs,rel,dd⟩:=zM I.hok e;refine call_meetsIn PySem.F.slot_dict_get dd.typeIs PySem.F.entry_dict_get (PySem.F.args_dict_get_3 _ _ _) (meets_dict_get_default (cS X.prog X.w) a (DB ry) hd r) ⟨_,dd.mapOf,h _ _ (I.tok _) ?_⟩;rw[l];exact(rel.val k).getD rd
 ·subst ey;cases(show u=Value.ref b from ry)
  obtain⟨z,hd,xs,rel,dd⟩:=zN I.hok e;refine call_meetsIn PySem.F.slot_dict_get dd.typeIs PySem.F.entry_dict_get (PySem.F.args_dict_get_3 _ _ _) (meetsH_dict_get_default (tupleKind (cS X.prog X.w)) a b hd r) ⟨tupleKind_room_in1 hu,k,xs,pQ I.hok eb,dd,h _ _ (I.tok _) ?_⟩;rw[l];exact(rel.val k).getD rd
end
def Nd(td ty tx:TE):TE:=fun σ H Q=>td σ H fun x H1=>∃ a,x = .ref a/\Tr H1 a/\ty σ H1 fun y H2=>tx σ H2 fun z H3=>∃ o,Hw H3 a y o/\Q (o.getD z) H3
section
variable {X:Cx}{o e f:Expr}{apos cpos:Pos}{td ty tx:TE}
theorem HA(hu:X.A.units+1<cLine)(ho:PE X o td)(he:PE X e ty)(hf:PE X f tx)(m:M2 X o "get" apos e f cpos):PE X (.Call (.Attribute o "get" apos) [e,f] [] cpos) (Nd td ty tx):=by
 intro pins s σ H Q I h;refine wpAny_Call_method m.base m.few m.line PySem.F.plainAttrs_dict PySem.F.slot_dict_get PySem.F.type_dict_get (cT (ho pins s σ H _ I h) fun u s1 ⟨x,H1,I1,rx,a,ex,d,q1⟩=>?_)
 subst ex;obtain rfl:u=Value.ref a:=rx;obtain⟨t1,t2,_⟩:=Hz I1 d;refine⟨t1,t2,?_⟩;rw[m.trees];refine Calls.callWith_builtin rfl (Calls.evalArgs_plain (Calls.spliced_cons (cT (he pins s1 σ H1 _ I1 q1) fun iv s2 ⟨y,H2,I2,ry,q2⟩ =>
  Calls.spliced_cons (cT (hf pins s2 σ H2 _ I2 q2) fun fv s3 ⟨z,H3,I3,rz,ov,g,q3⟩=>Calls.spliced_nil ?_))))
 exact Nc hu I3 g ry rz fun w' s4 I4 rw'=>⟨_,H3,I4,rw',q3⟩
end
section
variable {κ:Type}[DecidableEq κ]
theorem HB{kvs:List (κ×V)}{k:κ}(h:dN kvs k=none): ¬ k∈kvs.map (·.1):=by
 intro m;obtain⟨p,hp,e⟩:=List.mem_map.mp m;have q:(kvs.any fun kv=>decide (kv.1=k))=true:=List.any_eq_true.mpr ⟨p,hp,decide_eq_true e⟩
 rw[gM,h]at q;exact absurd q (by simp)
theorem KO{kvs:List (κ×V)}{k:κ}{v:V}(h:dN kvs k=some v):k∈kvs.map (·.1):=by
 have q:(kvs.any fun kv=>decide (kv.1=k))=true:=by
  rw[gM,h]
  all_goals rfl
 obtain⟨p,hp,e⟩:=List.any_eq_true.mp q;exact List.mem_map.mpr ⟨p,hp,of_decide_eq_true e⟩
theorem DC:∀{l:List κ} {k:κ},l.Nodup->¬ k∈l->(l++[k]).Nodup
 | [],k,_,_=>by simp
 | a::r,k,h,hk=>by
   obtain⟨h1,h2⟩:=List.nodup_cons.mp h;show(a::(r++[k])).Nodup;refine List.nodup_cons.mpr ⟨fun m=>?_,DC h2 fun m=>hk (List.mem_cons.mpr (Or.inr m))⟩
   rcases List.mem_append.mp m with q|q
   ·exact h1 q
   ·exact hk (List.mem_cons.mpr (Or.inl (List.mem_singleton.mp q).symm))
theorem KP{kvs:List (κ×V)}{k:κ}(v:V)(hn:(kvs.map (·.1)).Nodup)(h:dN kvs k=none):((putK kvs k v).map (·.1)).Nodup:=by
 rw[zL v h,List.map_append];exact DC hn (HB h)
theorem we{p:κ×V}{r:List (κ×V)}{k:κ}(e:p.1=k):c8 (p::r) k=c8 r k:=by
 unfold c8;rw[List.filter_cons,if_neg (by simp[e])]
theorem wg{p:κ×V}{r:List (κ×V)}{k:κ}(e : ¬ p.1=k):c8 (p::r) k=p::c8 r k:=by
 unfold c8;rw[List.filter_cons,if_pos (by simp[e])]
theorem wj{kvs:List (κ×V)}{k:κ}{p:κ×V}(h:p∈c8 kvs k):p∈kvs:=(List.mem_filter.mp h).1
theorem tJ:∀{kvs:List (κ×V)} {k:κ},(kvs.map (·.1)).Nodup->((c8 kvs k).map (·.1)).Nodup
 | [],_,_=>List.nodup_nil
 | p::r,k,h=>by
   have h:(p.1::r.map (·.1)).Nodup:=h;obtain⟨h1,h2⟩:=List.nodup_cons.mp h
   by_cases e:p.1=k
   ·rw[we e];exact tJ h2
   ·rw[wg e];show(p.1::(c8 r k).map (·.1)).Nodup;refine List.nodup_cons.mpr ⟨fun m=>h1 ?_,tJ h2⟩
    obtain⟨q,hq,eq⟩:=List.mem_map.mp m;exact List.mem_map.mpr ⟨q,wj hq,eq⟩
end
end L2
namespace Ring
open PySem L2
end Ring
namespace L2
open PySem PySem.Spec PyProof.Rows
end L2
namespace RM
variable {N:Net}
end RM
namespace Ring
open PySem L2
end Ring
namespace L2
open PySem PySem.Spec PyProof.Rows
end L2
namespace Ring
open PySem L2
end Ring
namespace L2
open PySem PySem.Spec PyProof.Rows
end L2
namespace Ring
open PySem L2
end Ring
namespace L2
open PySem PySem.Spec PyProof.Rows
theorem ED{K:bJ}{a:Addr}{xs:List V}{g:TG}{tb:TS}{D:Ends}{σ:St}{H:Hp}(Pv:Nat->St->Hp->Prop)(h0:Pv 0 σ H)(hl:∀ i σ H,i<=xs.length->Pv i σ H->aV K H a xs)
 (hs:∀ i x T σ H,xs[i]?=some x->Pv i σ H->H T=none->g (.ref T) σ (upd H T (.tup [.int (i:Int),x])) fun σ2 H2=>tb { D with nx:=Pv (i+1),ct:=Pv (i+1),bk:=D.nx} σ2 H2) (hd:∀ σ H,Pv xs.length σ H->D.nx σ H) :
 ∃ W:Nat->Nat->St->Hp->Prop,(∃ m,W 0 m σ H)/\∀ i m σ H,W i m σ H->
   ((Ew K a).stop i H/\D.nx σ H)\/((Ew K a).go i H/\∃ N:St->Hp->Prop,(∀ σ' H',N σ' H'->∃ m',m'<m/\W (i+1) m' σ' H')/\∀ x H',(Ew K a).JA i H x H'->g x σ H' fun σ2 H2=>tb { D with nx:=N,ct:=N,bk:=D.nx} σ2 H2):=by
 refine⟨fun i m σ H=>m=xs.length-i/\i<=xs.length/\Pv i σ H,⟨xs.length,by simp,Nat.zero_le _,h0⟩,?_⟩
 rintro i m σ H ⟨rfl,hi,p⟩;have q:=hl i σ H hi p
 by_cases hlt:i<xs.length
 ·refine .inr ⟨⟨xs,xs[i],q,by simp[hlt]⟩,Pv (i+1),fun σ' H' p'=>⟨xs.length-(i+1),by lia,rfl,hlt,p'⟩,fun v H' y=>?_⟩
  obtain⟨T,x,rfl,hT,rfl,y1⟩:=y;exact hs i x T σ _ (y1 xs q) p hT
 ·have e:i=xs.length:=by lia
  subst e;exact .inl ⟨⟨xs,q,rfl⟩,hd σ H p⟩
end L2
namespace Ring
open PySem L2
def oV:Option Int->V
 | none=>.dR
 | some i=>.int i
abbrev Pr:=Option Int×Option Int
def sel(q:Pr)(u:Bool):Option Int:=if u=true then q.2 else q.1
def KQ(R:List Pr)(i:Nat):Pr:=R.getD i (none,none)
def iN(H:Hp)(x:V)(q:Pr):Prop:=∃ b,x = .ref b/\H b=some (.tup [oV q.1,oV q.2])
def RowW(H:Hp)(x:V)(R:List Pr):Prop:=∃ b ys,x = .ref b/\H b=some (.tup ys)/\Paired (iN H) ys R
def lz(H:Hp)(b:Addr)(W:List (List Pr)):Prop:=∃ ys,H b=some (.tup ys)/\Paired (RowW H) ys W
theorem iN.same{H H' : Hp}(s:aq H H'){x:V}{q:Pr}(h:iN H x q):iN H' x q:=let⟨b,e,z⟩:=h;⟨b,e,s _ _ z⟩
theorem RowW.same{H H' : Hp}(s:aq H H'){x:V}{R:List Pr}(h:RowW H x R):RowW H' x R:=let⟨b,ys,e,z,pr⟩:=h;⟨b,ys,e,s _ _ z,Paired.imp' (fun _ _ z=>z.same s) pr⟩
theorem lz.same{H H' : Hp}(s:aq H H'){b:Addr}{W:List (List Pr)}(h:lz H b W):lz H' b W:=let⟨ys,z,pr⟩:=h;⟨ys,s _ _ z,Paired.imp' (fun _ _ z=>z.same s) pr⟩
theorem iN.tups{H H' : Hp}(s:dH H H'){x:V}{q:Pr}(h:iN H x q):iN H' x q:=let⟨b,e,z⟩:=h;⟨b,e,s _ _ z⟩
theorem RowW.tups{H H' : Hp}(s:dH H H'){x:V}{R:List Pr}(h:RowW H x R):RowW H' x R:=let⟨b,ys,e,z,pr⟩:=h;⟨b,ys,e,s _ _ z,Paired.imp' (fun _ _ z=>z.tups s) pr⟩
end Ring
namespace L2
open PySem PySem.Spec PyProof.Rows
end L2
namespace RM
variable {N:Net}{m t0:Nat}
def Net.RN(N:Net)(t v:Nat):Nat:=if N.a t=v then N.b t else N.a t
def Net.pR(N:Net)(left v:Nat):List Nat:=(List.range N.n).filter fun t=>left.testBit t&&(decide (N.a t=v) || decide (N.b t=v))
theorem iO{left v t:Nat}:t∈N.pR left v↔t<N.n/\left.testBit t=true/\(N.a t=v\/N.b t=v):=by
 unfold Net.pR;rw[List.mem_filter,List.mem_range,Bool.and_eq_true,Bool.or_eq_true,decide_eq_true_eq,decide_eq_true_eq]
inductive Wk(N:Net)(m t0:Nat):List (Nat×Int)->Nat->Nat->Prop
 | start:Wk N m t0 [(t0,1)] (N.b t0) (m^^^2^t0)
 | next {acc:List (Nat×Int)} {v left t:Nat} (h:Wk N m t0 acc v left) (h0:left≠0) (ht:(N.pR left v)[0]?=some t):Wk N m t0 (acc++[(t,if N.a t=v then 1 else -1)]) (N.RN t v) (left^^^2^t)
theorem zP{t v:Nat}(h:N.a t=v\/N.b t=v):(N.a t=v/\N.b t=N.RN t v)\/(N.b t=v/\N.a t=N.RN t v):=by
 unfold Net.RN
 by_cases e:N.a t=v
 ·rw[if_pos e];exact .inl ⟨e,rfl⟩
 ·rw[if_neg e];rcases h with h|h
  ·exact absurd h e
  ·exact .inr ⟨h,rfl⟩
theorem HC{pre ks:List Nat}{v left:Nat}(h:Way N m pre v ks left)(hz:∀ k,m.testBit k=true->k∈ks):left=0:=by
 apply Nat.eq_of_testBit_eq;intro k;rw[h.oB,Nat.zero_testBit];cases hb:m.testBit k with
 | false=>rfl
 | true=>rw[decide_eq_true (hz k hb)];rfl
theorem wk{pre ks:List Nat}{v left:Nat}(r:N.Ring m)(h:Way N m pre v ks left)(h0:left≠0):v∉pre:=fun hv=>by
 obtain⟨i,hi⟩:=List.getElem?_of_mem hv;obtain⟨q0,qe,_,qs⟩:=h.closes hi;rcases r.2.2 _ qs qe with z|z
 ·exact q0 z
 ·refine h0 (HC h fun k hk=>?_)
  rw[<-z,Ring.jc]at hk;exact List.mem_of_mem_drop (of_decide_eq_true hk)
theorem Nf(hm:m<2^N.n)(r:N.Ring m)(hb:m.testBit t0=true){acc:List (Nat×Int)}{v left:Nat}(h:Wk N m t0 acc v left):∃ pre,Way N m pre v (acc.map (·.1)) left/\pre[0]?=some (N.a t0):=by
 induction h with
 | start =>
   refine⟨[N.a t0],?_,rfl⟩;exact(Way.start hm r.2.1 hb).go (by simp) hb (.inl ⟨rfl,rfl⟩)
 | next h h0 ht ih =>
   obtain⟨pre,w,p0⟩:=ih;have hm2:=iO.mp (List.mem_of_getElem? ht);refine⟨_,by rw[List.map_append];exact w.go (wk r w h0) hm2.2.1 (zP hm2.2.2),?_⟩
   rw[List.getElem?_append_left (by have:=(List.getElem?_eq_some_iff.mp p0).1;exact this)]
   exact p0
theorem Qf(hm:m<2^N.n)(r:N.Ring m)(hb:m.testBit t0=true){acc:List (Nat×Int)}{v left:Nat}(h:Wk N m t0 acc v left)(h0:left≠0):∃ t,(N.pR left v)[0]?=some t:=by
 obtain⟨pre,w,_⟩:=Nf hm r hb h;obtain⟨t,h1,h2⟩:=w.on (wk r w h0);have ht:t<N.n:=bO w.KI h1;have hmem:t∈N.pR left v:=iO.mpr ⟨ht,h1,h2⟩;cases e:N.pR left v with
 | nil=>rw[e]at hmem;cases hmem
 | cons x l=>exact⟨x,rfl⟩
theorem zQ{left t n:Nat}(ht:t<n)(hb:left.testBit t=true):cnt (fun j=>left.testBit j) n=cnt (fun j=>(left^^^2^t).testBit j) n+1 :=
 sU (h:=t) hb ht fun x _=>by
  rw[Nat.testBit_xor,Nat.testBit_two_pow]
  by_cases e:x=t
  ·subst e;simp[hb]
  ·rw[decide_eq_false e,decide_eq_false (fun z=>e z.symm)]
   simp
theorem xO(hm:m<2^N.n)(hb:m.testBit t0=true){acc:List (Nat×Int)}{v left:Nat}(h:Wk N m t0 acc v left):acc.length+cnt (fun j=>left.testBit j) N.n=cnt (fun j=>m.testBit j) N.n:=by
 induction h with
 | start =>
   have:=zQ (bO hm hb) hb;show 1+_=_
   lia
 | next h h0 ht ih =>
   have hm2:=iO.mp (List.mem_of_getElem? ht);have:=zQ hm2.1 hm2.2.1;rw[List.length_append,List.length_singleton]
   lia
variable {N:Net}{m t0:Nat}
def Net.D2(N:Net)(m:Nat):Prop:=∀ x,x<N.p->N.dg m x=0\/N.dg m x=2
theorem D2.fZ(h:N.D2 m):N.bS m:=fun x hx=>by
 rw[zE];refine decide_eq_false ?_;rcases h x hx with e|e<;>lia
theorem HD(C:Nat->Bool):∀ n,sm (fun x=>if C x=true then 2 else 0) n=2*cnt C n:=fun n=>by
 rw[gR];have:sm (fun k=>if C k=true then 2 else 0) n=sm (fun k=>(if C k=true then 1 else 0)+(if C k=true then 1 else 0)) n:=eT fun k _=>by
  by_cases h:C k=true
  ·rw[if_pos h,if_pos h]
  ·rw[if_neg h,if_neg h]
 rw[this,pN]
 lia
theorem KR(hm:m<2^N.n)(r:N.Ring m):N.D2 m:=by
 obtain⟨k0,hk0,hb0,hall⟩:=nu hm r;generalize hs:N.aJ (fun k=>m.testBit k) N.n (N.a k0)=s at hall
 have hC:∀ x,x<N.p->(fun x=>decide (N.aJ (fun k=>m.testBit k) N.n x=s)) x=decide (N.aJ (fun k=>m.testBit k) N.n x=s):=fun x _=>rfl
 obtain⟨h2,hl,Es⟩:=zF (s:=s) hm r _ hC (fun k hk hb=>decide_eq_true (hall k hk hb))
 generalize hCC:(fun x=>decide (N.aJ (fun k=>m.testBit k) N.n x=s))=C at hC h2 hl Es
 have none:∀ x,x<N.p->C x=false->N.dg m x=0:=fun x hx hc=>by
  cases hz:N.dg m x with
  | zero=>rfl
  | succ d =>
    exfalso
    obtain⟨k,hk,hb,JD⟩:=oA (N:=N) (m:=m) (x:=x) (by lia)
    rw[hC x hx]at hc;refine of_decide_eq_false hc ?_;rcases JD with e|e
    ·rw[<-e];exact hall k hk hb
    ·rw[<-e,<-gH (S:=fun k=>m.testBit k) hk hb]
     exact hall k hk hb
 have pos:∀ x,x<N.p->C x=true->0<N.dg m x:=fun x hx hc=>by
  cases hz:N.dg m x with
  | succ d=>lia
  | zero =>
    exfalso
    obtain⟨y,hy,LS,hne⟩:∃ y,y<N.p/\C y=true/\y≠x:=by
     obtain⟨c,d,h1,h3,h4,h5⟩:=mq h2
     by_cases e:c=x
     ·exact⟨d,h3,h5,by lia⟩
     ·exact⟨c,by lia,h4,e⟩
    rw[hC x hx]at hc;rw[hC y hy]at LS;exact hne (alone hz (bG _ _ _ ((of_decide_eq_true hc).trans (of_decide_eq_true LS).symm)))
 have hle:∀ x,x<N.p->(if C x=true then 2 else 0)<=N.dg m x:=fun x hx=>by
  by_cases hc:C x=true
  ·rw[if_pos hc];have h1:=pos x hx hc;have h3:=rW r.2.1 hx
   lia
  ·rw[if_neg hc];exact Nat.zero_le _
 have he:sm (fun x=>if C x=true then 2 else 0) N.p=sm (fun x=>N.dg m x) N.p:=by
  rw[HD,xJ,hl]
 intro x hx;have:=Hq hle he x hx
 by_cases hc:C x=true
 ·rw[if_pos hc]at this;exact .inr this.symm
 ·rw[if_neg hc]at this;exact .inl this.symm
theorem KS(hb:m.testBit t0=true){acc:List (Nat×Int)}{v left:Nat}(h:Wk N m t0 acc v left):∀ k,left.testBit k=(m.testBit k && !decide (k∈acc.map (·.1))):=by
 induction h with
 | start =>
   intro k;rw[Nat.testBit_xor,Nat.testBit_two_pow]
   by_cases e:t0=k
   ·subst e;simp[hb]
   ·have e' : ¬ k=t0:=fun z=>e z.symm
    simp[e,e']
 | @next acc v left t h h0 ht ih =>
   intro k;have hm2:=iO.mp (List.mem_of_getElem? ht);have hin:=hm2.2.1;rw[ih t]at hin;rw[Nat.testBit_xor,Nat.testBit_two_pow,ih k,List.map_append]
   by_cases e:t=k
   ·subst e;rw[hin];simp
   ·have e' : ¬ k=t:=fun z=>e z.symm
    have e3:(k∈acc.map (·.1)++[(t,if N.a t=v then(1:Int) else -1)].map (·.1))↔k∈acc.map (·.1):=by simp[e']
    rw[show decide (k∈acc.map (·.1)++[(t,if N.a t=v then(1:Int) else -1)].map (·.1))=decide (k∈acc.map (·.1)) from decide_eq_decide.mpr e3]
    simp[e]
theorem BN(hm:m<2^N.n)(hb:m.testBit t0=true){acc:List (Nat×Int)}{v left:Nat}(h:Wk N m t0 acc v left):left<2^N.n:=bZ fun k hk=>by
 rw[KS hb h k,Bool.and_eq_true]at hk;exact bO hm hk.1
theorem HE{left n:Nat}(hl:left<2^n):cnt (fun j=>left.testBit j) n=0↔left=0:=by
 constructor
 ·intro h;apply Classical.byContradiction;intro h0;obtain⟨j,hj⟩:=Nat.exists_testBit_of_ne_zero h0;have:=mj (f:=fun j=>left.testBit j) hj (bO hl hj)
  lia
 ·rintro rfl;rw[gR];refine(eT fun k _=>?_).trans (rT n)
  rw[if_neg (by rw[Nat.zero_testBit];simp)]
theorem KU(hm:m<2^N.n)(hb:m.testBit t0=true){acc:List (Nat×Int)}{v left:Nat}(h:Wk N m t0 acc v left):acc.length=cnt (fun j=>m.testBit j) N.n↔left=0:=by
 have:=xO hm hb h;rw[<-HE (BN hm hb h)]
 lia
end RM
namespace Ring
open PySem L2
theorem tK{H:Hp}{xs:List V}{p:Nat}{ts:List c5}{g:aD p ts}{k:Nat}(h3:Paired (TupAt H) xs ts)(hk:k<ts.length):∃ c,xs[k]?=some (.ref c)/\H c=some (.tup [.int ((g.N.a k:Nat):Int),.int ((g.N.b k:Nat):Int),.int (bN ts k).2.2]):=by
 have hkx:k<xs.length:=by rw[h3.length];exact hk
 obtain⟨t,ht,c,hc,hct⟩:=Paired.sN h3 (i:=k) (x:=xs[k]) (by simp[hkx])
 have Qg:t=bN ts k:=by
  have z:=pM hk;rw[ht]at z;exact Option.some.inj z
 refine⟨c,by rw[<-hc];simp[hkx],?_⟩
 rw[hct,<-Dl hk,<-Dm hk,Qg];rfl
end Ring
namespace RM
variable {N:Net}{row:Nat->Int}
end RM
namespace Ring
open PySem L2
end Ring
namespace RM
variable {N:Net}{row:Nat->Int}
variable {N:Net}{row XS:Nat->Int}
theorem EF{m t0:Nat}(hm:m<2^N.n)(r:N.Ring m)(hb:m.testBit t0=true):∃ acc v,Wk N m t0 acc v 0:=by
 have key:∀(k:Nat) (acc:List (Nat×Int)) (v left:Nat),Wk N m t0 acc v left->cnt (fun j=>left.testBit j) N.n=k->∃ acc v,Wk N m t0 acc v 0:=by
  intro k
  induction k with
  | zero =>
    intro acc v left h e;have hl:=xO hm hb h;rw[e]at hl;have h0:=(KU hm hb h).mp hl;subst h0;exact⟨acc,v,h⟩
  | succ k ih =>
    intro acc v left h e
    by_cases h0:left=0
    ·subst h0;exact⟨acc,v,h⟩
    ·obtain⟨t,ht⟩:=Qf hm r hb h h0;have h':=Wk.next h h0 ht;have l1:=xO hm hb h;have l2:=xO hm hb h';rw[List.length_append]at l2;refine ih _ _ _ h' ?_;have e1:[((t:Nat),(if N.a t=v then(1:Int) else -1))].length=1:=rfl
     lia
 exact key _ _ _ _ .start rfl
variable {N' : Net}
end RM
namespace L2
open PySem PySem.Spec PyProof.Rows PySem.W
def uY(n:Nat){α:Type}(R:α->Prop):KasT α->Prop
 | .ret a=>R a
 | .ask i j k=>i<n/\j<n/\∀ b,uY n R (k b)
theorem uY.bind{n:Nat}{α β:Type}{R:α->Prop}{R' : β->Prop}{f:α->KasT β}:∀{t:KasT α},uY n R t->(∀ a,R a->uY n R' (f a))->uY n R' (t.bind f)
 | .ret a,h,g=>by
   rw[KasT.bind.eq_1];exact g a h
 | .ask i j k,h,g=>by
   rw[KasT.bind.eq_2];exact⟨h.1,h.2.1,fun b=>uY.bind (h.2.2 b) g⟩
def cO(n:Nat)(p:Array Nat):Prop:=p.toList.Perm (List.range n)
theorem cO.at{n:Nat}{p:Array Nat}(h:cO n p)(hn:0<n)(x:Nat):p.getD x 0<n:=by
 unfold Array.getD
 split
 ·rename_i hx
  have:p[x]∈p.toList:=by simp
  exact List.mem_range.mp (h.mem_iff.mp this)
 ·exact hn
theorem EG{n:Nat}{p:Array Nat}(h:cO n p)(i j:Nat):cO n (p.swapIfInBounds i j):=by
 unfold Array.swapIfInBounds
 split
 ·split
  ·exact(Array.perm_iff_toList_perm.mp (Array.swap_perm _ _)).trans h
  ·exact h
 ·exact h
theorem pU{n:Nat}(f g:Nat->Nat):∀(l:List Nat) {p:Array Nat},cO n p->cO n (l.foldl (fun a k=>a.swapIfInBounds (f k) (g k)) p)
 | [],_,h=>h
 | k::l,_,h=>pU f g l (EG h (f k) (g k))
theorem lA{n:Nat}{p:Array Nat}(h:cO n p)(i j:Nat):cO n (kas_rev p i j):=pU _ _ _ h
theorem HF{n:Nat}{p:Array Nat}(h:cO n p)(i j:Nat):cO n (bubble p i j):=pU _ _ _ h
theorem BO{n:Nat}{p:Array Nat}(h:cO n p)(hn:0<n):∀ f x,uY n (fun _=>True) (kas_asc p f x)
 | 0,x=>by
   rw[kas_asc.eq_1];trivial
 | f+1,x=>by
   rw[kas_asc.eq_2];refine⟨h.at hn _,h.at hn _,fun b=>?_⟩
   cases b with
   | true=>trivial
   | false=>exact BO h hn f (x+1)
theorem rZ{n:Nat}(hn:0<n):∀ f {p:Array Nat} (x q:Nat),cO n p->uY n (fun r:Array Nat×Nat×Nat=>cO n r.1) (kas_desc f p x q)
 | 0,p,x,q,h=>by
   rw[kas_desc.eq_1];exact h
 | f+1,p,x,q,h=>by
   rw[kas_desc.eq_2];refine⟨h.at hn _,h.at hn _,fun b=>?_⟩
   cases b with
   | true =>
     show uY n _ (if q > 0 then _ else _)
     by_cases hq:q > 0
     ·rw[if_pos hq];exact rZ hn f _ _ (lA h _ _)
     ·rw[if_neg hq];exact rZ hn f _ _ h
   | false =>
     refine⟨h.at hn _,h.at hn _,fun b=>?_⟩
     cases b with
     | true=>exact h
     | false=>exact rZ hn f _ _ h
theorem DE{n:Nat}(hn:0<n){p:Array Nat}(h:cO n p)(x r:Nat):uY n (fun r:Nat×Array Nat=>cO n r.2) (kas_tail3 x r p) :=
 uY.bind (BO (lA h _ _) hn _ _) fun _ _=>lA h _ _
theorem DF{n:Nat}(hn:0<n){p:Array Nat}(h:cO n p)(x r:Nat):uY n (fun r:Nat×Array Nat=>cO n r.2) (kas_descPart x r p):=by
 refine uY.bind (rZ hn _ _ _ h) fun y hy=>?_
 by_cases hq:y.2.2 > 0
 ·rw[if_pos hq];exact DE hn (lA hy _ _) _ _
 ·rw[if_neg hq];exact DE hn hy _ _
theorem HG{n:Nat}(hn:0<n){p:Array Nat}(h:cO n p)(r:Nat):uY n (fun r:Nat×Array Nat=>cO n r.2) (kas_count r p):=by
 refine uY.bind (BO h hn _ _) fun y _=>?_
 by_cases h1:(y==r)=true
 ·rw[if_pos h1];exact h
 ·rw[if_neg h1]
  by_cases h2:y > 1
  ·rw[if_pos h2];refine⟨h.at hn _,h.at hn _,fun b=>?_⟩
   cases b with
   | true=>exact h
   | false=>exact DF hn (lA h _ _) _ _
  ·rw[if_neg h2];exact DF hn h _ _
theorem tM{n:Nat}(hn:0<n){p:Array Nat}(h:cO n p)(k:Nat):∀ f x y,uY n (fun _=>True) (kas_place p k f x y)
 | 0,x,y=>by
   rw[kas_place.eq_1];trivial
 | f+1,x,y=>by
   rw[kas_place.eq_2]
   by_cases hx:x ≥ y
   ·rw[if_pos hx];trivial
   ·rw[if_neg hx];refine⟨h.at hn _,h.at hn _,fun b=>?_⟩
    cases b with
    | true=>exact tM hn h k f _ _
    | false=>exact tM hn h k f _ _
theorem HH{n:Nat}(hn:0<n):∀ f {p:Array Nat} (x:Nat),cO n p->uY n (cO n) (kas_bin f p x)
 | 0,p,x,h=>by
   rw[kas_bin.eq_1];exact h
 | f+1,p,x,h=>by
   rw[kas_bin.eq_2];exact uY.bind (tM hn h _ _ _ _) fun l _=>HH hn f _ (HF h _ _)
theorem DG{n:Nat}(hn:0<n):uY n (cO n) (kas_sort n):=by
 unfold kas_sort;have h0:cO n (List.range n).toArray:=by unfold cO;simp
 refine uY.bind (HG hn h0 n) fun r hr=>?_
 by_cases hx:r.1<n
 ·rw[if_pos hx];exact HH hn _ _ hr
 ·rw[if_neg hx];exact hr
def LV(h:Heap)(v:Value):Prop:=∃(a:Addr) (o:Obj) (x y:Int) (t u:Tok) (k:Nat),v = .ref a/\h.get? a=some o/\o.cls = .type "tuple"/\o.data = .seq #[.int x t,.int y u] k
theorem wm{prog:Program}{w:World}{A:Around}{E:dh}{s:Shared}{vs:List Value}{Q:SortKind->Shared->Prop}(hn:0<vs.length)(hv:∀ v∈vs,LV s.heap v)(q:Q (tuples' true) s):wpAny (model prog w) A (keyKind' vs.toArray) Q E s:=by
 obtain⟨fs,hl,hf,hk⟩:∃ fs:List Value,fs.length=vs.length/\(∀ v∈fs,∃ x t,v=Value.int x t)/\KatTups s.heap vs fs:=by
  clear q hn
  induction vs with
  | nil=>exact⟨[],rfl,fun v hv=>(by cases hv),by rw[KatTups.eq_1];trivial⟩
  | cons v vs ih =>
    obtain⟨fs,h1,h2,h3⟩:=ih fun v HJ=>hv v (List.mem_cons_of_mem _ HJ)
    obtain⟨a,o,x,y,t,u,k,e,ho,hc,hd⟩:=hv v List.mem_cons_self;refine⟨.int x t::fs,by simp[h1],fun v' HJ=>?_,?_⟩
    ·rcases List.mem_cons.mp HJ with rfl|HJ
     ·exact⟨x,t,rfl⟩
     ·exact h2 v' HJ
    ·rw[KatTups.eq_2];exact⟨⟨a,o,_,k,e,ho,hc,hd,rfl⟩,h3⟩
 refine kat_kind (T:=.type "int") hk (by lia) (fun v hv=>?_) (by decide) q
 obtain⟨x,t,rfl⟩:=hf v hv;intro A Q E s _ q;exact wpAny_pure q
section
variable {X:Cx}{pins:aQ}{σ:St}{H:Hp}{s:Shared}{h' : Heap}
theorem Inv.Qh{a:Addr}{o:HO}{t' : Nat}(I:Inv X pins σ H s)(k:∀ b u,b≠X.env.locals->s.heap.get? b=some u->h'.get? b=some u)(ns:∀ m,s.heap.Ns X.env.locals m->h'.Ns X.env.locals m)(hp:s.heap.objs.size<=a)(new:bf X.prog X.w (upd H a o) h' a o):
 Inv X pins σ (upd H a o) { s with heap:=h',toks:=t'}:=by
 have hn:H a=none:=I.hok.fresh hp;have nl:∀ b u,H b=some u->b≠X.env.locals:=fun b u e z=>by
  rw[z,I.free]at e;cases e
 refine I.step (g':=s.gens) (d':=s.drawn) (ch:=[]) (fun b hb=>absurd hb List.not_mem_nil) (fun b o hb _ _ e _=>k b o hb e) (fun b o hb _ _ e _=>⟨o.slots,k b o hb e⟩) (fun b u _ e n=>?_) (fun b o _ e=>?_) (fun b xs e=>?_) (fun b u xs e=>?_) (fun b ps e=>?_) ns (fun b u e=>?_) I.bare
 ·rw[aj (Nat.ne_of_lt (Nat.lt_of_lt_of_le (Heap.lt_size e) hp))];exact n
 ·by_cases hb:b=X.env.locals
  ·subst hb;obtain⟨m,hm,_⟩:=I.loc;obtain⟨o',es,ep,e',_⟩:=ns m hm;exact⟨o',e'⟩
  ·exact⟨o,k b o hb e⟩
 ·rw[aj (aW e hn)];exact e
 ·rw[aj (aW e hn)];exact e
 ·exact⟨#[],by rw[aj (aW e hn),e];simp⟩
 ·by_cases hb:b=a
  ·subst hb;rw[ae]at e;cases e;exact new
  ·rw[aj hb]at e;refine(I.hok b u e).stay (fun c v hc q=>k c v ?_ q) (fun c q=>by rw[aj (aW q hn)];exact q) fun c xs q=>by rw[aj (aW q hn)];exact q
   rcases hc with rfl|hc
   ·exact nl _ _ e
   ·exact nl _ _ hc
theorem Nh{h:Heap}{L:Addr}{m m' : kU}(a:h.Ns L m)(b:h.Ns L m'):m=m':=by
 obtain⟨o,es,ep,e,d,_,f⟩:=a;obtain⟨o',es',CS,e',d',_,f'⟩:=b;rw[e]at e';cases e';rw[d]at d';cases d'
 funext x
 rw[<-f x,f' x]
end
theorem HK{prog:Program}{w:World}{A:Around}{E:dh}{s:Shared}{a:Addr}{its:List Value}{n0:Nat}{P:PySem.Fin->Shared->Prop}(ho:s.heap.get? a=some (seqObj "list" its.toArray n0))(hn:its.length<2)
 (q:P (PySem.Fin.done (PySem.Flow.ret PySem.Value.none)) { s with heap:=sortedHeap s.heap a its its.toArray}):wpAny (model prog w) A (PySem.Builtin.«list.sort» { pos:=[PySem.Value.ref a]}) P E s:=by
 have hs1:its.length<=1000:=by lia
 have ht:its.toArray.size<=sizeLine:=by
  rw[List.size_toArray];exact dl (Nat.ble_eq.mpr hs1)
 rw[list_sort_plain];refine wpAny_bind (listItems_at ho rfl ?_);refine wpAny_bind (listUpdate_at ho rfl ?_ ht (Nat.zero_le _));obtain⟨n1,JB⟩:∃ n1,(s.heap.update a (Obj.mapSeq fun _=>#[])).get? a=some (seqObj "list" #[] n1):=by
  exact⟨_,get?_update_seq ho fun _=>#[]⟩
 refine wpAny_bind (seqEpoch_at JB rfl ?_);refine wpAny_bind (wpAny_newTuple ?_ (by simpa using ht))
 refine wpAny_bind (wpAny_newList ?_ (Nat.zero_le _));refine wpAny_holding ?_;have hsz:its.toArray.size<2:=by simpa using hn
 simp only[hsz,↓reduceIte];refine wpAny_bind (wpAny_pure ?_);refine wpAny_bind (m:=pure ((),SortSt.mk' general' (its.toArray.zip its.toArray) #[] 7 none)) (wpAny_pure ?_);have Vb:(((s.heap.update a (Obj.mapSeq fun x=>#[])).push { cls:=Value.type "tuple",data:=Data.seq its.toArray}).push { cls:=Value.type "list",data:=Data.seq #[]}).get? a=some (seqObj "list" #[] n1):=by
  have h1:=Heap.lt_size JB;rw[Heap.get?_push_ne _ _ _ (Nat.ne_of_lt (by rw[size_push'];exact Nat.lt_succ_of_lt h1)),Heap.get?_push_ne _ _ _ (Nat.ne_of_lt h1)]
  exact JB
 refine wpAny_bind (seqEpoch_at Vb rfl ?_);refine wpAny_bind (listUpdate_at Vb rfl ?_ (Nat.zero_le _) ?_)
 ·show wpAny _ _ (if(n1 != n1)=true then _ else ret Value.none) _ _ _
  rw[if_neg (by simp)]
  refine wpAny_pure ?_;have e:Array.map (fun x:Keyed=>x.snd) (its.toArray.zip its.toArray)=its.toArray:=by
   simp;exact List.map_snd_zip (Nat.le_refl _)
  have e2:Array.map (fun x:Keyed=>x.snd) (arrOf (SortSt.mk' general' (its.toArray.zip its.toArray) #[] 7 none))=its.toArray:=e
  rw[e2];exact q
 ·have e:Array.map (fun x:Keyed=>x.snd) (its.toArray.zip its.toArray)=its.toArray:=by
   simp;exact List.map_snd_zip (Nat.le_refl _)
  have e2:Array.map (fun x:Keyed=>x.snd) (arrOf (SortSt.mk' general' (its.toArray.zip its.toArray) #[] 7 none))=its.toArray:=e
  show(Array.map (fun x:Keyed=>x.snd) (arrOf (SortSt.mk' general' (its.toArray.zip its.toArray) #[] 7 none))).size<=_
  rw[e2];exact Nat.le_succ_of_le ht
end L2
namespace RM
variable {N:Net}{row:Nat->Int}
variable {N:Net}{row:Nat->Int}
theorem pV:∀{l L:List Nat},l.Nodup->(∀ x∈l,x∈L)->l.length<=L.length
 | [],_,_,_=>Nat.zero_le _
 | x::l,L,nd,h=>by
   have hx:=h x List.mem_cons_self;have Vc:=List.nodup_cons.mp nd;have:=pV (L:=L.erase x) Vc.2 fun y hy=>(List.mem_erase_of_ne (fun z:y=x=>Vc.1 (by rw[<-z];exact hy))).mpr (h y (List.mem_cons_of_mem _ hy))
   rw[List.length_erase_of_mem hx]at this;have:=List.length_pos_of_mem hx;rw[List.length_cons]
   lia
def code(m:Nat):List Nat->Nat
 | []=>0
 | c::cs=>(if m.testBit c=true then 1 else 0)+2*code m cs
theorem xP(m:Nat):∀ cs,code m cs<2^cs.length
 | []=>Nat.one_pos
 | c::cs=>by
   have:=xP m cs;unfold code;rw[List.length_cons,Nat.pow_succ]
   split<;>lia
theorem code_inj{m q:Nat}:∀{cs},code m cs=code q cs->∀ c∈cs,m.testBit c=q.testBit c
 | [],_,c,hc=>by cases hc
 | d::cs,h,c,hc=>by
   unfold code at h;have h1:m.testBit d=q.testBit d:=by
    cases hm:m.testBit d<;>cases hq:q.testBit d
    ·rfl
    ·rw[hm,hq,if_neg Bool.false_ne_true,if_pos rfl]at h;lia
    ·rw[hm,hq,if_neg Bool.false_ne_true,if_pos rfl]at h;lia
    ·rfl
   rcases List.mem_cons.mp hc with rfl|hc
   ·exact h1
   ·rw[h1]at h;exact code_inj (by lia) c hc
theorem EH{l:List Nat}(nd:l.Nodup)(h:∀ m∈l,m<2^N.n/\N.Ring m):l.length<2^N.ay.length:=by
 have inj:∀ m q,m<2^N.n->q<2^N.n->N.bS m->N.bS q->code m N.ay=code q N.ay->m=q:=fun m q hm hq em eq e=>gJ hm hq em eq fun c hc hf=>code_inj e c (aR.mpr ⟨hc,hf⟩)
 have Tt:((0:Nat)::l.map fun m=>code m N.ay).Nodup:=by
  refine List.nodup_cons.mpr ⟨fun z=>?_,?_⟩
  ·obtain⟨m,hm,e⟩:=List.mem_map.mp z;obtain⟨h1,h2⟩:=h m hm;have e0:code 0 N.ay=0:=by
    have:∀ cs,code 0 cs=0:=fun cs=>by
     induction cs with
     | nil=>rfl
     | cons c cs ih =>
       unfold code;rw[Nat.zero_testBit,ih,if_neg Bool.false_ne_true]
    exact this _
   exact h2.1 (inj m 0 h1 (Nat.two_pow_pos _) h2.2.1 bS.zero (by rw[e,e0]))
  ·refine List.Pairwise.map _ (fun a b (hab:a≠b/\a∈l/\b∈l)=>?_) ?_ (R:=fun a b=>a≠b/\a∈l/\b∈l)
   ·obtain⟨h1,h2⟩:=h a hab.2.1;obtain⟨h3,h4⟩:=h b hab.2.2;exact fun e=>hab.1 (inj a b h1 h3 h2.2.1 h4.2.1 e)
   ·exact List.Pairwise.imp_of_mem (fun {a b} ha hb hne=>⟨hne,ha,hb⟩) nd
 have:=pV (L:=List.range (2^N.ay.length)) Tt fun x hx=>by
  refine List.mem_range.mpr ?_;rcases List.mem_cons.mp hx with rfl|hx
  ·exact Nat.two_pow_pos _
  ·obtain⟨m,_,rfl⟩:=List.mem_map.mp hx;exact xP _ _
 rw[List.length_cons,List.length_map,List.length_range]at this
 lia
variable {N:Net}{m t0:Nat}
variable {N N' : Net}
end RM
namespace Ring
open PySem L2
end Ring
namespace RM
variable {N:Net}
variable {N:Net}
variable {N:Net}
theorem Ni{m x0:Nat}(hm:m<2^N.n)(d2:N.D2 m)(JE:x0<N.p)(hd0:N.dg m x0=2):
 N.Ring m↔∀ x,x<N.p->(N.aJ (fun k=>m.testBit k) N.n x=N.aJ (fun k=>m.testBit k) N.n x0↔N.dg m x=2):=by
 constructor
 ·intro r x hx;obtain⟨k0,hk0,hb0,hall⟩:=nu hm r;have on:∀ y,y<N.p->N.dg m y=2->N.aJ (fun k=>m.testBit k) N.n y=N.aJ (fun k=>m.testBit k) N.n (N.a k0):=fun y hy hd=>by
   obtain⟨k,hk,hb,JD⟩:=oA (N:=N) (m:=m) (x:=y) (by lia)
   rw[<-hall k hk hb];rcases JD with e|e
   ·rw[e]
   ·rw[<-e];exact(gH (S:=fun k=>m.testBit k) hk hb).symm
  constructor
  ·intro e;rcases d2 x hx with z|z
   ·exfalso
    have:=alone z (bG _ _ _ e);rw[this]at hd0
    lia
   ·exact z
  ·intro hd;rw[on x hx hd,on x0 JE hd0]
 ·intro h;have hpos:∀ k,k<N.n->m.testBit k=true->N.aJ (fun k=>m.testBit k) N.n (N.a k)=N.aJ (fun k=>m.testBit k) N.n x0:=fun k hk hb=>by
   refine(h _ (N.al k hk)).mpr ?_;have h1:=tF hk hb (.inl rfl);rcases d2 _ (N.al k hk) with z|z
   ·lia
   ·exact z
  have hs:sm (fun x=>N.dg m x) N.p=2*cnt (fun x=>decide (N.aJ (fun k=>m.testBit k) N.n x=N.aJ (fun k=>m.testBit k) N.n x0)) N.p:=by
   rw[<-HD];refine eT fun x hx=>?_
   by_cases e:N.aJ (fun k=>m.testBit k) N.n x=N.aJ (fun k=>m.testBit k) N.n x0
   ·rw[if_pos (decide_eq_true e)];exact(h x hx).mp e
   ·rw[if_neg (by rw[decide_eq_false e];decide)]
    rcases d2 x hx with z|z
    ·exact z
    ·exact absurd ((h x hx).mpr z) e
  have hl:cnt (fun x=>decide (N.aJ (fun k=>m.testBit k) N.n x=N.aJ (fun k=>m.testBit k) N.n x0)) N.p=cnt (fun k=>m.testBit k) N.n:=by
   rw[xJ]at hs
   lia
  refine Dy hm (D2.fZ d2) (fun x=>decide (N.aJ (fun k=>m.testBit k) N.n x=N.aJ (fun k=>m.testBit k) N.n x0)) (fun x _=>rfl) ?_ (fun k hk hb=>decide_eq_true (hpos k hk hb)) hl
  rw[hl];have:N.dg m x0<=cnt (fun k=>m.testBit k) N.n:=xH fun k _ hk=>(Bool.and_eq_true_iff.mp hk).1
  lia
inductive Sp(B:List Nat):Nat->Prop
 | zero:Sp B 0
 | add {x b:Nat} (h:Sp B x) (hb:b∈B):Sp B (x^^^b)
section
variable {B C:List Nat}{x y b:Nat}
theorem Sp.mem(h:b∈B):Sp B b:=by
 have:=Sp.add .zero h;rw[Nat.zero_xor]at this;exact this
theorem Sp.xor(h:Sp B x)(h' : Sp B y):Sp B (x^^^y):=by
 induction h' with
 | zero=>rw[Nat.xor_zero];exact h
 | add _ hb ih=>rw[<-Nat.xor_assoc];exact .add ih hb
theorem Sp.mono(h:Sp B x)(hc:∀ b∈B,Sp C b):Sp C x:=by
 induction h with
 | zero=>exact .zero
 | add _ hb ih=>exact ih.xor (hc _ hb)
theorem gb(x b:Nat):x^^^b^^^b=x:=by rw[Nat.xor_assoc,Nat.xor_self,Nat.xor_zero]
theorem Sp.lB:Sp (b::B) x↔Sp B x\/Sp B (x^^^b):=by
 constructor
 ·intro h
  induction h with
  | zero=>exact .inl .zero
  | add h hc ih =>
    rename_i x c
    rcases List.mem_cons.mp hc with e|e
    ·subst e;rcases ih with ih|ih
     ·exact .inr (by rw[gb];exact ih)
     ·exact .inl ih
    ·rcases ih with ih|ih
     ·exact .inl (.add ih e)
     ·exact .inr (by rw[Nat.xor_assoc,Nat.xor_comm c,<-Nat.xor_assoc];exact .add ih e)
 ·rintro(h|h)
  ·exact h.mono fun c hc=>.mem (List.mem_cons_of_mem _ hc)
  ·have h2:Sp (b::B) (x^^^b):=h.mono fun c hc=>.mem (List.mem_cons_of_mem _ hc)
   have:=h2.add (b:=b) List.mem_cons_self;rw[gb]at this;exact this
theorem Sp.off{t:Nat}(h:Sp B x)(hz:∀ b∈B,b.testBit t=false):x.testBit t=false:=by
 induction h with
 | zero=>exact Nat.zero_testBit t
 | add _ hb ih=>rw[Nat.testBit_xor,ih,hz _ hb];rfl
theorem Sp.lt{n:Nat}(h:Sp B x)(hz:∀ b∈B,b<2^n):x<2^n:=by
 induction h with
 | zero=>exact Nat.two_pow_pos n
 | add _ hb ih=>exact Nat.xor_lt_two_pow ih (hz _ hb)
end
inductive HM:List (Nat×Nat)->Prop
 | nil:HM []
 | cons {t r:Nat} {rest:List (Nat×Nat)} (h:HM rest) (hr:r.testBit t=true) (hz:∀ q∈rest,q.2.testBit t=false):HM ((t,r)::rest)
def gU(rows:List (Nat×Nat))(x:Nat):Nat:=rows.foldl (fun x q=>if x.testBit q.1=true then x^^^q.2 else x) x
section
variable {rows:List (Nat×Nat)}{x t:Nat}
theorem xQ(rows:List (Nat×Nat)):∀ x,Sp (rows.map (·.2)) (x^^^gU rows x):=by
 induction rows with
 | nil=>intro x;show Sp [] (x^^^x);rw[Nat.xor_self];exact .zero
 | cons q rest ih =>
   intro x;show Sp (q.2::rest.map (·.2)) (x^^^gU rest (if x.testBit q.1=true then x^^^q.2 else x))
   have h:=ih (if x.testBit q.1=true then x^^^q.2 else x)
   by_cases e:x.testBit q.1=true
   ·rw[if_pos e]at h ⊢;refine Sp.lB.mpr (.inr ?_);rw[Nat.xor_assoc,Nat.xor_comm _ q.2,<-Nat.xor_assoc];exact h
   ·rw[if_neg e]at h ⊢;exact Sp.lB.mpr (.inl h)
theorem EI(hz:∀ q∈rows,q.2.testBit t=false):∀{x},x.testBit t=false->(gU rows x).testBit t=false:=by
 induction rows with
 | nil=>intro x h;exact h
 | cons q rest ih =>
   intro x h;have h2:(if x.testBit q.1=true then x^^^q.2 else x).testBit t=false:=by
    by_cases e:x.testBit q.1=true
    ·rw[if_pos e,Nat.testBit_xor,h,hz q List.mem_cons_self];rfl
    ·rw[if_neg e];exact h
   exact ih (fun q' hq=>hz q' (List.mem_cons_of_mem _ hq)) h2
theorem pW(h:HM rows):∀ x,∀ q∈rows,(gU rows x).testBit q.1=false:=by
 induction h with
 | nil=>intro x q hq;cases hq
 | cons h hr hz ih =>
   rename_i t r rest
   intro x q hq;show(gU rest (if x.testBit t=true then x^^^r else x)).testBit q.1=false
   rcases List.mem_cons.mp hq with e|e
   ·subst e;refine EI hz ?_
    by_cases e:x.testBit t=true
    ·rw[if_pos e,Nat.testBit_xor,e,hr];rfl
    ·rw[if_neg e];exact Bool.eq_false_iff.mpr e
   ·exact ih _ q e
theorem HN(h:HM rows):∀{x},Sp (rows.map (·.2)) x->(∀ q∈rows,x.testBit q.1=false)->x=0:=by
 induction h with
 | nil=>intro x hs _;cases hs with
   | zero=>rfl
   | add _ hb=>cases hb
 | cons h hr hz ih =>
   rename_i t r rest
   intro x hs hx;have off:∀ y,Sp (rest.map (·.2)) y->y.testBit t=false:=fun y hy=>hy.off fun b hb=>by
    obtain⟨q,hq,rfl⟩:=List.mem_map.mp hb;exact hz q hq
   rcases Sp.lB.mp hs with hs|hs
   ·exact ih hs fun q hq=>hx q (List.mem_cons_of_mem _ hq)
   ·exfalso
    have h1:=off _ hs;have h2:=hx (t,r) List.mem_cons_self;rw[Nat.testBit_xor]at h1;have h2:x.testBit t=false:=h2;rw[h2,hr]at h1;cases h1
theorem wq(h:HM rows)(x:Nat):gU rows x=0↔Sp (rows.map (·.2)) x:=by
 have hs:=xQ rows x
 constructor
 ·intro e;rw[e,Nat.xor_zero]at hs;exact hs
 ·intro hx;refine HN h ?_ (pW h x);have:=hx.xor hs;rw[<-Nat.xor_assoc,Nat.xor_self,Nat.zero_xor]at this;exact this
end
open Classical in
open Classical in
theorem xR{x:Nat}(h:x≠0):x.testBit x.log2=true:=Nat.testBit_log2 h
theorem KW{x b:Nat}(hb:b≠0):min x (x^^^b)=if x.testBit b.log2=true then x^^^b else x:=by
 have ht:=xR hb;have hlt:b<2^(b.log2+1):=Nat.lt_log2_self;rw[Nat.pow_succ]at hlt;have e:=Ring.xC x b
 by_cases h:x.testBit b.log2=true
 ·rw[if_pos h];have h1:2^b.log2<=x&&&b:=Nat.ge_two_pow_of_testBit (by rw[Nat.testBit_and,h,ht];rfl)
  lia
 ·rw[if_neg h];have h':=Bool.eq_false_iff.mpr h;have e2:=Ring.xC b (2^b.log2);have e3:b&&&2^b.log2=2^b.log2:=Nat.eq_of_testBit_eq fun j=>by
   rw[Nat.testBit_and,Nat.testBit_two_pow]
   by_cases z:b.log2=j
   ·rw[<-z,ht];simp
   ·simp[z]
  have e4:x&&&b=x&&&(b^^^2^b.log2):=Nat.eq_of_testBit_eq fun j=>by
   rw[Nat.testBit_and,Nat.testBit_and,Nat.testBit_xor,Nat.testBit_two_pow]
   by_cases z:b.log2=j
   ·rw[<-z,h'];simp
   ·simp[z]
  have h1:x&&&(b^^^2^b.log2)<=b^^^2^b.log2:=Nat.and_le_right;have h2:x&&&b<2^b.log2:=bZ fun j hj=>by
   rw[Nat.testBit_and]at hj;obtain⟨j1,j2⟩:=Bool.and_eq_true_iff.mp hj;have h3:j≠b.log2:=fun z=>by rw[z,h']at j1;cases j1
   have h4:=bO (m:=b) (n:=b.log2+1) (by rw[Nat.pow_succ];exact hlt) j2
   lia
  lia
open Ring (xorL xorL_cons maskOf)
variable {N:Net}
theorem fG{z:Nat}:N.bS (N.cQ z N.ay 0)/\N.cQ z N.ay 0<2^N.n:=l8 fun c hc=>(aR.mp hc).1
theorem my:N.ay.Nodup:=List.Pairwise.filter _ List.nodup_range
theorem EJ:N.ay.Pairwise (· < ·):=List.Pairwise.filter _ List.pairwise_lt_range
theorem jY{z j d:Nat}(h:N.ay[j]?=some d):(N.cQ z N.ay 0).testBit d=z.testBit j:=by
 rw[zz my (fun c hc=>(aR.mp hc).2) h,Nat.zero_add]
theorem tN{c:Nat}(hc:c<N.n)(hf:N.iW c=false):∃ j:Nat,N.ay[j]?=some c:=List.getElem?_of_mem (aR.mpr ⟨hc,hf⟩)
theorem BP(z y:Nat):N.cQ (z^^^y) N.ay 0=N.cQ z N.ay 0^^^N.cQ y N.ay 0:=by
 refine gJ fG.2 (Nat.xor_lt_two_pow fG.2 fG.2) fG.1 (bS.xor fG.1 fG.1) fun c hc hf=>?_
 obtain⟨j,hj⟩:=tN hc hf;rw[jY hj,Nat.testBit_xor,Nat.testBit_xor,jY hj,jY hj]
theorem Nj{m:Nat}(hm:m<2^N.n)(ev:N.bS m):∃ z,z<2^N.ay.length/\N.cQ z N.ay 0=m:=by
 refine⟨maskOf (fun i=>m.testBit (N.ay.getD i 0)) N.ay.length,Ring.mask_lt _ _,gJ fG.2 hm fG.1 ev fun c hc hf=>?_⟩
 obtain⟨j,hj⟩:=tN hc hf;rw[jY hj,Ring.mask_bit];have hl:=(List.getElem?_eq_some_iff.mp hj).1;rw[decide_eq_true hl,Bool.true_and,List.getD_eq_getElem?_getD,hj];rfl
theorem HP{c j:Nat}(hc:c<N.n)(hf:N.iW c=false)(h:(N.ring c).testBit j=true):j<=c:=by
 have Tu:N.dI c (N.a c)=N.dI c (N.b c):=by
  unfold Net.iW at hf
  simpa using hf
 have low:∀ k,(N.trail c (N.a c)^^^N.trail c (N.b c)^^^2^c).testBit k=true->k<=c/\(k=c\/N.iW k=true):=fun k hk=>by
  rw[Nat.testBit_xor,Nat.testBit_xor,Nat.testBit_two_pow]at hk
  by_cases e:c=k
  ·exact⟨by lia,.inl e.symm⟩
  ·rw[decide_eq_false e,Bool.xor_false]at hk;cases h1:(N.trail c (N.a c)).testBit k with
   | true=>exact⟨Nat.le_of_lt (c7 _ _ _ h1).1,.inr (c7 _ _ _ h1).2⟩
   | false =>
     rw[h1,Bool.false_xor]at hk;exact⟨Nat.le_of_lt (c7 _ _ _ hk).1,.inr (c7 _ _ _ hk).2⟩
 have e:N.ring c=N.trail c (N.a c)^^^N.trail c (N.b c)^^^2^c:=by
  refine gJ (jX hc) (bZ fun k hk=>Nat.lt_of_le_of_lt (low k hk).1 hc) (fX hc) (fun x hx=>?_) fun d hd hfd=>?_
  ·rw[fc,fc,lg c (Nat.le_of_lt hc),lg c (Nat.le_of_lt hc),jW hc,Tu];unfold Net.inc;cases decide (N.a c=x)<;>cases decide (N.b c=x)<;>cases decide (N.dI c (N.b c)=x)<;>rfl
  ·rw[dM hf hfd];cases q:(N.trail c (N.a c)^^^N.trail c (N.b c)^^^2^c).testBit d with
   | true =>
     rcases(low d q).2 with z|z
     ·rw[z];simp
     ·rw[hfd]at z;cases z
   | false =>
     refine decide_eq_false fun z=>?_
     subst z;rw[Nat.testBit_xor,Nat.testBit_xor,Nat.testBit_two_pow,decide_eq_true rfl]at q;have t1:(N.trail c (N.a c)).testBit c=false:=by
      cases h1:(N.trail c (N.a c)).testBit c with
      | false=>rfl
      | true=>exact absurd (c7 _ _ _ h1).1 (Nat.lt_irrefl _)
     have t2:(N.trail c (N.b c)).testBit c=false:=by
      cases h1:(N.trail c (N.b c)).testBit c with
      | false=>rfl
      | true=>exact absurd (c7 _ _ _ h1).1 (Nat.lt_irrefl _)
     rw[t1,t2]at q;cases q
 rw[e]at h;exact(low j h).1
theorem wu{z j:Nat}:∀{l:List Nat} {i:Nat},(N.cQ z l i).testBit j=true->∃ k c,l[k]?=some c/\z.testBit (i+k)=true/\(N.ring c).testBit j=true
 | [],_,h=>by simp[Net.cQ]at h
 | c::r,i,h=>by
   unfold Net.cQ at h;rw[Nat.testBit_xor]at h
   by_cases q:z.testBit i=true/\(N.ring c).testBit j=true
   ·exact⟨0,c,rfl,by simpa using q.1,q.2⟩
   ·have z0:(if z.testBit i=true then N.ring c else 0).testBit j=false:=by
     split
     ·next hz=>cases e:(N.ring c).testBit j with
       | false=>rfl
       | true=>exact absurd ⟨hz,e⟩ q
     ·simp
    rw[z0,Bool.false_xor]at h;obtain⟨k,d,h1,h2,h3⟩:=wu h;exact⟨k+1,d,by simpa using h1,by rw[show i+(k+1)=i+1+k by lia];exact h2,h3⟩
theorem DH{x y:Nat}(i:Nat)(h1:x.testBit i=false)(h2:y.testBit i=true)(h:∀ j,i<j->x.testBit j=y.testBit j):x<y:=by
 have hq:x/2^(i+1)=y/2^(i+1):=Nat.eq_of_testBit_eq fun j=>by
  rw[Nat.testBit_div_two_pow,Nat.testBit_div_two_pow];exact h _ (by lia)
 have hx:x%2^(i+1)<2^i:=Nat.lt_pow_two_of_testBit _ fun k hk=>by
  rw[Nat.testBit_mod_two_pow]
  by_cases e:k=i
  ·subst e;rw[h1,Bool.and_false]
  ·rw[decide_eq_false (by lia),Bool.false_and]
 have hy:2^i<=y%2^(i+1):=Nat.ge_two_pow_of_testBit (by rw[Nat.testBit_mod_two_pow,h2,decide_eq_true (Nat.lt_succ_self _)];rfl)
 have e1:=Nat.div_add_mod x (2^(i+1));have e2:=Nat.div_add_mod y (2^(i+1));rw[hq]at e1
 lia
theorem xS{z y:Nat}(h:z<y)(hy:y<2^N.ay.length):N.cQ z N.ay 0<N.cQ y N.ay 0:=by
 have hd:z^^^y≠0:=fun e=>by
  have:z=y:=by
   have:=congrArg (· ^^^ y) e
   simpa[Nat.xor_assoc]using this
  lia
 have top:=Nat.testBit_log2 hd;have above:∀ k,(z^^^y).log2<k->(z^^^y).testBit k=false:=fun k hk=>Nat.testBit_lt_two_pow (Nat.lt_of_lt_of_le (Nat.lt_log2_self) (Nat.pow_le_pow_right (by decide) hk))
 generalize hi:(z^^^y).log2=i at top above;have same:∀ k,i<k->z.testBit k=y.testBit k:=fun k hk=>by
  have:=above k hk;rw[Nat.testBit_xor]at this;cases hz:z.testBit k<;>cases hy:y.testBit k<;>rw[hz,hy]at this<;>first | rfl | cases this
 have zi:z.testBit i=false/\y.testBit i=true:=by
  rw[Nat.testBit_xor]at top;cases hz:z.testBit i with
  | false =>
    rw[hz,Bool.false_xor]at top;exact⟨rfl,top⟩
  | true =>
    have XT:y.testBit i=false:=by
     cases q:y.testBit i with
     | false=>rfl
     | true=>rw[hz,q]at top;cases top
    exact absurd (DH i XT hz fun k hk=>(same k hk).symm) (by lia)
 have xN:i<N.ay.length:=bO hy zi.2;have hc:N.ay[i]?=some N.ay[i]:=List.getElem?_eq_getElem xN;refine DH N.ay[i] (by rw[jY hc];exact zi.1) (by rw[jY hc];exact zi.2) fun j hj=>?_
 have e0:(N.cQ (z^^^y) N.ay 0).testBit j=false:=by
  cases q:(N.cQ (z^^^y) N.ay 0).testBit j with
  | false=>rfl
  | true =>
    obtain⟨k,c,h1,h2,h3⟩:=wu q;rw[Nat.zero_add]at h2;have hk:k<=i:=by
     by_cases hk:k<=i
     ·exact hk
     ·rw[above k (by lia)]at h2
      cases h2
    obtain⟨l6,hkc⟩:=List.getElem?_eq_some_iff.mp h1;obtain⟨c1,c2⟩:=aR.mp (List.mem_of_getElem? h1);have l1:=HP c1 c2 h3;have l2:c<=N.ay[i]:=by
     by_cases e:k=i
     ·subst e;exact Nat.le_of_eq hkc.symm
     ·rw[<-hkc];exact Nat.le_of_lt (List.pairwise_iff_getElem.mp EJ k i l6 xN (by lia))
    lia
 rw[BP,Nat.testBit_xor]at e0;cases h1:(N.cQ z N.ay 0).testBit j<;>cases h2:(N.cQ y N.ay 0).testBit j<;>rw[h1,h2]at e0<;>first | rfl | cases e0
theorem KY:N.cQ 0 N.ay 0=0:=by
 have h:=BP (N:=N) 0 0;rw[Nat.xor_self,Nat.xor_self]at h;exact h
theorem wA:∀{rs:List Nat},(∀ r∈rs,N.bS r/\r<2^N.n)->N.bS (xorL rs)/\xorL rs<2^N.n
 | [],_=>⟨bS.zero,Nat.two_pow_pos _⟩
 | r::l,h=>by
   rw[xorL_cons];obtain⟨h1,h2⟩:=wA fun x hx=>h x (List.mem_cons_of_mem _ hx)
   obtain⟨h3,h4⟩:=h r List.mem_cons_self;exact⟨bS.xor h3 h1,Nat.xor_lt_two_pow h4 h2⟩
theorem tO{d:Nat}(hd:N.iW d=false):∀{l:List Nat},l.Nodup->(∀ c∈l,N.iW c=false)->(xorL (l.map N.ring)).testBit d=decide (d∈l)
 | [],_,_=>by simp[xorL]
 | c::r,hn,hf=>by
   obtain⟨n1,n2⟩:=List.nodup_cons.mp hn;rw[List.map_cons,xorL_cons,Nat.testBit_xor,tO hd n2 fun e he=>hf e (List.mem_cons_of_mem _ he),dM (hf c List.mem_cons_self) hd]
   by_cases e:c=d
   ·subst e;simp[n1]
   ·have : ¬ d=c:=fun z=>e z.symm
    simp[e,this]
theorem EK{m:Nat}(hm:m<2^N.n)(ev:N.bS m):xorL ((N.ay.filter fun d=>m.testBit d).map N.ring)=m:=by
 have hx:N.bS (xorL ((N.ay.filter fun d=>m.testBit d).map N.ring))/\xorL ((N.ay.filter fun d=>m.testBit d).map N.ring)<2^N.n:=wA fun r hr=>by
  obtain⟨c,hc,rfl⟩:=List.mem_map.mp hr;obtain⟨c1,c2⟩:=aR.mp (List.mem_filter.mp hc).1;exact⟨fX c1,jX c1⟩
 refine gJ hx.2 hm hx.1 ev fun c hc hf=>?_
 rw[tO hf (List.Pairwise.filter _ my) fun d hd=>(aR.mp (List.mem_filter.mp hd).1).2]
 cases q:m.testBit c with
 | true=>exact decide_eq_true (List.mem_filter.mpr ⟨aR.mpr ⟨hc,hf⟩,q⟩)
 | false=>exact decide_eq_false fun z=>by rw[(List.mem_filter.mp z).2]at q;cases q
theorem mz{c:Nat}(hc:c<N.n)(hf:N.iW c=false):N.Ring (N.ring c):=by
 refine⟨fun z=>?_,fX hc,fun q hq ev=>?_⟩
 ·have h:=ou hf;rw[z]at h;simp at h
 ·have hqn:q<2^N.n:=bZ fun k hk=>bO (jX hc) (hq k hk)
  cases qc:q.testBit c with
  | true =>
    refine .inr (gJ hqn (jX hc) ev (fX hc) fun d hd hfd=>?_)
    rw[dM hf hfd]
    by_cases e:c=d
    ·subst e;simp[qc]
    ·rw[decide_eq_false e];cases qd:q.testBit d with
     | false=>rfl
     | true =>
       have:=hq d qd;rw[dM hf hfd,decide_eq_false e]at this;cases this
  | false =>
    refine .inl (fF (fun k hk=>?_) ev)
    rcases iL (hq k hk) with e|e
    ·subst e;rw[qc]at hk;cases hk
    ·exact e
end RM
namespace L2
open PySem PySem.Spec PyProof.Rows
section
variable {X:Cx}
theorem DI:∀{bs:List Bool} {its:List Value},Vals (bs.map V.bl) its->its=bs.map Value.bool
 | [],_,.nil=>rfl
 | b::bs,_,.cons r rr=>by
   cases r;rw[DI rr];rfl
theorem BQ:∀ bs:List Bool,((List.range bs.length).all fun i=>(bs[i]?).getD true)=bs.all id:=fun bs=>by
 rw[Bool.eq_iff_iff,List.all_eq_true,List.all_eq_true]
 constructor
 ·intro h b hb;obtain⟨i,hi,e⟩:=List.getElem_of_mem hb;have:=h i (List.mem_range.mpr hi);rw[List.getElem?_eq_getElem hi,e]at this;exact this
 ·intro h i hi;have hi:=List.mem_range.mp hi;rw[List.getElem?_eq_getElem hi];exact h _ (List.getElem_mem hi)
theorem Tv(K:bJ)(hc:X.calm=true)(hK:X.K=K:=by rfl):fg X (.builtin "all") (fun xs H Q=>∃(p:Addr) (bs:List Bool),xs=[.ref p]/\aL K H p (bs.map V.bl)/\Q (.bl (bs.all id)) H):=by
 subst hK;intro pins s σ H xs us Q I r h;obtain⟨p,bs,rfl,hq,q⟩:=h;obtain⟨u,rfl,rx⟩:=vals1 r;cases rx;obtain⟨its,rv,pl,hz⟩:=I.list hq;obtain rfl:=DI rv;have lt:p<s.heap.objs.size:=by obtain⟨_,e,_⟩:=pl.isList;exact Heap.lt_size e
 refine call_all_walk (wpAny_pyIter_list pl.isList ⟨_,[_,p],[_],_,_,_,fun i=>(bs[i]?).getD true,rfl,Walks.list (A:=X.A.in1) (I.ok.hd hc) _ p (Nat.ne_of_lt lt) _,
  ⟨⟨_,Heap.get?_push_size _ rfl,rfl,rfl⟩,pl.isList.push _⟩,fun i v s' Q' E' hP hQ=>?_,fun h' tk hk=>?_⟩)
 ·have hP:(bs.map Value.bool)[i]?=some v:=by simpa using hP
  rw[List.getElem?_map]at hP;obtain⟨b,e,rfl⟩:=Option.map_eq_some_iff.mp hP;simp only[e,Option.getD_some]at hQ;exact wpAny_truthy_bool hQ
 ·have z:(bs.map Value.bool).toArray.size=bs.length:=by simp
  rw[z,BQ];refine⟨.bl _,H,I.kept fun b o e=>hk b o (fun hm=>?_) (Heap.get?_push_of_some _ e),rfl,q⟩
  rw[List.mem_singleton.mp hm]at e;exact Nat.lt_irrefl _ (Heap.lt_size e)
end
end L2
namespace RM
def lsum(L:Nat->Int)(f:Nat->Bool):Nat->Int
 | 0=>0
 | n+1=>lsum L f n+(if f n=true then L n else 0)
section
variable {L:Nat->Int}
theorem nv{f g:Nat->Bool}:∀{n:Nat},(∀ k,k<n->f k=g k)->lsum L f n=lsum L g n
 | 0,_=>rfl
 | n+1,h=>by
   unfold lsum;rw[nv fun k hk=>h k (by lia),h n (by lia)]
theorem pX{f:Nat->Bool}:∀{n:Nat},(∀ k,k<n->f k=false)->lsum L f n=0
 | 0,_=>rfl
 | n+1,h=>by
   unfold lsum;rw[pX fun k hk=>h k (by lia),h n (by lia)]
   simp
theorem zR{f:Nat->Bool}{a:Nat}:∀{n:Nat},a<n->(∀ k,k<n->f k=decide (k=a))->lsum L f n=L a
 | 0,h,_=>by lia
 | n+1,ha,h=>by
   unfold lsum
   by_cases e:a=n
   ·subst e;rw[pX fun k hk=>by rw[h k (by lia)];exact decide_eq_false (by lia),h a (by lia),decide_eq_true rfl]
    simp
   ·rw[zR (show a<n by lia) fun k hk=>h k (by lia),h n (by lia),decide_eq_false (by lia)]
    simp
theorem pY{f g:Nat->Bool}:∀{n:Nat},(∀ k,k<n->0<=L k)->(∀ k,k<n->f k=true->g k=true)->lsum L f n<=lsum L g n
 | 0,_,_=>Int.le_refl _
 | n+1,hL,h=>by
   unfold lsum;have ih:=pY (n:=n) (fun k hk=>hL k (by lia)) fun k hk=>h k (by lia)
   have h0:=hL n (by lia)
   have hn:=h n (by lia)
   cases hf:f n with
   | false=>cases g n<;>simp<;>lia
   | true=>rw[hn hf];simp;lia
theorem zS{f g:Nat->Bool}:∀{n:Nat},(∀ k,k<n->0<=L k)->lsum L (fun k=>f k^^g k) n<=lsum L f n+lsum L g n
 | 0,_=>Int.le_refl _
 | n+1,hL=>by
   unfold lsum;have ih:=zS (f:=f) (g:=g) (n:=n) fun k hk=>hL k (by lia)
   have h0:=hL n (by lia)
   cases f n<;>cases g n<;>simp<;>lia
theorem tP{f g:Nat->Bool}:∀{n:Nat},(∀ k,k<n->f k=true->g k=false)->lsum L (fun k=>f k^^g k) n=lsum L f n+lsum L g n
 | 0,_=>rfl
 | n+1,h=>by
   unfold lsum;rw[tP (f:=f) (g:=g) (n:=n) fun k hk=>h k (by lia)]
   have hn:=h n (by lia)
   cases hf:f n with
   | false=>cases g n<;>simp<;>lia
   | true=>rw[hn hf];simp;lia
theorem tQ{k n:Nat}(h:k<n):lsum L (fun j=>(2^k).testBit j) n=L k:=zR h fun j _=>by
 rw[Nat.testBit_two_pow];exact decide_eq_decide.mpr eq_comm
end
theorem ny{m n k:Nat}(h:m<2^n)(hb:m.testBit k=true):k<n:=by
 apply Classical.byContradiction;intro hk;rw[Nat.testBit_lt_two_pow (Nat.lt_of_lt_of_le h (Nat.pow_le_pow_right (by decide) (by lia)))]at hb
 cases hb
def cd(x:Nat)(s:Bool):Nat:=2*x+s.toNat
def Jn(N:Net)(k v w:Nat):Prop:=(N.a k=v/\N.b k=w)\/(N.b k=v/\N.a k=w)
theorem Jn.lt{N:Net}{k v w:Nat}(hk:k<N.n)(h:Jn N k v w):w<N.p:=by
 rcases h with⟨_,rfl⟩|⟨_,rfl⟩
 ·exact N.bl k hk
 ·exact N.al k hk
inductive Wl(N:Net)(L:Nat->Int)(m u:Nat):List Nat->Nat->Bool->Int->Nat->Prop
 | nil:Wl N L m u [] u false 0 0
 | go {pre:List Nat} {v w k e:Nat} {s:Bool} {z:Int} (h:Wl N L m u pre v s z e) (hk:k<N.n) (hj:Jn N k v w):Wl N L m u (pre++[cd v s]) w (s^^m.testBit k) (z+L k) (e^^^2^k)
def Wy(N:Net)(L:Nat->Int)(m u x:Nat)(s:Bool)(z:Int):Prop:=∃ pre e,Wl N L m u pre x s z e
section
variable {N:Net}{L:Nat->Int}{m u:Nat}
theorem oF(hL:∀ k,k<N.n->0<=L k)(hu:u<N.p){pre:List Nat}{v e:Nat}{s:Bool}{z:Int}(h:Wl N L m u pre v s z e):
 v<N.p/\e<2^N.n/\(∀ x,N.bd e x=(decide (u=x)^^decide (v=x)))/\N.par e m=s/\lsum L (fun k=>e.testBit k) N.n<=z/\0<=z:=by
 induction h with
 | nil =>
   refine⟨hu,Nat.two_pow_pos _,fun x=>?_,jK m,?_,Int.le_refl _⟩
   ·rw[l7];cases decide (u=x)<;>rfl
   ·rw[pX fun k _=>Nat.zero_testBit k]
    exact Int.le_refl _
 | @go pre v w k e s z h hk hj ih =>
   obtain⟨i1,i2,i3,i4,i5,i6⟩:=ih;have h0:=hL k hk;refine⟨hj.lt hk,Nat.xor_lt_two_pow i2 (Nat.pow_lt_pow_right (by decide) hk),fun x=>?_,?_,?_,by lia⟩
   ·rw[fc,i3,jW hk];unfold Net.inc;rcases hj with⟨rfl,rfl⟩|⟨rfl,rfl⟩
    ·cases decide (u=x)<;>cases decide (N.a k=x)<;>cases decide (N.b k=x)<;>rfl
    ·cases decide (u=x)<;>cases decide (N.a k=x)<;>cases decide (N.b k=x)<;>rfl
   ·rw[mw,i4,Dz hk]
   ·have:=zS (L:=L) (f:=fun j=>e.testBit j) (g:=fun j=>(2^k).testBit j) hL
    rw[tQ hk]at this;rw[nv (g:=fun j=>e.testBit j^^(2^k).testBit j) fun j _=>Nat.testBit_xor ..]
    lia
def HQ(N:Net)(L:Nat->Int)(m u x:Nat)(s:Bool):Option Int->Prop
 | none=>∀ z,¬ Wy N L m u x s z
 | some d=>Wy N L m u x s d/\∀ z,Wy N L m u x s z->d<=z
theorem oG(hL:∀ k,k<N.n->0<=L k)(m:Nat){r:Nat}(hr:N.Ring r)(hm:r<2^N.n):∃ x,x<N.p/\Wy N L m x x (N.par r m) (lsum L (fun k=>r.testBit k) N.n):=by
 obtain⟨t0,hb⟩:∃ t0,r.testBit t0=true:=by
  apply Classical.byContradiction;intro h;exact hr.1 (Nat.eq_of_testBit_eq fun i=>by
   rw[Nat.zero_testBit];cases e:r.testBit i with
   | false=>rfl
   | true=>exact absurd ⟨i,e⟩ h)
 have RO:t0<N.n:=ny hm hb;obtain⟨acc,v,w⟩:=EF hm hr hb;have key:∀{acc v left},Wk N r t0 acc v left->(∀ k,left.testBit k=true->r.testBit k=true)/\∃ pre s,Wl N L m (N.a t0) pre v s (lsum L (fun k=>(r^^^left).testBit k) N.n) (r^^^left):=by
  intro acc v left w
  induction w with
  | start =>
    have e:r^^^(r^^^2^t0)=2^t0:=by rw[<-Nat.xor_assoc,Nat.xor_self,Nat.zero_xor]
    refine⟨fun k hk=>?_,[]++[cd (N.a t0) false],false^^m.testBit t0,?_⟩
    ·rw[Nat.testBit_xor,Nat.testBit_two_pow]at hk
     by_cases e:t0=k
     ·rw[<-e];exact hb
     ·rw[decide_eq_false e,Bool.xor_false]at hk;exact hk
    ·rw[e,tQ RO];have:=Wl.go (m:=m) (L:=L) (.nil (u:=N.a t0)) RO (.inl ⟨rfl,rfl⟩)
     rwa [Int.zero_add,Nat.zero_xor]at this
  | @next acc v left t w h0 ht ih =>
    obtain⟨sub,pre,s,wl⟩:=ih;have hm2:=iO.mp (List.mem_of_getElem? ht);have htr:=sub t hm2.2.1;have LW:=ny hm htr;refine⟨fun k hk=>?_,pre++[cd v s],s^^m.testBit t,?_⟩
    ·rw[Nat.testBit_xor,Nat.testBit_two_pow]at hk
     by_cases e:t=k
     ·rw[<-e];exact htr
     ·rw[decide_eq_false e,Bool.xor_false]at hk;exact sub k hk
    ·have e:r^^^(left^^^2^t)=r^^^left^^^2^t:=by rw[Nat.xor_assoc]
     have hs:lsum L (fun k=>(r^^^left^^^2^t).testBit k) N.n=lsum L (fun k=>(r^^^left).testBit k) N.n+L t:=by
      rw[nv (g:=fun j=>(r^^^left).testBit j^^(2^t).testBit j) fun j _=>Nat.testBit_xor ..,tP,tQ LW]
      intro k _ hk;rw[Nat.testBit_two_pow];refine decide_eq_false fun e=>?_
      subst e;rw[Nat.testBit_xor,htr,hm2.2.1]at hk;cases hk
     rw[e,hs];exact wl.go LW (zP hm2.2.2)
 obtain⟨_,pre,s,wl⟩:=key w;rw[Nat.xor_zero]at wl;have f:=oF hL (N.al t0 RO) wl;have hv:N.a t0=v:=by
  have:=f.2.2.1 v;rw[hr.2.1 v f.1,decide_eq_true (rfl:v=v)]at this;cases h:decide (N.a t0=v) with
  | true=>exact of_decide_eq_true h
  | false=>rw[h]at this;cases this
 refine⟨N.a t0,N.al t0 RO,pre,r,?_⟩;have hs:=f.2.2.2.1;rw[hs];rw[<-hv]at wl;exact wl
theorem BR{m:Nat}:∀(c e:Nat),cnt (fun k=>e.testBit k) N.n=c->e<2^N.n->N.bS e->N.par e m=true->∃ r,N.Ring r/\(∀ k,r.testBit k=true->e.testBit k=true)/\N.par r m=true:=by
 intro c
 induction c using Nat.strongRecOn with
 | _ c ih =>
   intro e hc he ev hp
   by_cases hr:N.Ring e
   ·exact⟨e,hr,fun _ h=>h,hp⟩
   have h0:e≠0:=fun z=>by rw[z,jK]at hp;cases hp
   obtain⟨q,hq,Ot,q0,qe⟩:∃ q,(∀ k,q.testBit k=true->e.testBit k=true)/\N.bS q/\q≠0/\q≠e:=by
    apply Classical.byContradiction;intro h;refine hr ⟨h0,ev,fun q hq Ot=>?_⟩
    apply Classical.byContradiction;intro h2;exact h ⟨q,hq,Ot,fun z=>h2 (.inl z),fun z=>h2 (.inr z)⟩
   have small:∀ q,(∀ k,q.testBit k=true->e.testBit k=true)->q≠e->cnt (fun k=>q.testBit k) N.n<c:=by
    intro q hq qe;have h1:=xH (f:=fun k=>q.testBit k) (g:=fun k=>e.testBit k) (n:=N.n) fun k _ h=>hq k h
    have h2:cnt (fun k=>q.testBit k) N.n≠cnt (fun k=>e.testBit k) N.n:=fun h=>qe (Nat.eq_of_testBit_eq fun k=>by
     by_cases hk:k<N.n
     ·have:=zD (f:=fun k=>q.testBit k) (g:=fun k=>e.testBit k) (fun k _ h=>hq k h) h k hk
      cases h3:e.testBit k with
      | true=>exact this h3
      | false=>cases h4:q.testBit k with
        | false=>rfl
        | true=>rw[hq k h4]at h3;cases h3
     ·cases h3:e.testBit k with
      | true=>exact absurd (ny he h3) hk
      | false=>cases h4:q.testBit k with
        | false=>rfl
        | true=>rw[hq k h4]at h3;cases h3)
    lia
   have lt:∀ q,(∀ k,q.testBit k=true->e.testBit k=true)->q<2^N.n:=fun q hq=>bZ fun k hk=>ny he (hq k hk)
   have hq2:∀ k,(e^^^q).testBit k=true->e.testBit k=true:=fun k hk=>by
    rw[Nat.testBit_xor]at hk;cases h3:e.testBit k with
    | true=>rfl
    | false =>
      cases h4:q.testBit k with
      | false=>rw[h3,h4]at hk;cases hk
      | true=>rw[hq k h4]at h3;cases h3
   have fin:∀ q,(∀ k,q.testBit k=true->e.testBit k=true)->q≠e->N.bS q->N.par q m=true->∃ r,N.Ring r/\(∀ k,r.testBit k=true->e.testBit k=true)/\N.par r m=true:=by
    intro q hq qe Ot hpq;obtain⟨r,h1,h2,h3⟩:=ih _ (small q hq qe) q rfl (lt q hq) Ot hpq;exact⟨r,h1,fun k hk=>hq k (h2 k hk),h3⟩
   cases hpq:N.par q m with
   | true=>exact fin q hq qe Ot hpq
   | false =>
     refine fin (e^^^q) hq2 (fun z=>q0 ?_) (bS.xor ev Ot) (by rw[mw,hp,hpq];rfl)
     have:e^^^(e^^^q)=e^^^e:=by rw[z]
     rwa [<-Nat.xor_assoc,Nat.xor_self,Nat.zero_xor]at this
end
end RM
namespace Ring
open PySem L2
def bz(ts:List c5)(k:Nat):Int:=(bN ts k).2.2
theorem wB(ts:List c5)(f:Nat->Bool):∀ n,Eo ts f n=RM.lsum (bz ts) f n
 | 0=>rfl
 | n+1=>by
   show Eo ts f n+_=RM.lsum (bz ts) f n+_;rw[wB ts f n];rfl
theorem BS{ts:List c5}{m:Nat}(hm:m<2^ts.length):lenOf ts m=RM.lsum (bz ts) (fun k=>m.testBit k) ts.length:=by
 rw[Ep hm,wB]
theorem wC{p:Nat}{ts:List c5}(g:aD p ts):∀ k,k<g.N.n->0<=bz ts k:=fun k hk=>by
 have:=(g.xE _ (fj hk)).l0;unfold bz
 lia
structure BU(H0:Hp)(D:Addr)(es:List Addr)(F:Nat->Bool->Option Int)(H:Hp):Prop where
 same:aq H0 H
 nd:es.Nodup
 ne:D∉es
 fr:∀ b∈es,H0 b=none
 Dn:H0 D=none
 lst:H D=some (.lst (es.map V.ref))
 at_:∀ i b,es[i]?=some b->H b=some (.lst [oV (F i false),oV (F i true)])
theorem BU.go{H0 H H' : Hp}{D:Addr}{es:List Addr}{F:Nat->Bool->Option Int}(h:BU H0 D es F H)(s:aq H H'):BU H0 D es F H' :=
 ⟨h.same.trans s,h.nd,h.ne,h.fr,h.Dn,s _ _ h.lst,fun i b e=>s _ _ (h.at_ i b e)⟩
theorem BU.off{H0 H:Hp}{D L:Addr}{es:List Addr}{F:Nat->Bool->Option Int}(h:BU H0 D es F H)(hL:H L=none):L∉es:=fun z=>by
 obtain⟨j,hj⟩:=List.getElem?_of_mem z;have:=h.at_ j L hj;rw[hL]at this;cases this
def zT(H0:Hp)(D:Addr)(i:Nat)(acc:List V)(H:Hp):Prop:=∃ es,acc=es.map V.ref/\es.length=i/\BU H0 D es (fun _ _=>none) H
theorem zT.start{H0:Hp}{D:Addr}(hD:H0 D=none):zT H0 D 0 [] (upd H0 D (.lst [])) :=
 ⟨[],rfl,rfl,aq.new hD,List.nodup_nil,List.not_mem_nil,fun _ h=>(List.not_mem_nil h).elim,hD,ae,fun i b e=>by cases e⟩
theorem zT.len{H0 H:Hp}{D:Addr}{i:Nat}{acc:List V}(h:zT H0 D i acc H):H D=some (.lst acc)/\acc.length<=i:=by
 obtain⟨es,rfl,e,r⟩:=h;exact⟨r.lst,by rw[List.length_map];lia⟩
theorem zT.next{H0 H:Hp}{D b:Addr}{i:Nat}{acc:List V}(h:zT H0 D i acc H)(hb:H b=none):upd H b (.lst [.dR,.dR]) D=some (.lst acc)/\zT H0 D (i+1) (acc++[.ref b]) (upd (upd H b (.lst [.dR,.dR])) D (.lst (acc++[.ref b]))):=by
 obtain⟨es,rfl,e,r⟩:=h;have Nk:D≠b:=fun z=>by
  have:=r.lst;rw[z,hb]at this;cases this
 have hbn:b∉es:=r.off hb;have hb0:H0 b=none:=r.same.free hb;refine⟨by rw[aj Nk];exact r.lst,es++[b],by simp,by simp[e],(r.same.put hb0).put r.Dn,?_,?_,fun c hc=>?_,r.Dn,by rw[ae];simp,fun j c hc=>?_⟩
 ·exact List.nodup_append.mpr ⟨r.nd,by simp,fun x hx y hy=>by rw[List.mem_singleton.mp hy];exact fun z=>hbn (z▸hx)⟩
 ·intro hm;rcases List.mem_append.mp hm with z|z
  ·exact r.ne z
  ·exact Nk (List.mem_singleton.mp z)
 ·rcases List.mem_append.mp hc with z|z
  ·exact r.fr c z
  ·rw[List.mem_singleton.mp z];exact hb0
 ·have Tw:c≠D:=fun z=>by
   subst z;rcases List.mem_append.mp (List.mem_of_getElem? hc) with z|z
   ·exact r.ne z
   ·exact Nk (List.mem_singleton.mp z)
  rw[aj Tw]
  by_cases ec:c=b
  ·rw[ec,ae];rfl
  ·rw[aj ec]
   by_cases hj:j<es.length
   ·rw[List.getElem?_append_left hj]at hc;exact r.at_ j c hc
   ·rw[List.getElem?_append_right (by lia)]at hc
    have:=List.mem_of_getElem? hc;exact absurd (List.mem_singleton.mp this) ec
def kR(F:Nat->Bool->Option Int)(p:Nat):List Pr:=(List.range p).map fun i=>(F i false,F i true)
theorem Nl{F:Nat->Bool->Option Int}{p x:Nat}(h:x<p)(s:Bool):sel (KQ (kR F p) x) s=F x s:=by
 unfold KQ kR;rw[List.getD_eq_getElem?_getD,List.getElem?_map,List.getElem?_range h];cases s<;>rfl
theorem HR(F:Nat->Bool->Option Int)(i:Nat):kR F (i+1)=kR F i++[(F i false,F i true)]:=by
 unfold kR;rw[List.range_succ,List.map_append];rfl
theorem DJ(F:Nat->Bool->Option Int)(i:Nat):(kR F i).length=i:=by
 unfold kR;rw[List.length_map,List.length_range]
end Ring
namespace RM
variable {N:Net}{L:Nat->Int}{m u:Nat}
end RM
namespace Ring
open PySem L2
variable {p:Nat}{ts:List c5}{g:aD p ts}{m:Nat}{W:List (List Pr)}
def Qi(p:Nat)(ts:List c5)(g:aD p ts)(m:Nat)(W:List (List Pr)):Prop:=∀ i,i<p->∀ x s,x<p->RM.HQ g.N (bz ts) m i x s (sel (KQ (W.getD i []) x) s)
end Ring
namespace RM
open Ring (maskOf mask_bit mask_lt)
theorem fk{a b:Nat}(h:a^^^b=0):a=b:=by
 have:=congrArg (fun y=>y^^^b) h
 simp only[Nat.zero_xor]at this
 rwa [Nat.xor_assoc,Nat.xor_self,Nat.xor_zero]at this
def comb:List Nat->Nat->Nat
 | [],_=>0
 | b::B,z=>(if z.testBit 0=true then b else 0)^^^comb B (z/2)
theorem HS(a b c d:Nat):(a^^^b)^^^(c^^^d)=(a^^^c)^^^(b^^^d):=Nat.eq_of_testBit_eq fun i=>by
 simp only[Nat.testBit_xor];cases a.testBit i<;>cases b.testBit i<;>cases c.testBit i<;>cases d.testBit i<;>rfl
theorem HU(z y:Nat):(z^^^y)/2=z/2^^^y/2:=Nat.eq_of_testBit_eq fun i=>by
 rw[Nat.testBit_xor,<-Nat.testBit_succ,<-Nat.testBit_succ,<-Nat.testBit_succ,Nat.testBit_xor]
theorem iP:∀(B:List Nat) (z y:Nat),comb B (z^^^y)=comb B z^^^comb B y
 | [],_,_=>by simp[comb]
 | b::B,z,y=>by
   unfold comb;rw[HU,iP B,Nat.testBit_xor,HS]
   congr 1
   cases z.testBit 0<;>cases y.testBit 0<;>simp
theorem jL:∀(B:List Nat),comb B 0=0
 | []=>rfl
 | b::B=>by
   unfold comb;rw[Nat.zero_testBit,show 0/2=0 from rfl,jL B]
   simp
theorem HV(i:Nat):2^(i+1)/2=2^i:=by
 rw[Nat.pow_succ,Nat.mul_div_cancel _ (by decide)]
theorem tR:∀{B:List Nat} {i b:Nat},B[i]?=some b->comb B (2^i)=b
 | [],i,b,h=>by simp at h
 | b'::B,0,b,h=>by
   have:b' = b:=by simpa using h
   subst this;unfold comb;rw[show(2^0:Nat).testBit 0=true from rfl,if_pos rfl,show(2^0:Nat)/2=0 from rfl,jL,Nat.xor_zero]
 | b'::B,i+1,b,h=>by
   unfold comb;have h0:(2^(i+1)).testBit 0=false:=by rw[Nat.testBit_two_pow];simp
   rw[h0,if_neg (by decide),Nat.zero_xor,HV]
   exact tR (B:=B) h
theorem gf:∀(B:List Nat) (b z:Nat),comb (B++[b]) z=comb B z^^^(if z.testBit B.length=true then b else 0)
 | [],b,z=>by
   show(if z.testBit 0=true then b else 0)^^^0=0^^^_
   rw[Nat.xor_zero,Nat.zero_xor];rfl
 | b'::B,b,z=>by
   show(if z.testBit 0=true then b' else 0)^^^comb (B++[b]) (z/2)=((if z.testBit 0=true then b' else 0)^^^comb B (z/2))^^^_
   rw[gf B b (z/2),Nat.xor_assoc,<-Nat.testBit_succ];rfl
theorem pZ:∀(B:List Nat) {z:Nat},(∀ i,i<B.length->z.testBit i=false)->comb B z=0
 | [],_,_=>rfl
 | b::B,z,h=>by
   unfold comb;rw[h 0 (by simp),if_neg (by decide),Nat.zero_xor]
   exact pZ B fun i hi=>by rw[<-Nat.testBit_succ];exact h (i+1) (by simp;lia)
theorem mC(B:List Nat):∀ z,Sp B (comb B z):=by
 induction B with
 | nil=>intro z;exact .zero
 | cons b B ih =>
   intro z;have h:Sp (b::B) (comb B (z/2)):=(ih (z/2)).mono fun c hc=>.mem (List.mem_cons_of_mem _ hc)
   unfold comb;rw[Nat.xor_comm]
   by_cases e:z.testBit 0=true
   ·rw[if_pos e];exact h.add List.mem_cons_self
   ·rw[if_neg e,Nat.xor_zero];exact h
theorem oH{B:List Nat}{x:Nat}(h:Sp B x):∃ z,z<2^B.length/\comb B z=x:=by
 induction h with
 | zero=>exact⟨0,Nat.two_pow_pos _,jL B⟩
 | add h hb ih =>
   obtain⟨z,hz,e⟩:=ih;obtain⟨i,hi⟩:=List.getElem?_of_mem hb;have xN:=(List.getElem?_eq_some_iff.mp hi).1;exact⟨z^^^2^i,Nat.xor_lt_two_pow hz (Nat.pow_lt_pow_right (by decide) xN),by rw[iP,e,tR hi]⟩
def wF(B:List Nat):Prop:=∀ z,z<2^B.length->comb B z=0->z=0
def HW(B:List Nat):Prop:=∀ i b,B[i]?=some b->¬ Sp (B.take i) b
theorem lC{B:List Nat}{b:Nat}:wF (B++[b])↔wF B/\¬ Sp B b:=by
 have hl:(B++[b]).length=B.length+1:=by simp
 constructor
 ·intro h;refine⟨fun z hz e=>h z ?_ ?_,fun hs=>?_⟩
  ·rw[hl,Nat.pow_succ];lia
  ·rw[gf,e,Nat.testBit_lt_two_pow hz];simp
  ·obtain⟨y,hy,e⟩:=oH hs;have hlt:2^B.length<2^(B.length+1):=Nat.pow_lt_pow_right (by decide) (by lia)
   have:=h (y^^^2^B.length) (by rw[hl];exact Nat.xor_lt_two_pow (by lia) hlt) (by
    have h1:(y^^^2^B.length).testBit B.length=true:=by
     rw[Nat.testBit_xor,Nat.testBit_lt_two_pow hy,Nat.testBit_two_pow_self];rfl
    have h2:comb B (2^B.length)=0:=pZ B fun i hi=>by
     rw[Nat.testBit_two_pow];exact decide_eq_false (by lia)
    rw[gf,h1,if_pos rfl,iP,h2,e,Nat.xor_zero,Nat.xor_self])
   have h3:(y^^^2^B.length).testBit B.length=false:=by rw[this,Nat.zero_testBit]
   rw[Nat.testBit_xor,Nat.testBit_lt_two_pow hy,Nat.testBit_two_pow_self]at h3;cases h3
 ·rintro⟨h,hs⟩ z hz e;rw[gf]at e
  by_cases hb:z.testBit B.length=true
  ·rw[if_pos hb]at e;have e2:comb B z=b:=by
    have:=congrArg (fun y=>y^^^b) e
    simp only[gb,Nat.zero_xor]at this;exact this
   exact absurd (e2▸mC B z) hs
  ·rw[if_neg hb,Nat.xor_zero]at e;refine h z ?_ e;refine bZ fun k hk=>?_
   have:=bO hz hk;rw[hl]at this;have:k≠B.length:=fun e=>hb (e▸hk)
   lia
theorem p5{B:List Nat}{b:Nat}:HW (B++[b])↔HW B/\¬ Sp B b:=by
 constructor
 ·intro h;refine⟨fun i c hc=>?_,?_⟩
  ·have hi:=(List.getElem?_eq_some_iff.mp hc).1;have:=h i c (by rw[List.getElem?_append_left hi];exact hc)
   rwa [List.take_append_of_le_length (Nat.le_of_lt hi)]at this
  ·have:=h B.length b (by simp)
   rwa [List.take_left' rfl]at this
 ·rintro⟨h,hs⟩ i c hc
  by_cases hi:i<B.length
  ·rw[List.getElem?_append_left hi]at hc;rw[List.take_append_of_le_length (Nat.le_of_lt hi)];exact h i c hc
  ·have hl:=(List.getElem?_eq_some_iff.mp hc).1;have e:i=B.length:=by simp at hl;lia
   subst e;rw[List.getElem?_append_right (Nat.le_refl _),Nat.sub_self]at hc;have:b=c:=by simpa using hc
   subst this;rw[List.take_left' rfl];exact hs
theorem take_snoc{B:List Nat}{i b:Nat}(h:B[i]?=some b):B.take (i+1)=B.take i++[b]:=by
 rw[List.take_add_one,h];rfl
theorem xT(B:List Nat):wF B↔HW B:=by
 have key:∀ n,n<=B.length->(wF (B.take n)↔HW (B.take n)):=by
  intro n
  induction n with
  | zero=>exact fun _=>⟨fun _ i b h=>by simp at h,fun _ z hz _=>by simp at hz;exact hz⟩
  | succ n ih =>
    intro hn;have hb:B[n]?=some B[n]:=List.getElem?_eq_getElem hn;rw[take_snoc hb,lC,p5,ih (by lia)]
 have:=key B.length (Nat.le_refl _)
 rwa [List.take_length]at this
theorem tS(B:List Nat)(h:wF B){z y:Nat}(hz:z<2^B.length)(hy:y<2^B.length)(e:comb B z=comb B y):z=y:=by
 have:=h (z^^^y) (Nat.xor_lt_two_pow hz hy) (by rw[iP,e,Nat.xor_self])
 exact fk this
section
variable {N:Net}
theorem wG{B:List Nat}(h:∀ b∈B,N.bS b/\b<2^N.n)(z:Nat):N.bS (comb B z)/\comb B z<2^N.n:=by
 have hs:=mC B z;refine⟨?_,hs.lt fun b hb=>(h b hb).2⟩
 generalize comb B z=x at hs
 induction hs with
 | zero=>exact bS.zero
 | add _ hb ih=>exact bS.xor ih (h _ hb).1
theorem r6{f:Nat->Nat}{a b:Nat}(hf:∀ z,z<2^a->f z<2^b)(inj:∀ z y,z<2^a->y<2^a->f z=f y->z=y):a<=b:=by
 have nd:((List.range (2^a)).map f).Nodup:=by
  refine List.pairwise_map.mpr ?_;refine List.Pairwise.imp_of_mem (fun {z y} hz hy hne e=>?_) List.nodup_range
  exact hne (inj z y (List.mem_range.mp hz) (List.mem_range.mp hy) e)
 have:=Hl nd fun x hx=>by
  obtain⟨z,hz,rfl⟩:=List.mem_map.mp hx;exact hf z (List.mem_range.mp hz)
 rw[List.length_map,List.length_range]at this;exact(Nat.pow_le_pow_iff_right (by decide)).mp this
def meets(ks:List Nat)(m:Nat):Nat:=maskOf (fun i=>m.testBit (ks.getD i 0)) ks.length
theorem zU(ks:List Nat)(m:Nat):meets ks m<2^ks.length:=mask_lt _ _
theorem wH{ks:List Nat}{m i k:Nat}(h:ks[i]?=some k):(meets ks m).testBit i=m.testBit k:=by
 unfold meets;rw[mask_bit,List.getD_eq_getElem?_getD,h,decide_eq_true (List.getElem?_eq_some_iff.mp h).1];rfl
theorem HX{B:List Nat}(hi:wF B)(h:∀ b∈B,N.bS b/\b<2^N.n):B.length<=N.ay.length:=by
 refine r6 (f:=fun z=>meets N.ay (comb B z)) (fun z _=>zU _ _) fun z y hz hy e=>tS B hi hz hy ?_
 have h1:=wG h z;have h2:=wG h y;refine fk (fF (N:=N) (fun k hk=>?_) (bS.xor h1.1 h2.1))
 have hkn:=bO (Nat.xor_lt_two_pow h1.2 h2.2) hk;refine⟨hkn,?_⟩;cases hf:N.iW k with
 | true=>rfl
 | false =>
   obtain⟨j,hj⟩:=List.getElem?_of_mem (aR.mpr ⟨hkn,hf⟩);have e:meets N.ay (comb B z)=meets N.ay (comb B y):=e;have:=congrArg (fun x=>x.testBit j) e
   simp only[wH hj]at this;rw[Nat.testBit_xor,this,Bool.xor_self]at hk;cases hk
theorem KZ{ks:List Nat}(h:∀ m,m<2^N.n->N.bS m->(∀ k∈ks,m.testBit k=false)->m=0):N.ay.length<=ks.length:=by
 refine r6 (f:=fun z=>meets ks (N.cQ z N.ay 0)) (fun z _=>zU _ _) fun z y hz hy e=>?_
 have h1:=l8 (N:=N) (number:=z) (l:=N.ay) (i:=0) fun c hc=>(aR.mp hc).1
 have h2:=l8 (N:=N) (number:=y) (l:=N.ay) (i:=0) fun c hc=>(aR.mp hc).1
 have e0:N.cQ z N.ay 0=N.cQ y N.ay 0:=fk (h _ (Nat.xor_lt_two_pow h1.2 h2.2) (bS.xor h1.1 h2.1) fun k hk=>by
  obtain⟨j,hj⟩:=List.getElem?_of_mem hk;have e:meets ks (N.cQ z N.ay 0)=meets ks (N.cQ y N.ay 0):=e;have:=congrArg (fun x=>x.testBit j) e
  simp only[wH hj]at this;rw[Nat.testBit_xor,this,Bool.xor_self])
 refine Nat.eq_of_testBit_eq fun j=>?_
 by_cases hj:j<N.ay.length
 ·have hc:N.ay[j]?=some N.ay[j]:=List.getElem?_eq_getElem hj;rw[<-jY hc,<-jY hc,e0]
 ·rw[Nat.testBit_lt_two_pow (Nat.lt_of_lt_of_le hz (Nat.pow_le_pow_right (by decide) (by lia))),Nat.testBit_lt_two_pow (Nat.lt_of_lt_of_le hy (Nat.pow_le_pow_right (by decide) (by lia)))]
structure Base(N:Net)(rs:List Nat):Prop where
 len:rs.length=N.ay.length
 ring:∀ r∈rs,N.Ring r/\r<2^N.n
 ind:wF rs
open Classical in
end
abbrev Row3:=Nat×Nat×Nat
def two(q:Row3):Nat×Nat:=(q.1,q.2.1)
def b9(rows:List Row3)(x u:Nat):Nat×Nat:=rows.foldl (fun s q=>if s.1.testBit q.1=true then(s.1^^^q.2.1,s.2^^^q.2.2) else s) (x,u)
theorem p7(q:Row3)(rows:List Row3)(x u:Nat):b9 (q::rows) x u=if x.testBit q.1=true then b9 rows (x^^^q.2.1) (u^^^q.2.2) else b9 rows x u:=by
 unfold b9;rw[List.foldl_cons]
 by_cases h:x.testBit q.1=true
 ·rw[if_pos h,if_pos h]
 ·rw[if_neg h,if_neg h]
theorem lD:∀(rows:List Row3) (x u:Nat),(b9 rows x u).1=gU (rows.map two) x
 | [],_,_=>rfl
 | q::rows,x,u=>by
   rw[p7];show _=gU (rows.map two) (if x.testBit q.1=true then x^^^q.2.1 else x)
   by_cases h:x.testBit q.1=true
   ·rw[if_pos h,if_pos h];exact lD rows _ _
   ·rw[if_neg h,if_neg h];exact lD rows _ _
def uZ(rows:List Row3)(a:Row3):List Row3:=a::rows.map fun q=>if q.2.1.testBit a.1=true then(q.1,q.2.1^^^a.2.1,q.2.2^^^a.2.2) else q
structure Rw(B:List Nat)(rows:List Row3):Prop where
 own:∀ q∈rows,q.2.1.testBit q.1=true
 EL:rows.Pairwise fun q q'=>q'.2.1.testBit q.1=false/\q.2.1.testBit q'.1=false
 LX:∀ q∈rows,q.2.2<2^B.length/\comb B q.2.2=q.2.1
 span:∀ b∈B,Sp (rows.map fun q=>q.2.1) b
 le:rows.length<=B.length
 len:rows.length=B.length↔wF B
section
variable {B:List Nat}{rows:List Row3}
theorem Rw.start:Rw [] []:=⟨(fun q hq=>nomatch hq),.nil,(fun q hq=>nomatch hq),(fun b hb=>nomatch hb),Nat.le_refl _,⟨fun _ z hz _=>by simp at hz;exact hz,fun _=>rfl⟩⟩
theorem Nm(own:∀ q∈rows,q.2.1.testBit q.1=true)(EL:rows.Pairwise fun q q'=>q'.2.1.testBit q.1=false/\q.2.1.testBit q'.1=false):HM (rows.map two):=by
 induction rows with
 | nil=>exact .nil
 | cons q rows ih =>
   obtain⟨h1,h2⟩:=List.pairwise_cons.mp EL;refine .cons (ih (fun q' hq=>own q' (List.mem_cons_of_mem _ hq)) h2) (own q List.mem_cons_self) fun x hx=>?_
   obtain⟨q',Nn,rfl⟩:=List.mem_map.mp hx;exact(h1 q' Nn).1
theorem Rw.HY(h:Rw B rows):HM (rows.map two):=Nm h.own h.EL
theorem map_two(rows:List Row3):(rows.map two).map (fun q=>q.2)=rows.map fun q=>q.2.1:=by
 rw[List.map_map];rfl
theorem Rw.iw(h:Rw B rows)(x u:Nat):(b9 rows x u).1=0↔Sp B x:=by
 rw[lD,wq h.HY,map_two]
 constructor
 ·intro hs;refine hs.mono fun b hb=>?_
  obtain⟨q,hq,rfl⟩:=List.mem_map.mp hb;rw[<-(h.LX q hq).2];exact mC B _
 ·exact fun hs=>hs.mono h.span
theorem Rw.HZ(h:Rw B rows)(x u:Nat):∀ q∈rows,(b9 rows x u).1.testBit q.1=false:=fun q hq=>by
 rw[lD];exact pW h.HY x (two q) (List.mem_map.mpr ⟨q,hq,rfl⟩)
theorem wI(hc:∀ q∈rows,q.2.2<2^B.length/\comb B q.2.2=q.2.1):∀(x u:Nat),u<2^B.length->(b9 rows x u).2<2^B.length/\comb B (b9 rows x u).2=comb B u^^^(x^^^(b9 rows x u).1):=by
 induction rows with
 | nil=>intro x u hu;exact⟨hu,by show _=_^^^(x^^^x);rw[Nat.xor_self,Nat.xor_zero];rfl⟩
 | cons q rows ih =>
   intro x u hu;have hq:=hc q List.mem_cons_self;have ih:=ih fun q' Nn=>hc q' (List.mem_cons_of_mem _ Nn)
   rw[p7]
   by_cases h:x.testBit q.1=true
   ·rw[if_pos h];obtain⟨i1,i2⟩:=ih (x^^^q.2.1) (u^^^q.2.2) (Nat.xor_lt_two_pow hu hq.1);refine⟨i1,?_⟩;rw[i2,iP,hq.2];refine Nat.eq_of_testBit_eq fun i=>?_
    simp only[Nat.testBit_xor];generalize (b9 rows (x^^^q.2.1) (u^^^q.2.2)).1.testBit i=y;cases(comb B u).testBit i<;>cases q.2.1.testBit i<;>cases x.testBit i<;>cases y<;>rfl
   ·rw[if_neg h];exact ih x u hu
theorem Np(h:Rw B rows){x:Nat}(hx:∀ b∈B,b<2^x):∀ q∈rows,q.2.1<2^x:=fun q hq=>by
 rw[<-(h.LX q hq).2];exact(mC B _).lt hx
theorem tT{z:Nat}(b:Nat)(hz:z<2^B.length):comb (B++[b]) z=comb B z:=by
 rw[gf,Nat.testBit_lt_two_pow hz];simp
theorem Rw.skip{b:Nat}(h:Rw B rows)(hs:Sp B b):Rw (B++[b]) rows:=by
 have hl:(B++[b]).length=B.length+1:=by simp
 refine⟨h.own,h.EL,fun q hq=>⟨?_,?_⟩,fun c hc=>?_,?_,?_⟩
 ·have:=(h.LX q hq).1;rw[hl,Nat.pow_succ]
  lia
 ·rw[tT b (h.LX q hq).1];exact(h.LX q hq).2
 ·rcases List.mem_append.mp hc with hc|hc
  ·exact h.span c hc
  ·have e:c=b:=by simpa using hc
   rw[e];exact hs.mono h.span
 ·have:=h.le
  lia
 ·rw[lC];have:=h.le;exact⟨fun e=>by lia,fun z=>absurd hs z.2⟩
theorem Rw.put{b:Nat}(h:Rw B rows)(h0:(b9 rows b 0).1≠0):Rw (B++[b]) (uZ rows ((b9 rows b 0).1.log2,(b9 rows b 0).1,(b9 rows b 0).2^^^2^B.length)):=by
 have hl:(B++[b]).length=B.length+1:=by simp
 have hns : ¬ Sp B b:=fun z=>h0 ((h.iw b 0).mpr z)
 have off:=h.HZ b 0;obtain⟨c1,c2⟩:=wI h.LX b 0 (Nat.two_pow_pos _);rw[jL,Nat.zero_xor]at c2;have rC:Sp (rows.map fun q=>q.2.1) (b^^^(b9 rows b 0).1):=by
  rw[lD];have:=xQ (rows.map two) b
  rwa [map_two]at this
 generalize b9 rows b 0=lu at *;obtain⟨l,u⟩:=lu;have h0:l≠0:=h0;have top:=xR h0;have c1:u<2^B.length:=c1;have c2:comb B u=b^^^l:=c2;have off:∀ q∈rows,l.testBit q.1=false:=off;have rC:Sp (rows.map fun q=>q.2.1) (b^^^l):=rC
 show Rw (B++[b]) (uZ rows (l.log2,l,u^^^2^B.length));generalize l.log2=t at top;have p2:2^B.length<2^(B++[b]).length:=by rw[hl];exact Nat.pow_lt_pow_right (by decide) (by lia)
 have hc:comb (B++[b]) (u^^^2^B.length)=l:=by
  have h1:(u^^^2^B.length).testBit B.length=true:=by
   rw[Nat.testBit_xor,Nat.testBit_lt_two_pow c1,Nat.testBit_two_pow_self];rfl
  have h2:comb B (2^B.length)=0:=pZ B fun i hi=>by
   rw[Nat.testBit_two_pow];exact decide_eq_false (by lia)
  rw[gf,h1,if_pos rfl,iP,h2,c2,Nat.xor_zero];refine Nat.eq_of_testBit_eq fun i=>?_
  simp only[Nat.testBit_xor];cases b.testBit i<;>cases l.testBit i<;>rfl
 unfold uZ;refine⟨fun q hq=>?_,List.pairwise_cons.mpr ⟨fun q hq=>?_,?_⟩,fun q hq=>?_,fun c hc=>?_,?_,?_⟩
 ·rcases List.mem_cons.mp hq with e|hq
  ·rw[e];exact top
  ·obtain⟨q0,BF,rfl⟩:=List.mem_map.mp hq
   by_cases e:q0.2.1.testBit t=true
   ·rw[if_pos e];show(q0.2.1^^^l).testBit q0.1=true;rw[Nat.testBit_xor,h.own q0 BF,off q0 BF];rfl
   ·rw[if_neg e];exact h.own q0 BF
 ·obtain⟨q0,BF,rfl⟩:=List.mem_map.mp hq
  by_cases e:q0.2.1.testBit t=true
  ·rw[if_pos e];refine⟨?_,off q0 BF⟩;show(q0.2.1^^^l).testBit t=false;rw[Nat.testBit_xor,e,top];rfl
  ·rw[if_neg e];exact⟨Bool.eq_false_iff.mpr e,off q0 BF⟩
 ·refine List.pairwise_map.mpr (List.Pairwise.imp_of_mem (fun {q q'} hq Nn hz=>?_) h.EL)
  obtain⟨z1,z2⟩:=hz;have o1:=off q hq;have o2:=off q' Nn;have fst:∀ q:Row3,(if q.2.1.testBit t=true then(q.1,q.2.1^^^l,q.2.2^^^(u^^^2^B.length)) else q).1=q.1:=fun q=>by
   split<;>rfl
  have snd:∀(q:Row3) (k:Nat),l.testBit k=false->(if q.2.1.testBit t=true then(q.1,q.2.1^^^l,q.2.2^^^(u^^^2^B.length)) else q).2.1.testBit k=q.2.1.testBit k:=fun q k hk=>by
   split
   ·show(q.2.1^^^l).testBit k=_;rw[Nat.testBit_xor,hk,Bool.xor_false]
   ·rfl
  refine⟨?_,?_⟩
  ·rw[snd q' _ (by rw[fst];exact o1),fst]
   exact z1
  ·rw[snd q _ (by rw[fst];exact o2),fst]
   exact z2
 ·rcases List.mem_cons.mp hq with e|hq
  ·rw[e];exact⟨Nat.xor_lt_two_pow (by lia) p2,hc⟩
  ·obtain⟨q0,BF,rfl⟩:=List.mem_map.mp hq;obtain⟨d1,d2⟩:=h.LX q0 BF
   by_cases e:q0.2.1.testBit t=true
   ·rw[if_pos e];refine⟨Nat.xor_lt_two_pow (by lia) (Nat.xor_lt_two_pow (by lia) p2),?_⟩
    show comb (B++[b]) (q0.2.2^^^(u^^^2^B.length))=q0.2.1^^^l;rw[iP,hc,tT b d1,d2]
   ·rw[if_neg e];exact⟨by lia,by rw[tT b d1,d2]⟩
 ·have Vd:l∈(((t,l,u^^^2^B.length):Row3)::rows.map fun q=>if q.2.1.testBit t=true then(q.1,q.2.1^^^l,q.2.2^^^(u^^^2^B.length)) else q).map fun q=>q.2.1:=by
   rw[List.map_cons];exact List.mem_cons_self
  have old:∀ x∈rows.map (fun q=>q.2.1),Sp ((((t,l,u^^^2^B.length):Row3)::rows.map fun q=>if q.2.1.testBit t=true then(q.1,q.2.1^^^l,q.2.2^^^(u^^^2^B.length)) else q).map fun q=>q.2.1) x:=fun x hx=>by
   obtain⟨q0,BF,rfl⟩:=List.mem_map.mp hx;have hm:(if q0.2.1.testBit t=true then(q0.1,q0.2.1^^^l,q0.2.2^^^(u^^^2^B.length)) else q0).2.1∈(((t,l,u^^^2^B.length):Row3)::rows.map fun q=>if q.2.1.testBit t=true then(q.1,q.2.1^^^l,q.2.2^^^(u^^^2^B.length)) else q).map fun q=>q.2.1 :=
    List.mem_map.mpr ⟨_,List.mem_cons_of_mem _ (List.mem_map.mpr ⟨q0,BF,rfl⟩),rfl⟩
   by_cases e:q0.2.1.testBit t=true
   ·rw[if_pos e]at hm;have:=(Sp.mem hm).xor (Sp.mem Vd)
    rwa [gb]at this
   ·rw[if_neg e]at hm;exact .mem hm
  rcases List.mem_append.mp hc with hc|hc
  ·exact(h.span c hc).mono old
  ·have e:c=b:=by simpa using hc
   rw[e];have:=(rC.mono old).xor (Sp.mem Vd)
   rwa [gb]at this
 ·rw[List.length_cons,List.length_map,hl];have:=h.le
  lia
 ·rw[List.length_cons,List.length_map,hl,lC];have:=h.len
  constructor
  ·exact fun e=>⟨this.mp (by lia),hns⟩
  ·exact fun e=>by have:=this.mpr e.1;lia
def rx(f:Row3->Bool):List Row3->Bool
 | []=>false
 | q::rows=>f q^^rx f rows
theorem zV{f g:Row3->Bool}:∀{rows:List Row3},(∀ q∈rows,f q=g q)->rx f rows=rx g rows
 | [],_=>rfl
 | q::rows,h=>by
   unfold rx;rw[h q List.mem_cons_self,zV fun q' hq=>h q' (List.mem_cons_of_mem _ hq)]
theorem wJ(i:Nat):∀{rows:List Row3},(rows.Pairwise fun q q'=>q'.2.1.testBit q.1=false/\q.2.1.testBit q'.1=false)->∀(x u:Nat),(b9 rows x u).2.testBit i=(u.testBit i^^rx (fun q=>x.testBit q.1&&q.2.2.testBit i) rows)
 | [],_,x,u=>by show u.testBit i=(u.testBit i^^false);rw[Bool.xor_false]
 | q::rows,EL,x,u=>by
   obtain⟨h1,h2⟩:=List.pairwise_cons.mp EL;have ih:=wJ i h2;rw[p7];unfold rx
   by_cases h:x.testBit q.1=true
   ·rw[if_pos h,ih,h,Bool.true_and,Nat.testBit_xor,Bool.xor_assoc]
    congr 2
    exact zV fun q' hq=>by rw[Nat.testBit_xor,(h1 q' hq).2,Bool.xor_false]
   ·rw[if_neg h,ih,Bool.eq_false_iff.mpr h,Bool.false_and,Bool.false_xor]
def gD(rows:List Row3)(i:Nat):List Nat:=(rows.filter fun q=>q.2.2.testBit i).map fun q=>q.1
theorem zW(own:∀ q∈rows,q.2.1.testBit q.1=true)(EL:rows.Pairwise fun q q'=>q'.2.1.testBit q.1=false/\q.2.1.testBit q'.1=false)(i:Nat):(gD rows i).Nodup:=by
 unfold gD;refine List.pairwise_map.mpr ((List.Pairwise.imp_of_mem (fun {q q'} hq Nn hz e=>?_) EL).filter _)
 have:=own q' Nn;rw[<-e,hz.1]at this;cases this
theorem wK(f:Nat->Bool)(n:Nat):∀{l:List Nat},l.Nodup->(∀ k∈l,k<n)->bM (fun k=>f k&&decide (k∈l)) n=l.foldr (fun k acc=>f k^^acc) false
 | [],_,_=>iq fun k _=>by simp
 | a::l,nd,h=>by
   obtain⟨n1,n2⟩:=List.nodup_cons.mp nd;have ih:=wK f n n2 fun k hk=>h k (List.mem_cons_of_mem _ hk)
   have:bM (fun k=>f k&&decide (k∈a::l)) n=bM (fun k=>(f k&&decide (a=k))^^(f k&&decide (k∈l))) n:=bR fun k _=>by
    by_cases e:a=k
    ·subst e;rw[decide_eq_true List.mem_cons_self,decide_eq_true rfl,decide_eq_false n1,Bool.and_false,Bool.xor_false]
    ·have:(k∈a::l)↔k∈l:=⟨fun z=>(List.mem_cons.mp z).resolve_left fun z=>e z.symm,List.mem_cons_of_mem _⟩
     rw[decide_eq_false e,Bool.and_false,Bool.false_xor,decide_eq_decide.mpr this]
   rw[this,iJ,iK f (h a List.mem_cons_self),ih];rfl
theorem zX(f:Nat->Bool)(i:Nat):∀ rows:List Row3,(gD rows i).foldr (fun k acc=>f k^^acc) false=rx (fun q=>f q.1&&q.2.2.testBit i) rows
 | []=>rfl
 | q::rows=>by
   have ih:=zX f i rows;unfold gD at ih ⊢;unfold rx;cases h:q.2.2.testBit i with
   | true =>
     rw[List.filter_cons,if_pos h,List.map_cons,List.foldr_cons,ih,Bool.and_true]
   | false =>
     rw[List.filter_cons,if_neg (by rw[h];decide),ih,Bool.and_false,Bool.false_xor]
theorem Rw.marks{N:Net}(h:Rw B rows)(hi:wF B)(hb:∀ b∈B,b<2^N.n){i j b:Nat}(hj:B[j]?=some b):N.par b (Ring.orM (gD rows i))=decide (i=j)/\∀ k∈gD rows i,k<N.n:=by
 have lt:∀ k∈gD rows i,k<N.n:=fun k hk=>by
  obtain⟨q,hq,rfl⟩:=List.mem_map.mp hk;have hq:=(List.mem_filter.mp hq).1;exact bO (Np h hb q hq) (h.own q hq)
 refine⟨?_,lt⟩;have e1:N.par b (Ring.orM (gD rows i))=rx (fun q=>b.testBit q.1&&q.2.2.testBit i) rows:=by
  rw[<-zX (fun k=>b.testBit k),<-wK (fun k=>b.testBit k) N.n (zW h.own h.EL i) lt]
  exact bR fun k _=>by rw[Ring.jc]
 have hz:(b9 rows b 0).1=0:=(h.iw b 0).mpr (.mem (List.mem_of_getElem? hj));obtain⟨c1,c2⟩:=wI h.LX b 0 (Nat.two_pow_pos _);rw[jL,Nat.zero_xor,hz,Nat.xor_zero]at c2
 replace c2:=c2.trans (tR hj).symm
 have Ou:=(List.getElem?_eq_some_iff.mp hj).1;have e2:=tS B hi c1 (Nat.pow_lt_pow_right (by decide) Ou) c2
 have e3:=wJ i h.EL b 0;rw[e2,Nat.zero_testBit,Bool.false_xor,Nat.testBit_two_pow]at e3;rw[e1,<-e3];exact decide_eq_decide.mpr eq_comm
end
end RM
namespace Ring
open PySem L2
def rg(q:RM.Row3):List V:=[.int (q.1:Int),.int (q.2.1:Int),.int (q.2.2:Int)]
def tU(H:Hp)(x:V)(q:RM.Row3):Prop:=∃ b,x = .ref b/\H b=some (.tup (rg q))
theorem tU.tups{H H' : Hp}(s:dH H H'){x:V}{q:RM.Row3}(h:tU H x q):tU H' x q:=let⟨b,e,z⟩:=h;⟨b,e,s _ _ z⟩
def jd(H:Hp)(l:Addr)(rows:List RM.Row3):Prop:=∃ xs,H l=some (.lst xs)/\Paired (tU H) xs rows
theorem jd.same{H H' : Hp}(s:aq H H'){l:Addr}{rows:List RM.Row3}(h:jd H l rows):jd H' l rows:=let⟨xs,e,z⟩:=h;⟨xs,s _ _ e,Paired.imp' (fun _ _ z=>z.tups s.tups) z⟩
theorem EM(rows:List RM.Row3)(q:RM.Row3)(x u:Nat):RM.b9 (rows++[q]) x u=if(RM.b9 rows x u).1.testBit q.1=true then((RM.b9 rows x u).1^^^q.2.1,(RM.b9 rows x u).2^^^q.2.2) else RM.b9 rows x u:=by
 unfold RM.b9;rw[List.foldl_append];rfl
theorem take3{α:Type}{l:List α}{i:Nat}{q:α}(h:l[i]?=some q):l.take (i+1)=l.take i++[q]:=by
 rw[List.take_add_one,h];rfl
theorem Ia{m:Nat}(h:m≠0):((Builtin.Int.intBits (m:Int):Nat):Int)-1=((m.log2:Nat):Int):=by
 rw[sQ,if_neg h]
 lia
end Ring
namespace L2
open PySem PySem.Spec PyProof.Rows
theorem BV{K:bJ}{a:Addr}{xs:List V}{g:TG}{tt:TT}{te:TE}{n:Nat}{fr:St}{D:Addr}{Q:Hp->Prop}{H1:Hp}(Pv:Nat->List V->Hp->Prop)(h0:Pv 0 [] H1)(hl:∀ i acc H,i<=xs.length->Pv i acc H->aL K H a xs/\H D=some (.lst acc)/\acc.length<=i)(hz:xs.length<=sizeLine)
 (hs:∀ i x T acc H,xs[i]?=some x->Pv i acc H->H T=none->g (.ref T) (List.replicate n none++fr) (upd H T (.tup [.int (i:Int),x])) fun σ2 H2=>σ2.drop n=fr/\tt σ2 H2 fun b H3 =>
  if b=true then te σ2 H3 fun v H4=>H4 D=some (.lst acc)/\Pv (i+1) (acc++[v]) (upd H4 D (.lst (acc++[v]))) else Pv (i+1) acc H3)
 (hd:∀ acc H,Pv xs.length acc H->Q H):iG (Om K a) g tt te n fr D Q H1:=by
 refine⟨fun i m acc H=>m=xs.length-i/\i<=xs.length/\Pv i acc H,⟨xs.length,by simp,Nat.zero_le _,h0⟩,?_⟩
 rintro i m acc H ⟨rfl,hi,p⟩;obtain⟨q,hD,ha⟩:=hl i acc H hi p;refine⟨hD,?_⟩
 by_cases hlt:i<xs.length
 ·refine .inr ⟨⟨xs,xs[i],q,by simp[hlt]⟩,by lia,Pv (i+1),fun acc' H' p'=>⟨xs.length-(i+1),by lia,rfl,hlt,p'⟩,fun v H' y=>?_⟩
  obtain⟨T,x,rfl,hT,rfl,y⟩:=y;exact hs i x T acc _ (y xs q) p hT
 ·have e:i=xs.length:=by lia
  subst e;exact .inl ⟨⟨xs,q,Nat.le_refl _⟩,hd acc H p⟩
end L2
namespace RM
variable {N:Net}{S:Nat->Bool}
def tV(N:Net)(S:Nat->Bool)(L:Nat->Nat)(k:Nat):Prop:=∀ x y,x<N.p->y<N.p->(L x=L y↔N.aJ S k x=N.aJ S k y)
theorem tV.start:tV N S (fun x=>x) 0:=fun _ _ _ _=>Iff.rfl
theorem tV.skip{L:Nat->Nat}{k:Nat}(h:tV N S L k)(hs:S k=false):tV N S L (k+1):=by
 intro x y hx hy;rw[fh,if_neg (by rw[hs];decide)]
 exact h x y hx hy
theorem tV.put{L:Nat->Nat}{k:Nat}(h:tV N S L k)(hk:k<N.n)(hs:S k=true):tV N S (M5 L (N.a k) (N.b k)) (k+1):=by
 intro x y hx hy;have ha:=N.al k hk;have hb:=N.bl k hk;rw[fh,if_pos hs,KD,Ho,h x y hx hy,h x _ hx ha,h y _ hy hb,h x _ hx hb,h y _ hy ha]
open Classical in
theorem DK(val:Nat->Int):∀ n,(PyProof.Rows.firstMet val n).length=cnt (fun i=>!decide (∃ j,j<i/\val j=val i)) n/\∀ z,z∈PyProof.Rows.firstMet val n↔∃ j,j<n/\val j=z
 | 0=>by
   rw[PyProof.Rows.firstMet_zero];exact⟨rfl,fun z=>⟨fun h=>(nomatch h),fun⟨j,hj,_⟩=>absurd hj (Nat.not_lt_zero _)⟩⟩
 | n+1=>by
   obtain⟨h1,h2⟩:=DK val n;rw[PyProof.Rows.firstMet_succ];unfold PyProof.Rows.step_dedup;have hm:=h2 (val n);have ha:((PyProof.Rows.firstMet val n).any fun x=>x==val n)=true↔val n∈PyProof.Rows.firstMet val n:=by simp
   have mem:∀ z,(∃ j,j<n+1/\val j=z)↔(∃ j,j<n/\val j=z)\/val n=z:=fun z=>by
    constructor
    ·rintro⟨j,hj,e⟩
     by_cases ej:j=n
     ·subst ej;exact .inr e
     ·exact .inl ⟨j,by lia,e⟩
    ·rintro(⟨j,hj,e⟩|e)
     ·exact⟨j,by lia,e⟩
     ·exact⟨n,by lia,e⟩
   by_cases hin:val n∈PyProof.Rows.firstMet val n
   ·rw[if_pos (ha.mpr hin)];refine⟨?_,fun z=>?_⟩
    ·show _=cnt _ n+(if(!decide (∃ j,j<n/\val j=val n))=true then 1 else 0)
     rw[h1,decide_eq_true (hm.mp hin)];rfl
    ·rw[mem,h2];exact⟨.inl,fun h=>h.elim id fun e=>e▸hm.mp hin⟩
   ·rw[if_neg (fun z=>hin (ha.mp z))]
    refine⟨?_,fun z=>?_⟩
    ·show _=cnt _ n+(if(!decide (∃ j,j<n/\val j=val n))=true then 1 else 0)
     rw[List.length_append,h1,decide_eq_false (fun z=>hin (hm.mpr z))]
     rfl
    ·rw[mem,List.mem_append,h2];exact⟨fun h=>h.elim .inl fun e=>.inr (List.mem_singleton.mp e).symm,fun h=>h.elim .inl fun e=>.inr (by simp[e])⟩
theorem K0{L:Nat->Nat}(h:tV N S L N.n):(PyProof.Rows.firstMet (fun i=>((L i:Nat):Int)) N.p).length=cnt (N.root S N.n) N.p:=by
 rw[(DK _ N.p).1];refine dW fun x hx=>?_
 unfold Net.root;rw[Bool.eq_iff_iff,Bool.not_eq_true',decide_eq_false_iff_not,decide_eq_true_iff]
 constructor
 ·intro hn;apply Classical.byContradiction;intro hne;have hle:=oq (N:=N) (S:=S) N.n x;have hlt:N.aJ S N.n x<x:=by lia
  exact hn ⟨N.aJ S N.n x,hlt,by
   have:=(h (N.aJ S N.n x) x (by lia) hx).mpr (bT N.n x)
   rw[this]⟩
 ·rintro hr ⟨j,hj,e⟩;have e:L j=L x:=by lia
  have e2:=(h j x (by lia) hx).mp e
  have:=oq (N:=N) (S:=S) N.n j
  lia
theorem Ib{m:Nat}(hm:m<2^N.n)(h0:m≠0)(d2:N.D2 m):N.Ring m↔cnt (N.root (fun k=>m.testBit k) N.n) N.p+cnt (fun x=>decide (N.dg m x=2)) N.p=N.p+1:=by
 have hR:∀ x,x<N.p->N.dg m x=0->N.root (fun k=>m.testBit k) N.n x=true:=fun x hx hd=>by
  unfold Net.root;rw[decide_eq_true_iff];exact alone hd (bG _ _ _ (bT N.n x).symm)
 have split:cnt (N.root (fun k=>m.testBit k) N.n) N.p=cnt (fun x=>!decide (N.dg m x=2)) N.p+cnt (fun x=>decide (N.dg m x=2)&&N.root (fun k=>m.testBit k) N.n x) N.p:=by
  rw[<-tE (fun x hx=>by cases decide (N.dg m x=2)<;>simp)]
  refine dW fun x hx=>?_
  rcases d2 x hx with h|h
  ·rw[hR x hx h,decide_eq_false (by lia)]
   rfl
  ·rw[decide_eq_true h];simp
 have cn:=i0 (fun x=>decide (N.dg m x=2)) N.p
 obtain⟨k0,hk0⟩:∃ k,m.testBit k=true:=by
  apply Classical.byContradiction;intro h;exact h0 (Nat.eq_of_testBit_eq fun i=>by
   rw[Nat.zero_testBit];cases e:m.testBit i with
   | false=>rfl
   | true=>exact absurd ⟨i,e⟩ h)
 have hkn:=bO hm hk0;have JE:=N.al k0 hkn;have hd0:N.dg m (N.a k0)=2:=by
  have:=tF hkn hk0 (.inl rfl:N.a k0=N.a k0\/N.b k0=N.a k0);rcases d2 _ JE with h|h<;>lia
 rw[Ni hm d2 JE hd0];generalize hx:N.a k0=x0 at JE hd0;have up:∀ x,x<N.p->N.dg m x=2->N.dg m (N.aJ (fun k=>m.testBit k) N.n x)=2:=fun x hx hd=>by
  have hl:=i7 (N:=N) (S:=fun k=>m.testBit k) (k:=N.n) hx
  rcases d2 _ hl with h|h
  ·have e:x=N.aJ (fun k=>m.testBit k) N.n x:=alone h (bG _ _ _ (bT N.n x))
   rw[<-e]at h
   lia
  ·exact h
 have r0:N.aJ (fun k=>m.testBit k) N.n x0<N.p:=i7 JE
 constructor
 ·intro h;have one:cnt (fun x=>decide (N.dg m x=2)&&N.root (fun k=>m.testBit k) N.n x) N.p=1:=by
   have:cnt (fun x=>decide (N.dg m x=2)&&N.root (fun k=>m.testBit k) N.n x) N.p=cnt (fun x=>decide (N.aJ (fun k=>m.testBit k) N.n x0=x)) N.p:=dW fun x hx=>by
    rw[Bool.eq_iff_iff,Bool.and_eq_true,decide_eq_true_iff,decide_eq_true_iff];unfold Net.root;rw[decide_eq_true_iff]
    constructor
    ·rintro⟨h1,h2⟩;rw[<-(h x hx).mpr h1];exact h2
    ·rintro rfl;exact⟨up x0 JE hd0,bT N.n x0⟩
   rw[this,tD,if_pos r0]
  lia
 ·intro h x hx;have one:cnt (fun x=>decide (N.dg m x=2)&&N.root (fun k=>m.testBit k) N.n x) N.p=1:=by lia
  have XU:(decide (N.dg m (N.aJ (fun k=>m.testBit k) N.n x0)=2)&&N.root (fun k=>m.testBit k) N.n (N.aJ (fun k=>m.testBit k) N.n x0))=true:=by
   rw[Bool.and_eq_true,decide_eq_true_iff];unfold Net.root;rw[decide_eq_true_iff];exact⟨up x0 JE hd0,bT N.n x0⟩
  constructor
  ·intro e;rcases d2 x hx with h|h
   ·have e2:x0=x:=alone h (bG _ _ _ e);rw[<-e2]at h
    lia
   ·exact h
  ·intro hd;have XW:(decide (N.dg m (N.aJ (fun k=>m.testBit k) N.n x)=2)&&N.root (fun k=>m.testBit k) N.n (N.aJ (fun k=>m.testBit k) N.n x))=true:=by
    rw[Bool.and_eq_true,decide_eq_true_iff];unfold Net.root;rw[decide_eq_true_iff];exact⟨up x hx hd,bT N.n x⟩
   apply Classical.byContradiction;intro hne;have:=rV (f:=fun x=>decide (N.dg m x=2)&&N.root (fun k=>m.testBit k) N.n x) XW XU hne (i7 hx) r0
   lia
variable {N:Net}{s u:Nat}
end RM
namespace Ring
open PySem L2
end Ring
namespace L2
open PySem PySem.Spec PySem.Calls PyProof.Rows PySem.W
end L2
namespace RM
theorem jM{b:Nat}{B:List Nat}:wF (b::B)↔wF B/\¬ Sp B b:=by
 have dbl:∀ z,(2*z).testBit 0=false:=fun z=>by rw[Nat.testBit_zero];exact decide_eq_false (by lia)
 have Tz:∀ z,(2*z+1).testBit 0=true:=fun z=>by rw[Nat.testBit_zero];exact decide_eq_true (by lia)
 constructor
 ·intro h;refine⟨fun z hz e=>?_,fun hs=>?_⟩
  ·have:=h (2*z) (by rw[List.length_cons,Nat.pow_succ];lia) (by
    unfold comb;rw[dbl,if_neg (by decide),Nat.zero_xor,show 2*z/2=z by lia]
    exact e)
   lia
  ·obtain⟨y,hy,e⟩:=oH hs;have:=h (2*y+1) (by rw[List.length_cons,Nat.pow_succ];lia) (by
    unfold comb;rw[Tz,if_pos rfl,show(2*y+1)/2=y by lia,e,Nat.xor_self])
   lia
 ·rintro⟨h,hs⟩ z hz e;unfold comb at e;rw[List.length_cons,Nat.pow_succ]at hz
  by_cases hb:z.testBit 0=true
  ·rw[if_pos hb]at e;have e2:=fk e;exact absurd (e2▸mC B (z/2)) hs
  ·rw[if_neg hb,Nat.zero_xor]at e;have h0:=h (z/2) (by lia) e
   rw[Nat.testBit_zero,decide_eq_true_iff]at hb
   lia
theorem K1{B C:List Nat}(h:B.Perm C)(x:Nat):Sp B x↔Sp C x :=
 ⟨fun z=>z.mono fun b hb=>.mem (h.mem_iff.mp hb),fun z=>z.mono fun b hb=>.mem (h.mem_iff.mpr hb)⟩
theorem Ic{B C:List Nat}(h:B.Perm C):wF B↔wF C:=by
 induction h with
 | nil=>exact Iff.rfl
 | cons x h ih=>rw[jM,jM,ih,K1 h]
 | swap x y l =>
   rw[jM,jM,jM,jM,Sp.lB,Sp.lB,Nat.xor_comm y x]
   constructor
   ·rintro⟨⟨h1,h2⟩,h3⟩;exact⟨⟨h1,fun z=>h3 (.inl z)⟩,fun z=>z.elim h2 fun z=>h3 (.inr z)⟩
   ·rintro⟨⟨h1,h2⟩,h3⟩;exact⟨⟨h1,fun z=>h3 (.inl z)⟩,fun z=>z.elim h2 fun z=>h3 (.inr z)⟩
 | trans _ _ i1 i2=>exact i1.trans i2
theorem Base.perm{N:Net}{rs rs' : List Nat}(b:Base N rs)(h:rs'.Perm rs):Base N rs' :=
 ⟨by rw[h.length_eq];exact b.len,fun r hr=>b.ring r (h.mem_iff.mp hr),(Ic h).mpr b.ind⟩
end RM
namespace L2
open PySem PySem.Spec PyProof.Rows
def dY(q:Str)(pos:Pos):Array Value:=#[.str q 0,rawInt pos.line,rawInt pos.col]
def mY(pos:Pos)(c:Addr):Array Value:=#[rawInt pos.line,rawInt pos.col,.ref c]
def ff(H:Hp)(P c:Addr)(oc:Obj)(q:Str)(pos:Pos):Hp:=upd (upd H c (.jR oc (.own P))) P (.iY (dY q pos++mY pos c))
def given(H:Hp)(P c:Addr)(q:Str)(pos:Pos):Hp:=upd (upd H c (.own P)) P (.iY (dY q pos))
def CodeObj(oc:Obj)(q:Str):Prop:=∃ vs t,oc.data = .fields vs/\vs[1]?=some (.str q t)
theorem CodeObj.rec{h:Heap}{c:Addr}{oc:Obj}{q:Str}(x:CodeObj oc q)(e:h.get? c=some oc):h.CodeRec (.ref c) q :=
 let⟨vs,t,e1,e2⟩:=x
 ⟨c,oc,vs,t,rfl,e,e1,e2⟩
theorem Nq{P:Program}{w:World}{H:Hp}{h:Heap}{a:Addr}{q:Str}{pos:Pos}(x:bf P w H h a (.iY (dY q pos))):
 h.get? a=some (PySem.W.tabObj #[])\/∃ c oc,h.get? a=some (PySem.W.tabObj (mY pos c))/\H c=some (.own a)/\h.get? c=some oc/\CodeObj oc q:=by
 obtain⟨ps,e,f⟩:=x;rcases f with⟨_,f|⟨c,e1,e2,c',oc,vs,tq,hc,ho,hd,hv⟩⟩|⟨q',l,k,f,z⟩
 ·subst f;exact .inl e
 ·cases hc;subst e1;exact .inr ⟨c,oc,e,e2,ho,vs,tq,hd,hv⟩
 ·have:=congrArg Array.size f;rw[Array.size_append,z]at this;exact absurd this (by simp[dY])
theorem Ie{P:Program}{w:World}{H:Hp}{h:Heap}{a c:Addr}{q:Str}{pos:Pos}(x:bf P w H h a (.iY (dY q pos++mY pos c))):h.get? a=some (PySem.W.tabObj (mY pos c)):=by
 obtain⟨ps,e,f⟩:=x;rcases f with⟨f,_⟩|⟨q',l,k,f,z⟩
 ·rw[Array.size_append]at f;exact absurd f (by simp[dY,mY])
 ·have e2:=congrArg (fun a=>a.toList.drop 3) f
  simp only[Array.toList_append,dY,mY,List.cons_append,List.nil_append,List.drop_succ_cons,List.drop_zero]at e2;have e3:ps=mY pos c:=by
   apply Array.toList_inj.mp;exact e2.symm
  rw[<-e3];exact e
abbrev zY(X:Cx)(params:Arguments)(body:Expr)(scope:Scope)(c:Addr)(ctv:Value):FuncData :=
 PySem.W.kla_fn "<lambda>" (X.env.qual ++ "<lambda>") params body scope (cM X.env.cells scope.names []) ((X.mg "__name__").getD .none) (.ref c) ctv
abbrev dF(X:Cx)(params:Arguments)(body:Expr)(scope:Scope)(c:Addr)(ctv:Value):Obj :=
 { cls:=.type "function",data:=.func (zY X params body scope c ctv)}
section
variable {X:Cx}{pins:aQ}{σ:St}{H H2:Hp}{s:Shared}{params:Arguments}{body:Expr}{scope:Scope}{pos:Pos}{own frees:List Str}{js:List Nat}{c P:Addr}
theorem zZ{Q:dh}{E:dh}
 (I:Inv X pins σ H s) (T:c6 X scope own frees js) (hcode:X.env.code = .ref c) (hK:PySem.W.codeHdIn X.K c P=true) (hP:H P=some (.iY (dY (X.env.qual ++ "<lambda>") pos)))
 (hdef:defaultsOf params X.env=([],[]))
 (h:∀ f c' oc ctv s',(H c' = none\/H c' = some (.own P))->c'≠P->CodeObj oc (X.env.qual ++ "<lambda>")->Inv X ((f,dF X params body scope c' ctv)::pins) σ (ff H P c' oc (X.env.qual ++ "<lambda>") pos) s'->Q (.ref f) s') :
 wpAny (model X.prog X.w) X.A (eval (.Lambda params body scope pos) X.env) Q E s:=by
 have JE:=Nq (show bf X.prog X.w H s.heap P (.iY (dY (X.env.qual ++ "<lambda>") pos)) from I.hok P _ hP)
 have C:PySem.W.CodeHd s.heap c P:=PySem.W.codeHd_of_K I.yU hK;have hg:=I.mod.glob.keeps I.bk;have Ve:∀ b o,X.base.get? b=some o->b≠P:=fun b o q z=>by
  have:=(I.bs b o q).2;rw[z,hP]at this;cases this
 have hgP:mainGlobals≠P:=by
  obtain⟨o,es,ep,q,_⟩:=I.mod.glob;exact Ve _ o q
 have hb:s.heap.BuiltinsAt X.mg P:=by
  obtain⟨bm,ob,b1,b2,b3,b4,b5,b6⟩:=I.mod.bmain;refine⟨bm,ob,b1,b2,fun z=>?_,Ve _ _ b3,I.bk _ _ b3,b4,b5,b6⟩
  obtain⟨o,es,ep,q,hd,_⟩:=I.mod.glob;rw[z,q]at b3;cases b3;rw[hd]at b6;cases b6
 have hcl:=nj (fW I T);have fin:∀(f c' : Addr) (oc:Obj) (ctv:Value) (h2:Heap) (tk:Nat),(H c' = none\/H c' = some (.own P))->c'≠P->(H c' = none->s.heap.objs.size<=c')->CodeObj oc (X.env.qual ++ "<lambda>")->(∀ b o,b≠P->s.heap.get? b=some o->h2.get? b=some o)->
  h2.get? P=some (PySem.W.tabObj (mY pos c'))->h2.get? c' = some oc->s.heap.objs.size<=f->f≠c'->h2.get? f=some (dF X params body scope c' ctv)->
  Inv X ((f,dF X params body scope c' ctv)::pins) σ (ff H P c' oc (X.env.qual ++ "<lambda>") pos) { s with heap:=h2,toks:=tk}:=by
  intro f c' oc ctv h2 tk hc z4 hnew hoc hx RP hct hf hfc XX;have nP:∀ b,H b=none->b≠P:=fun b n z=>by rw[z,hP]at n;cases n
  have K2:∀ b u,H b=some u->(∀ y,u≠.own y)->(∀ qs,u≠.iY qs)->ff H P c' oc (X.env.qual ++ "<lambda>") pos b=some u:=fun b u e n1 n2=>by
   unfold ff;rw[aj (fun z=>by rw[z,hP]at e;exact n2 _ (Option.some.inj e).symm),aj (fun z=>by
    rw[z]at e;rcases hc with q|q
    ·rw[q]at e;cases e
    ·rw[q]at e;exact n1 _ (Option.some.inj e).symm)]
   exact e
  have Nr:∀ b,H b=none->(b<s.heap.objs.size\/b≠c')->ff H P c' oc (X.env.qual ++ "<lambda>") pos b=none:=fun b n hb=>by
   unfold ff;rw[aj (nP b n),aj (fun z=>by
    rcases hb with q|q
    ·rw[z]at q n;exact absurd (hnew n) (Nat.not_le.mpr q)
    ·exact q z)]
   exact n
  have un:Un X.fs [] H (ff H P c' oc (X.env.qual ++ "<lambda>") pos) s.heap h2:=by
   refine⟨fun b o q n _ _=>hx b o (nP b n) q,fun b o q n _ _=>⟨o.slots,hx b o (nP b n) q⟩,fun b o q n _=>Nr b n (.inl (Heap.lt_size q)),fun b o q _=>?_,fun b xs q=>K2 b _ q (by intro y z;cases z) (by intro y z;cases z),fun b o u q=>K2 b _ q (by intro y z;cases z) (by intro y z;cases z),fun b ps q=>?_⟩
   ·by_cases hb:b=P
    ·exact⟨_,by rw[hb];exact RP⟩
    ·exact⟨o,hx b o hb q⟩
   ·by_cases hb:b=P
    ·subst hb;rw[hP]at q;cases q;exact⟨mY pos c',ae⟩
    ·refine⟨#[],?_⟩;unfold ff;rw[aj hb,aj (fun z=>by
      rw[z]at q;rcases hc with r|r<;>(rw[r]at q;cases q)),q]
     simp
  have hok:kW X.prog X.w (ff H P c' oc (X.env.qual ++ "<lambda>") pos) h2:=fun b u q=>by
   by_cases EN:b=P
   ·subst EN;unfold ff at q;rw[ae]at q;cases q;exact⟨_,RP,.inr ⟨_,_,_,rfl,rfl⟩⟩
   ·by_cases hbc:b=c'
    ·subst hbc;unfold ff at q;rw[aj EN,ae]at q;cases q;exact⟨hct,oc,hct⟩
    ·have q' : H b=some u:=by
      unfold ff at q;rw[aj EN,aj hbc]at q;exact q
     have ow:∀ d,H d=some (.own b)->d≠P/\d≠c':=fun d qd=>⟨aS qd hP (by intro z;cases z),fun z=>by
      rw[z]at qd;rcases hc with r|r
      ·rw[r]at qd;cases qd
      ·rw[r]at qd;cases qd;exact EN rfl⟩
     refine(I.hok b u q').stay (fun d v hd qd=>hx d v ?_ qd) (fun d qd=>?_) fun d xs qd=>K2 d _ qd (by intro y z;cases z) (by intro y z;cases z)
     ·rcases hd with rfl|hd
      ·exact EN
      ·exact(ow d hd).1
     ·unfold ff;rw[aj (ow d qd).1,aj (ow d qd).2];exact qd
  have J:=I.un (t':=tk) un hok;have XY:H f=none:=I.hok.fresh hf;refine J.fC fun p hp=>?_
  rcases List.mem_cons.mp hp with rfl|hp
  ·exact⟨XX,Nr _ XY (.inr hfc),Nat.ne_of_gt (Nat.lt_of_lt_of_le I.lt hf),I.OX hf,fun v z=>by cases z⟩
  ·exact J.pin p (List.mem_append_right _ hp)
 refine PySem.W.kla_eval hdef ?_;rcases JE with e|⟨c',oc,e,ho,hct,hoc⟩
 ·refine PySem.W.kla_makeFunction (mg:=X.mg) hcl I.ok.glob hg hcode C e trivial rfl hgP hb fun c' ctv h' tk hx hge hlt hrec htb=>?_
  obtain⟨c2,oc,vs,t,e2,hct,hd,hv⟩:=hrec;cases e2;have hf:s.heap.objs.size<=h'.objs.size:=Nat.le_trans hge (Nat.le_of_lt hlt);have z4:c'≠P:=Nat.ne_of_gt (Nat.lt_of_lt_of_le (Heap.lt_size e) hge);exact h _ c' oc ctv _ (.inl (I.hok.fresh hge)) z4 ⟨vs,t,hd,hv⟩ (fin _ c' oc ctv _ tk (.inl (I.hok.fresh hge)) z4 (fun _=>hge) ⟨vs,t,hd,hv⟩ (fun b o hb q=>Heap.get?_push_of_some _ (hx b o hb q)) (Heap.get?_push_of_some _ htb) (Heap.get?_push_of_some _ hct) hf (Nat.ne_of_gt hlt) (Heap.get?_push_size _ rfl))
 ·have hf:codeAmong pos (mY pos c').toList=some (.ref c'):=codeAmong_snoc [] trivial rfl;have tr:TriplesOk (mY pos c').toList:=TriplesOk_snoc pos.line pos.col (.ref c') [] trivial;refine PySem.W.kla_makeFunctionHit (mg:=X.mg) hcl I.ok.glob hg hcode C e tr hf hb fun ctv h' tk hk hsz=>?_
  have z4:c'≠P:=aS ho hP (by intro z;cases z)
  have hk' : ∀ b o,s.heap.get? b=some o->(h'.push (dF X params body scope c' ctv)).get? b=some o:=fun b o q=>Heap.get?_push_of_some _ (hk b o q)
  exact h _ c' oc ctv _ (.inr ho) z4 hoc (fin _ c' oc ctv _ tk (.inr ho) z4 (fun z=>by rw[ho]at z;cases z) hoc (fun b o _ q=>hk' b o q) (hk' _ _ e) (hk' _ _ hct) hsz (Nat.ne_of_gt (Nat.lt_of_lt_of_le (Heap.lt_size hct) hsz)) (Heap.get?_push_size _ rfl))
theorem z5{tW:aQ}{σ0:St}{s0:Shared}{q:Str}{oc:Obj}(I0:Inv X tW σ0 H s0)(hP:H P=some (.iY (dY q pos)))(hc:H c=none\/H c=some (.own P))(z4:c≠P)(hoc:CodeObj oc q)
 (I:Inv X pins σ H2 s) (e1:H2 P=some (.iY (dY q pos++mY pos c))) (e2:H2 c=some (.jR oc (.own P))):Inv X pins σ (given H2 P c q pos) s:=by
 have RP:=Ie (show bf X.prog X.w H2 s.heap P (.iY (dY q pos++mY pos c)) from I.hok P _ e1)
 obtain⟨hct,_⟩:=(show bf X.prog X.w H2 s.heap c (.jR oc (.own P)) from I.hok c _ e2)
 have Nr:∀ b,H2 b=none->given H2 P c q pos b=none:=fun b n=>by
  unfold given;rw[aj (fun z=>by rw[z,e1]at n;cases n),aj (fun z=>by rw[z,e2]at n;cases n)]
  exact n
 have K2:∀ b u,b≠P->b≠c->H2 b=some u->given H2 P c q pos b=some u:=fun b u n1 n2 e=>by
  unfold given;rw[aj n1,aj n2];exact e
 refine⟨I.ok,I.os,I.bare,⟨I.base.keep,I.base.slot,fun b o z n hx=>Nr b (I.base.free b o z n hx),I.base.there,fun b xs z=>?_,fun b o u z=>?_,fun b ps z=>?_⟩,I.loc,I.cell,Nr _ I.free,fun x c' z=>Nr _ (I.eR x c' z),fun p hp=>?_,fun b u z=>?_,I.len⟩
 ·have r:=I.base.tups b xs z;exact K2 b _ (aS r e1 (by intro z;cases z)) (aS r e2 (by intro z;cases z)) r
 ·have r:=I.base.jS b o u z;refine K2 b _ (aS r e1 (by intro z;cases z)) (fun y=>?_) r
  have r0:=I0.base.jS b o u z;rw[y]at r0;rcases hc with hc|hc<;>(rw[hc]at r0;cases r0)
 ·by_cases hb:b=P
  ·subst hb;obtain⟨more,r0⟩:=I0.base.kX b ps z;rw[hP]at r0;exact⟨more,by unfold given;rw[ae];exact r0⟩
  ·obtain⟨more,r⟩:=I.base.kX b ps z;exact⟨more,K2 b _ hb (aS r e2 (by intro z;cases z)) r⟩
 ·obtain⟨a1,a2,a3⟩:=I.pin p hp;exact⟨a1,Nr _ a2,a3⟩
 ·by_cases EN:b=P
  ·subst EN;unfold given at z;rw[ae]at z;cases z;refine⟨_,RP,.inl ⟨rfl,.inr ⟨c,rfl,?_,hoc.rec hct⟩⟩⟩;unfold given;rw[aj z4,ae]
  ·by_cases hbc:b=c
   ·subst hbc;unfold given at z;rw[aj EN,ae]at z;cases z;exact⟨oc,hct⟩
   ·have z' : H2 b=some u:=by
     unfold given at z;rw[aj EN,aj hbc]at z;exact z
    refine(I.hok b u z').stay (fun _ _ _ r=>r) (fun d r=>K2 d _ (aS r e1 (by intro z;cases z)) (aS r e2 (by intro z;cases z)) r) fun d xs r=>K2 d _ (aS r e1 (by intro z;cases z)) (aS r e2 (by intro z;cases z)) r
theorem z6{q:Str}{oc:Obj}(hP:H P=some (.iY (dY q pos)))(hc:H c=none\/H c=some (.own P))(z4:c≠P)(S:aq (ff H P c oc q pos) H2):aq H (given H2 P c q pos):=fun b u e=>by
 unfold given
 by_cases EN:b=P
 ·subst EN;rw[ae,<-hP];exact e
 ·rw[aj EN]
  by_cases hbc:b=c
  ·subst hbc;rw[ae];rcases hc with hc|hc
   ·rw[hc]at e;cases e
   ·rw[<-hc];exact e
  ·rw[aj hbc];refine S b u ?_;unfold ff;rw[aj EN,aj hbc];exact e
theorem r9{q:Str}{oc:Obj}{b:Addr}{u:HO}(hP:H P=some (.iY (dY q pos)))(hc:H c=none\/H c=some (.own P))(e:H b=some u)(n1:∀ y,u≠.own y)(n2:∀ qs,u≠.iY qs):ff H P c oc q pos b=some u:=by
 unfold ff;rw[aj (fun z=>by rw[z,hP]at e;exact n2 _ (Option.some.inj e).symm),aj (fun z=>by
  rw[z]at e;rcases hc with q|q
  ·rw[q]at e;cases e
  ·rw[q]at e;exact n1 _ (Option.some.inj e).symm)]
 exact e
def tX(X:Cx)(N:List Str)(scope:Scope)(f c:Addr)(A:Around)(s:Shared)(H:Hp):Cx where
 prog:=X.prog
 w:=X.w
 K:=X.K
 mg:=X.mg
 base:=X.base
 A:=A.deeper (PySem.W.envX (X.env.qual ++ "<lambda>") scope s.heap.objs.size f (.ref c) (cM X.env.cells scope.names []))
 N:=N
 s₀:=s
 H₀:=H
 env:=PySem.W.envX (X.env.qual ++ "<lambda>") scope s.heap.objs.size f (.ref c) (cM X.env.cells scope.names [])
 outer:=X.stack
 stack:=PySem.W.envX (X.env.qual ++ "<lambda>") scope s.heap.objs.size f (.ref c) (cM X.env.cells scope.names [])::X.stack
 ex:=[]
 fn:=fun _=>false
 calm:=X.calm
 pn:=[]
 xe:=fun _ _=>False
theorem K3{f:Addr}{A:Around}{x:Str}{v:V}{u:Value}{h1:Heap}{t1:Nat}(I:Inv X pins σ H s)(T:c6 X scope [x] frees js)(hx:scope.names.lookup x=some .local)
 (hfr:A.frames=some X.stack) (hh:A.handled=X.A.handled) (r:RelV v u) (old:∀ b o,s.heap.get? b=some o->h1.get? b=some o) (hn:h1.Ns s.heap.objs.size (fun y=>[(x,u)].reverse.lookup y)) :
 Inv (tX X ([x]++frees) scope f c A s H) [] (some v::eN σ js) H { s with heap:=h1,toks:=t1}:=by
 have cells:∀ x c,(cM X.env.cells scope.names []).lookup x=some c->X.env.cells.lookup x=some c:=fun x c h=>by
  rcases iZ h with q|⟨q1,q2⟩
  ·cases q
  ·obtain⟨c',hc'⟩:=fW I T x .free q1 rfl;rw[hc']at q2;rw[hc'];exact congrArg some q2
 refine⟨⟨I.ok.mod,T.kind,rfl,rfl,Nat.le_refl _,fun x y c a b=>I.ok.inj x y c (cells x c a) (cells y c b),fun y hy=>?_,fun x c z _=>(nomatch z),fun hc=>hh.trans (I.ok.hd hc),Around.frames_deeper hfr,.inr ⟨rfl,rfl⟩,fun b hb=>absurd (show b∈([]:List Addr) from hb) (by simp),
  fun b o e=>I.bs b o e,Nat.le_trans I.ok.JM I.sz,fun b o _ hb=>absurd (show b∈([]:List Addr) from hb) (by simp),fun b hb=>absurd (show b∈([]:List Addr) from hb) (by simp),I.stack,I.w9⟩,
  rfl,I.bare,Un.kept old,⟨_,hn,fun i y v' e1 e2 e3=>?_⟩,fun y c e=>?_,I.hok.fresh (Nat.le_refl _),fun y c e=>I.eR y c (cells y c e),fun p hp=>absurd (show p∈([]:aQ) from hp) (by simp),I.hok.kept old,?_⟩
 ·have hy:scope.names.lookup y=some .cell\/scope.names.lookup y=some .free:=hy;rcases hy with hy|hy
  ·exact absurd rfl (T.xy _ (PySem.mem_of_lookup hy))
  ·exact iF (.inl (PySem.mem_of_lookup hy))
 ·replace e1:([x]++frees)[i]?=some y:=e1
  cases i with
  | zero =>
    have e1:x=y:=by simpa using e1
    have e2:v=v':=by simpa using e2
    subst e1 e2;exact⟨u,r,.inl ⟨hx,by simp⟩⟩
  | succ i =>
    have e1:frees[i]?=some y:=by simpa using e1
    have e2:(eN σ js)[i]?=some (some v'):=by simpa using e2
    obtain⟨j,hj,hσ⟩:=sL e2;have hN:X.N[j]?=some y:=by
     have q:=congrArg (fun l=>l[i]?) T.at_
     simp only[List.getElem?_map,hj,e1,Option.map_some]at q;exact Option.some.inj q
    have hfx:=T.fr y (List.mem_of_getElem? e1);have hm:=PySem.mem_of_lookup hfx;have hk:=T.free (y,.free) hm rfl;obtain⟨m0,hn0,C9⟩:=I.loc;obtain⟨u',r',l⟩:=C9 j y v' hN hσ (by rcases hk with k|k;exact .inr (.inl k);exact .inr (.inr k))
    refine⟨u',r',.inr ⟨.inr hfx,?_⟩⟩;rcases l with⟨l6,_⟩|⟨_,c1,hc,hcell⟩
    ·have l6:X.env.scope.names.lookup y=some .local:=l6;rcases hk with k|k<;>(rw[l6]at k;cases k)
    ·obtain⟨c',hc'⟩:=iF (cells:=X.env.cells) (names:=scope.names) (cs:=[]) (x:=y) (.inl hm);have q:=cells y c' hc';rw[hc]at q;cases q;exact⟨c1,hc',hcell.keeps old⟩
 ·obtain⟨v',q⟩:=I.cell y c (cells y c e);exact⟨v',q.keeps old⟩
 ·show _=([x]++frees).length;have q:=congrArg List.length T.at_;rw[List.length_map,List.length_map]at q;simp only[List.length_cons,List.length_append,List.length_nil];unfold eN;rw[List.length_map]
  lia
theorem z7{f:Addr}{ctv:Value}{A:Around}{te:TE}{x:Str}{v:V}{u:Value}{Q:VK}{E:dh}(I:Inv X pins σ H s)(T:c6 X scope [x] frees js)(hx:scope.names.lookup x=some .local)
 (hfr:A.frames=some X.stack) (hh:A.handled=X.A.handled) (hroom:A.depth<recursionLimit) (hp:(f,dF X params body scope c ctv)∈pins) (hcd:s.heap.CodeRec (.ref c) (X.env.qual ++ "<lambda>"))
 (hb:bindArgs (zY X params body scope c ctv) ⟨[u],[]⟩=pure [(x,u)]) (hco:scope.isCoroutine=false) (hgen:scope.isGenerator=false)
 (he:PE (tX X ([x]++frees) scope f c A s H) body te) (r:RelV v u) (h:te (some v::eN σ js) H Q) :
 wpAny (model X.prog X.w) A (call (.ref f) [u]) (fun u' s'=>∃ v' H',Inv X pins σ H' s'/\RelV v' u'/\Q v' H') E s:=by
 have hf:=I.pin _ (List.mem_append_right _ hp);refine wpAny_call (PySem.W.kla_callFunE hroom hf.1 rfl hco hgen rfl hcd ?_);rw[hb];refine wpAny_pure (wpAny_newFunctionEnv (fun y hy=>T.xy y hy) (by intro y hy;have:=List.mem_singleton.mp hy;subst this;exact hx) (fun h₁ hns Qj=>⟨I.nolimit.fresh _ Qj,?_⟩) T.kind)
 show codeAny _ _ (.expr body (PySem.W.envX (X.env.qual ++ "<lambda>") scope s.heap.objs.size f (.ref c) (cM X.env.cells scope.names []))) _ _;have old:∀ b o,s.heap.get? b=some o->h₁.get? b=some o:=fun b o e=>Qj.extBut b o (Nat.ne_of_lt (Heap.lt_size e)) (Heap.get?_push_of_some _ e)
 have J:=K3 (f:=f) (c:=c) (A:=A) (t1:=s.toks+[(x,u)].length) I T hx hfr hh r old hns;refine PySem.W.kla_codeExpr (wpAny_mono (he [] _ _ H Q J h) (fun u' s' hq=>?_) fun _ _ z=>z.elim)
 obtain⟨v',H',J',r',q'⟩:=hq;exact⟨v',H',I.Gp (ch:=[]) J'.os J'.base J'.hok J'.bare (fun b z=>absurd z (by simp)),r',q'⟩
end
end L2
namespace HT
theorem fH:∀ a:List Int,lexLt a a=false
 | []=>rfl
 | x::xs=>by rw[fU,if_pos rfl];exact fH xs
theorem rh:∀{a b c:List Int},lexLt a b=true->lexLt b c=true->lexLt a c=true
 | [],[],_,h,_=>by rw[mZ]at h;cases h
 | [],_::_,[],_,h=>by rw[fD]at h;cases h
 | [],_::_,_::_,_,_=>rfl
 | _::_,[],_,h,_=>by rw[fD]at h;cases h
 | _::_,_::_,[],_,h=>by rw[fD]at h;cases h
 | x::xs,y::ys,z::zs,h1,h2=>by
   rw[fU]at h1 h2 ⊢
   by_cases e1:x=y
   ·rw[if_pos e1]at h1
    by_cases e2:y=z
    ·rw[if_pos e2]at h2;rw[if_pos (e1.trans e2)];exact rh h1 h2
    ·rw[if_neg e2]at h2;rw[if_neg (fun q=>e2 (e1.symm.trans q)),e1]
     exact h2
   ·rw[if_neg e1]at h1;have h1:=of_decide_eq_true h1
    by_cases e2:y=z
    ·subst e2;rw[if_neg e1];exact decide_eq_true h1
    ·rw[if_neg e2]at h2;have h2:=of_decide_eq_true h2;rw[if_neg (by lia)]
     exact decide_eq_true (by lia)
theorem tY{a b c:List Int}(h1:lexLt c b=false)(h2:lexLt a b=true):lexLt c a=false:=by
 cases q:lexLt c a with
 | false=>rfl
 | true=>rw[rh q h2]at h1;cases h1
end HT
namespace L2
open PySem PySem.Spec PyProof.Rows
def RQ(h:Heap)(a:Addr)(es:Array DictEntry)(ep:Nat):Prop:=∃ o,h.get? a=some o/\o.ExactDict/\o.data = .dict es ep
def RS(o:Obj)(a:Addr)(i n ep:Nat):Prop:=o.cls = .type "dict_keyiterator"/\o.data = .fields #[.ref a,.int i 0,.int n 0,.int ep 0]
section
variable {P:Program}{w:World}{A:Around}{E:dh}{s:Shared}{a it:Addr}{es:Array DictEntry}{ep i:Nat}{oi:Obj}
theorem Ig{Q:dh}(hs:(a==sysModules)=false)(g:RQ s.heap a es ep)
 (q:Q (.ref s.heap.objs.size) { s with heap:=s.heap.push { cls:=.type "dict_keyiterator",data:=.fields #[.ref a,.int 0 0,.int es.size 0,.int ep 0]}}):wpAny (model P w) A (pyIter (.ref a)) Q E s:=by
 obtain⟨o,ho,hc,hd⟩:=g;have hT:s.TypeIs (.ref a) "dict":=⟨o,ho,hc.1⟩;refine wpAny_pyIter_slot hT PySem.F.slot_dict_iter (wpAny_call_entry PySem.F.slot_dict_iter hT PySem.F.entry_dict_iter ?_ (PySem.F.args_dict_iter_1 _));unfold Builtin.«dict.__iter__» Builtin.Dict.dictSlotNone;refine wpAny_bind (wpAny_bind (wpAny_notOrdered_dict hT ?_));show wpAny _ _ (pure (Value.ref a)) _ _ s;refine wpAny_pure ?_;show wpAny _ _ (Builtin.Dict.showsAll a >>= _) _ _ s;unfold Builtin.Dict.showsAll;rw[hs];refine wpAny_bind (wpAny_pure (wpAny_bind (wpAny_dictEntries ho hd (wpAny_bind (wpAny_dictEpoch ho hd ?_)))));exact wpAny_bind (wpAny_newObj_type (wpAny_pure ⟨_,rfl,"dict_keyiterator",_,⟨_,Heap.get?_push_size _ rfl,rfl⟩,PySem.F.slot_dict_keyiterator_next.lookup,q⟩))
theorem tZ{Q:Option Value->Shared->Prop}(hi:s.heap.get? it=some oi)(g:RS oi a i es.size ep)(gd:RQ s.heap a es ep)
 (q:match (es[i]?:Option DictEntry) with
  | some e=>∀ h' oi',h'.get? it=some oi'->RS oi' a (i+1) es.size ep->Heap.SameBut it s.heap h'->Q (some e.key) { s with heap:=h'}
  | none=>A.handled=none/\∀ h',Heap.ExtBut it s.heap h'->Q none { s with heap:=h'}):wpAny (model P w) A (pyNext (.ref it)) Q E s:=by
 obtain⟨hc,hd⟩:=g;obtain⟨o,ho,hx,Vf⟩:=gd;have hT:s.TypeIs (.ref it) "dict_keyiterator":=⟨oi,hi,hc⟩;unfold pyNext;refine wpAny_bind (wpAny_attempt (wpAny_callSpecial?_slot (name:=Str.ofString "__next__") hT PySem.F.slot_dict_keyiterator_next (wpAny_call_entry PySem.F.slot_dict_keyiterator_next hT PySem.F.entry_dict_keyiterator_next ?_ (PySem.F.args_dict_keyiterator_next_1 _))));refine wpAny_bind (wpAny_pure (wpAny_bind (wpAny_bind ?_)))
 first | refine wpAny_bind (wpAny_typeNameOfWhole_keyiter hT (wpAny_pure ?_)) | refine wpAny_bind (wpAny_typeNameOf_keyiter hT (wpAny_pure ?_))
 refine wpAny_bind (wpAny_fieldsOf hi hd ?_);have hown:Builtin.Dict_items.ownsTuple "dict_keyiterator"=false:=by decide
 simp only[hown,Bool.false_eq_true,if_false];show wpAny _ _ (if(Value.ref a==Value.none)=true then _ else _) _ _ s
 rw[if_neg (show ¬((Value.ref a==Value.none)=true) from Bool.false_ne_true)]
 refine wpAny_bind (wpAny_pure (wpAny_bind (wpAny_dictEntries ho Vf ?_)));rw[if_neg (by simp)]
 refine wpAny_bind (wpAny_pure (wpAny_bind (wpAny_dictEpoch ho Vf ?_)));rw[if_neg (by simp)]
 refine wpAny_pure ?_;simp only[show ¬((i:Int)<0) from by lia,if_false,Int.toNat_natCast]
 cases hei:(es[i]?:Option DictEntry) with
 | some e =>
   rw[hei]at q;refine wpAny_bind ?_
   first | refine wpAny_bind (wpAny_typeNameOfWhole_keyiter hT (wpAny_pure ?_)) | refine wpAny_bind (wpAny_typeNameOf_keyiter hT (wpAny_pure ?_))
   refine wpAny_bind (wpAny_isOneOf_keyiter hT ?_);show wpAny _ _ (setField (.ref it) 1 (rawInt ((i:Int)+1)) >>= _) _ _ s;refine wpAny_bind (wpAny_setField hi hd (by simp) ?_)
   have d1:=Obj.data_mapFields hd (·.setIfInBounds 1 (rawInt ((i:Int)+1)));have g1:=Heap.get?_update_self (Obj.mapFields (·.setIfInBounds 1 (rawInt ((i:Int)+1)))) hi (Obj.isFreed_of_fields d1);have c1:(Obj.mapFields (·.setIfInBounds 1 (rawInt ((i:Int)+1))) oi).cls = .type "dict_keyiterator":=(Obj.cls_mapFields ..).trans hc;refine wpAny_bind (wpAny_holding ?_);refine wpAny_bind (wpAny_isOneOf_keyiter (s:={ s with heap:=s.heap.update it (Obj.mapFields (·.setIfInBounds 1 (rawInt ((i:Int)+1))))}) ⟨_,g1,c1⟩ ?_)
   show wpAny _ _ (pure e.key) _ _ _;exact wpAny_pure (wpAny_pure ⟨_,rfl,wpAny_pure (q _ _ g1 ⟨c1,by rw[d1];simp[rawInt]⟩ (Heap.SameBut.update ..))⟩)
 | none =>
   rw[hei]at q;obtain⟨hh,q⟩:=q;refine wpAny_bind ?_
   first | refine wpAny_bind (wpAny_typeNameOfWhole_keyiter hT (wpAny_pure ?_)) | refine wpAny_bind (wpAny_typeNameOf_keyiter hT (wpAny_pure ?_))
   show wpAny _ _ (setField (.ref it) 0 .none >>= _) _ _ s;refine wpAny_bind (wpAny_setField hi hd (by simp) ?_)
   show wpAny _ _ (newExc (.type "StopIteration") [] >>= _) _ _ _;refine wpAny_bind ?_;simp only[newExc,newTuple];refine wpAny_bind (wpAny_newObj_type (wpAny_bind (m:=firstArgMember _ _) (wpAny_of_eq (a:=Value.none) (by first | rfl | (simp only[firstArgMember];rfl)) (wpAny_newObj_type ?_ (by size_fits)))) (by size_fits))
   simp only[raiseNew];refine wpAny_bind (wpAny_handled ?_);rw[show A.in1.handled=none from hh]
   refine wpAny_bind (wpAny_pure (wpAny_throw ?_));refine wpAny_bind (wpAny_isInstance (T:="StopIteration") (b:=true) ⟨_,Heap.get?_push_size _ rfl,rfl⟩ isSubtype_stop (wpAny_pure ?_));exact q _ (((Heap.SameBut.update ..).extBut.push _).push _)
end
section
variable {X:Cx}{pins:aQ}{σ:St}{H H2:Hp}{s:Shared}
theorem Inv.K4{a:Addr}{kvs:List (List Key×V)}{ob:Obj}(I:Inv X pins σ H s)(e:H a=some (.dT kvs))(ho:s.heap.get? a=some ob):Inv X pins σ (upd H a (.jR ob (.dT kvs))) s:=by
 have ne:∀ b,H b=none->b≠a:=fun b h z=>by rw[z,e]at h;cases h
 refine⟨I.ok,I.os,I.bare,⟨I.base.keep,I.base.slot,fun b o q n hx=>?_,I.base.there,fun b xs q=>?_,fun b o u q=>?_,fun b ps q=>?_⟩,I.loc,I.cell,?_,fun x c q=>?_,fun p hp=>?_,fun b u q=>?_,I.len⟩
 ·have z:=I.base.free b o q n hx;rw[aj (ne b z)];exact z
 ·have z:=I.base.tups b xs q;rw[aj (aS z e (by intro z;cases z))]
  exact z
 ·have z:=I.base.jS b o u q;rw[aj (aS z e (by intro z;cases z))]
  exact z
 ·obtain⟨more,z⟩:=I.base.kX b ps q;exact⟨more,by rw[aj (aS z e (by intro z;cases z))];exact z⟩
 ·rw[aj (ne _ I.free)];exact I.free
 ·rw[aj (ne _ (I.eR x c q))];exact I.eR x c q
 ·obtain⟨a1,a2,a3⟩:=I.pin p hp;exact⟨a1,by rw[aj (ne _ a2)];exact a2,a3⟩
 ·by_cases hb:b=a
  ·subst hb;rw[ae]at q;cases q;exact⟨ho,(I.hok b _ e).stay (fun _ _ _ q=>q) (fun c q=>by rw[aj (aS q e (by intro z;cases z))];exact q) fun c xs q=>by rw[aj (aS q e (by intro z;cases z))];exact q⟩
  ·rw[aj hb]at q;exact(I.hok b u q).stay (fun _ _ _ q=>q) (fun c q=>by rw[aj (aS q e (by intro z;cases z))];exact q) fun c xs q=>by rw[aj (aS q e (by intro z;cases z))];exact q
theorem Inv.Qk{tW:aQ}{σ0:St}{s0:Shared}{a:Addr}{kvs:List (List Key×V)}{ob:Obj}(I0:Inv X tW σ0 H s0)(e0:H a=some (.dT kvs))(I:Inv X pins σ H2 s)(e:H2 a=some (.jR ob (.dT kvs))):
 Inv X pins σ (upd H2 a (.dT kvs)) s:=by
 have ne:∀ b,H2 b=none->b≠a:=fun b h z=>by rw[z,e]at h;cases h
 obtain⟨ho,hd⟩:=(show bf X.prog X.w H2 s.heap a (.jR ob (.dT kvs)) from I.hok a _ e)
 refine⟨I.ok,I.os,I.bare,⟨I.base.keep,I.base.slot,fun b o q n hx=>?_,I.base.there,fun b xs q=>?_,fun b o u q=>?_,fun b ps q=>?_⟩,I.loc,I.cell,?_,fun x c q=>?_,fun p hp=>?_,fun b u q=>?_,I.len⟩
 ·have z:=I.base.free b o q n hx;rw[aj (ne b z)];exact z
 ·have z:=I.base.tups b xs q;rw[aj (aS z e (by intro z;cases z))]
  exact z
 ·have z:=I.base.jS b o u q;rw[aj (fun y=>by
   have z0:=I0.base.jS b o u q;rw[y,e0]at z0;cases z0)]
  exact z
 ·obtain⟨more,z⟩:=I.base.kX b ps q;exact⟨more,by rw[aj (aS z e (by intro z;cases z))];exact z⟩
 ·rw[aj (ne _ I.free)];exact I.free
 ·rw[aj (ne _ (I.eR x c q))];exact I.eR x c q
 ·obtain⟨a1,a2,a3⟩:=I.pin p hp;exact⟨a1,by rw[aj (ne _ a2)];exact a2,a3⟩
 ·by_cases hb:b=a
  ·subst hb;rw[ae]at q;cases q;exact hd.stay (fun _ _ _ q=>q) (fun c q=>by rw[aj (aS q e (by intro z;cases z))];exact q) fun c xs q=>by rw[aj (aS q e (by intro z;cases z))];exact q
  ·rw[aj hb]at q;exact(I.hok b u q).stay (fun _ _ _ q=>q) (fun c q=>by rw[aj (aS q e (by intro z;cases z))];exact q) fun c xs q=>by rw[aj (aS q e (by intro z;cases z))];exact q
def BW(X:Cx)(b:Addr):Prop:=X.s₀.heap.objs.size<=b/\b≠X.env.locals/\b∉X.fs/\(∀ x c,X.env.cells.lookup x=some c->c≠b)/\∀ p∈X.pn,p.1≠b
theorem Inv.Ih(I:Inv X pins σ H s){b:Addr}(hb:s.heap.objs.size<=b):BW X b :=
 let⟨_,f1,f2,_,f4,f5⟩:=I.D0 hb (I.hok.fresh hb)
 ⟨Nat.le_trans I.sz hb,f1,f2,f4,fun p hp=>f5 p (List.mem_append_left _ hp)⟩
theorem Inv.je{pa pb:aQ}{b:Addr}{o:Obj}{h' : Heap}{t' : Nat}(I:Inv X pa σ H s)(hb:BW X b)(hin:(b,o)∈pa)(k:∀ c u,c≠b->s.heap.get? c=some u->h'.get? c=some u)
 (hp:∀ p∈pb,(p.1=b/\h'.get? b=some p.2/\∀ v,p.2.data≠.cell v)\/(p∈pa/\p.1≠b)):Inv X pb σ H { s with heap:=h',toks:=t'}:=by
 obtain⟨b1,b2,b3,b4,b5⟩:=hb;have n:=(I.pin (b,o) (List.mem_append_right _ hin)).2.1;have J:=(I.fC (CT:=pa.filter fun p=>decide (p.1≠b)) fun p hp=>I.pin p (List.mem_append_right _ (List.mem_filter.mp hp).1)).turned (t':=t') k n b2 (.inr b1) b4 (fun p hp=>by
  rcases List.mem_append.mp hp with hp|hp
  ·exact b5 p hp
  ·exact of_decide_eq_true (List.mem_filter.mp hp).2)
 refine J.fC fun p h=>?_
 rcases hp p h with⟨e,g,d⟩|⟨m,ne⟩
 ·refine⟨by rw[e];exact g,by rw[e];exact n,by rw[e];exact b2,by rw[e];exact b3,d⟩
 ·exact J.pin p (List.mem_append_right _ (List.mem_filter.mpr ⟨m,decide_eq_true ne⟩))
end
section
variable {X:Cx}{pins:aQ}{σ:St}{H2:Hp}{params:Arguments}{body:Expr}{scope:Scope}{frees:List Str}{js:List Nat}{x:Str}{te:TE}{f c a It S:Addr}{oc ob:Obj}{ctv:Value}{q:Str}{kvs:List (List Key×V)}
 {es:Array DictEntry} {ep:Nat} {ka:Nat->Addr} {ks:Nat->List Int} {PZ:Addr} {R:Result->Shared->Prop}
structure BX(X:Cx)(σ:St)(H2:Hp)(params:Arguments)(body:Expr)(scope:Scope)(frees:List Str)(js:List Nat)(x:Str)(te:TE)(f c a It S:Addr)(oc ob:Obj)(ctv:Value)(kvs:List (List Key×V))(es:Array DictEntry)(ep:Nat)(ka:Nat->Addr)(ks:Nat->List Int)(PZ:Addr):Prop where
 T:c6 X scope [x] frees js
 hx:scope.names.lookup x=some .local
 hh:X.A.handled=none
 dp:X.A.in1.depth<recursionLimit
 un:X.A.in1.units<cLine
 hb:∀ u,bindArgs (zY X params body scope c ctv) ⟨[u],[]⟩=pure [(x,u)]
 co:scope.isCoroutine=false
 gen:scope.isGenerator=false
 he:∀ s H,PE (tX X ([x]++frees) scope f c X.A.in1 s H) body te
 code:CodeObj oc (X.env.qual ++ "<lambda>")
 hc:H2 c=some (.jR oc (.own PZ))
 ha:H2 a=some (.jR ob (.dT kvs))
 hob:ob.ExactDict/\ob.data = .dict es ep
 key:∀(i:Nat) (e:DictEntry),(es[i]?:Option DictEntry)=some e->e.key = .ref (ka i)
 turn:∀ i H3,i<es.size->aq H2 H3->te (some (.ref (ka i))::eN σ js) H3 fun v H4=>aq H3 H4/\∃ d,v = .ref d/\aV X.K H4 d ((ks i).map V.int)
 oS:BW X S
 oI:BW X It
 SI:S≠It
 fS:f≠S
 fI:f≠It
theorem z8{pa:aQ}{s:Shared}{H3:Hp}{i:Nat}{E:dh}(F:BX X σ H2 params body scope frees js x te f c a It S oc ob ctv kvs es ep ka ks PZ)(hi:i<es.size)(hs:aq H2 H3)(I:Inv X pa σ H3 s)
 (hf:(f,dF X params body scope c ctv)∈pa) :
 wpAny (model X.prog X.w) X.A.in1 (call (.ref f) [.ref (ka i)]) (fun u s'=>∃ d H4,u = .ref d/\Inv X pa σ H4 s'/\aq H2 H4/\aq H3 H4/\aV X.K H4 d ((ks i).map V.int)) E s:=by
 obtain⟨hct,_⟩:=(show bf X.prog X.w H3 s.heap c (.jR oc (.own PZ)) from I.hok c _ (hs _ _ F.hc))
 refine wpAny_mono (z7 (v:=.ref (ka i)) I F.T F.hx I.ok.frames rfl F.dp hf (F.code.rec hct) (F.hb _) F.co F.gen (F.he s H3) rfl (F.turn i H3 hi hs)) (fun u s' ⟨v,H4,J,r,q1,d,e,q2⟩=>?_) fun _ _ z=>z
 subst e;cases r;exact⟨d,H4,rfl,J,fun b o z=>q1 _ _ (hs _ _ z),q1,q2⟩
theorem Ii{pa:aQ}{s:Shared}{H3:Hp}{d d' : Addr}{ns ms:List Int}{A:Around}{E:dh}{Q:dh}(I:Inv X pa σ H3 s)(h1:aV X.K H3 d (ns.map V.int))(h2:aV X.K H3 d' (ms.map V.int))(hu:A.units<cLine)
 (q:Q (.bool (HT.lexLt ns ms)) s):wpAny (model X.prog X.w) A (richCompare .Lt (.ref d) (.ref d')) Q E s:=by
 obtain⟨its,r1,p1,_⟩:=I.tuple h1;obtain⟨its2,r2,p2,_⟩:=I.tuple h2;exact(HT.Bo p1 p2 (intsAre_of r1) (intsAre_of r2) hu q:wpAny (model X.prog X.w) A (compareOp .Lt (.ref d) (.ref d')) Q E s)
abbrev mD(pins:aQ)(S It f:Addr)(oS oI lo:Obj):aQ:=(S,oS)::(It,oI)::(f,lo)::pins
theorem Ij(F:BX X σ H2 params body scope frees js x te f c a It S oc ob ctv kvs es ep ka ks PZ)(pI:∀ p∈pins,p.1≠It)(pS:∀ p∈pins,p.1≠S)
 (hR:∀ i s' H3,i<es.size->(∀ j,j<es.size->HT.lexLt (ks j) (ks i)=false)->aq H2 H3->Inv X pins σ H3 s'->R (.ok (.ret (.ref (ka i)))) s') :
 ∀(r j i:Nat) (s:Shared) (H3:Hp) (d:Addr) (n:Nat) (oI:Obj),es.size-j=r->j<=es.size->i<j->aq H2 H3->Inv X (mD pins S It f (seqObj "list" #[.ref (ka i),.ref d] n) oI (dF X params body scope c ctv)) σ H3 s->RS oI a j es.size ep->
  aV X.K H3 d ((ks i).map V.int)->(∀ j',j'<j->HT.lexLt (ks j') (ks i)=false)->codeAny (model X.prog X.w) X.A (.builtin "min.loop" ⟨[.ref It,.ref f,.ref S],[]⟩) R s:=by
 have hname:(toString "min" ++ toString ".loop":String)="min.loop":=by decide
 intro r
 induction r with
 | zero =>
   intro j i s H3 d n oI hr hj hij hs I hk hd oJ;have Ba:j=es.size:=by lia
   have t8:=I.pin (S,_) (List.mem_append_right _ (.head _));have Ik:=I.pin (It,oI) (List.mem_append_right _ (.tail _ (.head _)));obtain⟨hob,_⟩:=(show bf X.prog X.w H3 s.heap a (.jR ob (.dT kvs)) from I.hok a _ (hs _ _ F.ha))
   refine codeAny_builtin PySem.F.entry_min_loop ?_;rw[Around.under_plainId PySem.F.plain_min_loop _];show wpAny _ X.A.in1 (seqItems? (.ref S) >>= _) _ _ _;refine wpAny_bind (wpAny_seqItems t8.1 rfl ?_);show wpAny _ X.A.in1 (tryCatch (pyNext (.ref It)) _ >>= _) _ _ _;refine wpAny_bind (wpAny_tryCatch (tZ Ik.1 hk ⟨ob,hob,F.hob⟩ ?_));rw[Ba,Array.getElem?_eq_none (Nat.le_refl _)];refine⟨F.hh,fun h' eb=>?_⟩
   have I1:=I.je (t':=s.toks) (h':=h') (pb:=(S,seqObj "list" #[.ref (ka i),.ref d] n)::pins) F.oI (List.Mem.tail _ (.head _)) (fun b u hb e=>eb b u hb e) (fun p hp=>by
    rcases List.mem_cons.mp hp with rfl|hp
    ·exact .inr ⟨.head _,F.SI⟩
    ·exact .inr ⟨.tail _ (.tail _ (.tail _ hp)),pI p hp⟩)
   have Il:=I1.pin (S,_) (List.mem_append_right _ (.head _));show wpAny _ X.A.in1 (updateSeq S (fun _=>#[]) >>= _) _ _ _
   refine wpAny_bind (wpAny_updateSeq Il.1 rfl (wpAny_bind (wpAny_letGo (wpAny_pure ?_))));have s1:=Heap.SameBut.update h' S (Obj.mapSeq fun _=>(#[]:Array Value))
   exact hR i _ H3 (by lia) (fun j' hj'=>oJ j' (by lia)) hs (I1.je (t':=s.toks) (pb:=pins) F.oS (.head _) (fun b u hb e=>(s1.2 b hb).trans e) fun p hp=>.inr ⟨.tail _ hp,pS p hp⟩)
 | succ r ih =>
   intro j i s H3 d n oI hr hj hij hs I hk hd oJ;have Ba:j<es.size:=by lia
   have t8:=I.pin (S,_) (List.mem_append_right _ (.head _));have Ik:=I.pin (It,oI) (List.mem_append_right _ (.tail _ (.head _)));obtain⟨hob,_⟩:=(show bf X.prog X.w H3 s.heap a (.jR ob (.dT kvs)) from I.hok a _ (hs _ _ F.ha))
   refine codeAny_builtin PySem.F.entry_min_loop ?_;rw[Around.under_plainId PySem.F.plain_min_loop _];show wpAny _ X.A.in1 (seqItems? (.ref S) >>= _) _ _ _;refine wpAny_bind (wpAny_seqItems t8.1 rfl ?_);show wpAny _ X.A.in1 (tryCatch (pyNext (.ref It)) _ >>= _) _ _ _;refine wpAny_bind (wpAny_tryCatch (tZ Ik.1 hk ⟨ob,hob,F.hob⟩ ?_));have hget:(es[j]?:Option DictEntry)=some es[j]:=Array.getElem?_eq_getElem Ba;rw[hget];intro h' Ge TF hk' sb;have I1:=I.je (t':=s.toks) (h':=h') (pb:=mD pins S It f (seqObj "list" #[.ref (ka i),.ref d] n) Ge (dF X params body scope c ctv)) F.oI (List.Mem.tail _ (.head _)) (fun b u hb e=>(sb.2 b hb).trans e) (fun p hp=>by
    rcases List.mem_cons.mp hp with rfl|hp
    ·exact .inr ⟨.head _,F.SI⟩
    ·rcases List.mem_cons.mp hp with rfl|hp
     ·exact .inl ⟨rfl,TF,fun v z=>by rw[hk'.2]at z;cases z⟩
     ·rcases List.mem_cons.mp hp with rfl|hp
      ·exact .inr ⟨.tail _ (.tail _ (.head _)),F.fI⟩
      ·exact .inr ⟨.tail _ (.tail _ (.tail _ hp)),pI p hp⟩)
   rw[F.key j _ hget];show wpAny _ X.A.in1 (tryCatch (holding [.ref (ka j)] (call (.ref f) [.ref (ka j)])) _ >>= _) _ _ _;refine wpAny_bind (wpAny_tryCatch (wpAny_holding (wpAny_mono (z8 F Ba hs I1 (List.Mem.tail _ (.tail _ (.head _)))) (fun u s2 hu=>?_) fun _ _ z=>z)))
   obtain⟨d2,H4,rfl,I2,GZ,XZ,hd2⟩:=hu;have hdo:aV X.K H4 d ((ks i).map V.int):=XZ.Xr hd;show wpAny _ X.A.in1 (tryCatch (holding [.ref (ka j),.ref d2] (richCompare .Lt (.ref d2) (.ref d) >>= _)) _ >>= _) _ _ _;refine wpAny_bind (wpAny_tryCatch (wpAny_holding (wpAny_bind (Ii I2 hd2 hdo F.un ?_))));refine wpAny_bind (wpAny_holding (wpAny_truthy_bool (wpAny_bind (wpAny_letGo (wpAny_pure ?_)))));have lE:=I2.pin (S,_) (List.mem_append_right _ (.head _));cases hl:HT.lexLt (ks j) (ks i) with
   | true =>
     have s1:=Heap.SameBut.update s2.heap S (Obj.mapSeq fun _=>(#[.ref (ka j),.ref d2]:Array Value))
     obtain⟨n2,hn2⟩:∃ n2,(s2.heap.update S (Obj.mapSeq fun _=>(#[.ref (ka j),.ref d2]:Array Value))).get? S=some (seqObj "list" #[.ref (ka j),.ref d2] n2):=⟨_,get?_update_seq lE.1 fun _=>#[.ref (ka j),.ref d2]⟩
     simp only[if_true];refine wpAny_bind (wpAny_updateSeq lE.1 rfl (wpAny_bind (wpAny_letGo ?_)));rw[hname];have I3:=I2.je (t':=s2.toks) (pb:=mD pins S It f (seqObj "list" #[.ref (ka j),.ref d2] n2) Ge (dF X params body scope c ctv)) F.oS (.head _) (fun b u hb e=>(s1.2 b hb).trans e) (fun p hp=>by
      rcases List.mem_cons.mp hp with rfl|hp
      ·exact .inl ⟨rfl,hn2,fun v z=>by cases z⟩
      ·rcases List.mem_cons.mp hp with rfl|hp
       ·exact .inr ⟨.tail _ (.head _),F.SI.symm⟩
       ·rcases List.mem_cons.mp hp with rfl|hp
        ·exact .inr ⟨.tail _ (.tail _ (.head _)),F.fS⟩
        ·exact .inr ⟨.tail _ (.tail _ (.tail _ hp)),pS p hp⟩)
     refine wpAny_pure ⟨plainId_quiet PySem.F.plain_min_loop _,ih (j+1) j _ H4 d2 n2 Ge (by lia) (by lia) (by lia) GZ I3 hk' hd2 fun j' hj'=>?_⟩
     by_cases e:j' = j
     ·rw[e];exact HT.fH _
     ·exact HT.tY (oJ j' (by lia)) hl
   | false =>
     simp only[Bool.false_eq_true,if_false];refine wpAny_bind (wpAny_letGo ?_);rw[hname];refine wpAny_pure ⟨plainId_quiet PySem.F.plain_min_loop _,ih (j+1) i _ H4 d n Ge (by lia) (by lia) (by lia) GZ I2 hk' hdo fun j' hj'=>?_⟩
     by_cases e:j' = j
     ·rw[e];exact hl
     ·exact oJ j' (by lia)
end
theorem boot_min:bootBuiltins "min"=some (.builtin "min"):=by kernel_rfl
def Ql(K:bJ)(P:Addr)(q:Str)(lp:Pos)(ta:TA)(te:TE)(js:List Nat):TE:=fun σ H Q=>ta σ H fun vs H1=>∃ a kvs,∃ ks:Nat->List Int,vs=[.ref a]/\H1 a=some (.dT kvs)/\0<kvs.length/\H1 P=some (.iY (dY q lp))/\
 (∀ ob H3,(∀ b u,H1 b=some u->b≠a->(∀ y,u≠.own y)->(∀ qs,u≠.iY qs)->H3 b=some u)->H3 a=some (.jR ob (.dT kvs))->
  ∀(i:Nat) kv b,kvs[i]?=some kv->H3 b=some (.tup (kv.1.map kV))->te (some (.ref b)::eN σ js) H3 fun v H4=>aq H3 H4/\∃ d,v = .ref d/\aV K H4 d ((ks i).map V.int))/\
 ∀(i:Nat) kv b H4,kvs[i]?=some kv->(∀ j,j<kvs.length->HT.lexLt (ks j) (ks i)=false)->aq H1 H4->H4 b=some (.tup (kv.1.map kV))->Q (.ref b) H4
theorem p8{α β:Type}{R:α->β->Prop}:∀{l₁:List α} {l₂:List β},Paired R l₁ l₂->∀{i:Nat} {a:α} {b:β},l₁[i]?=some a->l₂[i]?=some b->R a b
 | _,_,.nil,i,_,_,h,_=>by simp at h
 | _,_,.cons r t,0,_,_,h1,h2=>by
   simp at h1 h2;subst h1 h2;exact r
 | _,_,.cons r t,i+1,_,_,h1,h2=>p8 t (by simpa using h1) (by simpa using h2)
section
variable {X:Cx}{params:Arguments}{body e:Expr}{scope:Scope}{lp p pos kp:Pos}{frees:List Str}{js:List Nat}{x:Str}{ta:TA}{te:TE}{c0 P:Addr}{k:Nat}
theorem K5(hr:eM (k+2) X.A)(T:c6 X scope [x] frees js)(hx:scope.names.lookup x=some .local)(hg:Gl X "min")(hm:X.mg "min"=none)(hcode:X.env.code = .ref c0)(hK:PySem.W.codeHdIn X.K c0 P=true)(ha:PA X [e] ta)
 (he:∀ f c s H,eM k (tX X ([x]++frees) scope f c X.A.in1 s H).A->PE (tX X ([x]++frees) scope f c X.A.in1 s H) body te)
 (hb:∀ c ctv u,bindArgs (zY X params body scope c ctv) ⟨[u],[]⟩=pure [(x,u)]:=by intro _ _ _;rfl) (hco:scope.isCoroutine=false:=by rfl) (hgen:scope.isGenerator=false:=by rfl)
 (hdef:defaultsOf params X.env=([],[]):=by rfl)
 (hs:backTo pos (starEach [e] X.env)=(false,eval e X.env)::backTo pos (starEach [] X.env):=by rfl) (hs2:(backTo pos (starEach [e] X.env)).any (·.1)=false:=by rfl) :
 PE X (.Call (.Name "min" p) [e] [⟨some (Str.ofString "key"),.Lambda params body scope lp,kp⟩] pos) (Ql X.K P (X.env.qual ++ "<lambda>") lp ta te js):=by
 intro pins s σ H Q I h;refine wpAny_Call_Name_kw (jr I hg hm boot_min (callWith_kw (cT (ha pos pins s σ H _ I h) fun us s1 hq=>?_) hs hs2 rfl rfl))
 obtain⟨vs,H1,I1,r1,a,kvs,ks,rfl,hda,hne,hP,hturn,Nt⟩:=hq;obtain⟨u,rfl,rx⟩:=vals1 r1;cases rx;refine kws_cons (zZ I1 T hcode hK hP hdef fun f c oc ctv s2 hc z4 hoc J=>kws_nil ?_)
 show wpAny _ X.A (call (.builtin "min") [.ref a] [(Str.ofString "key",.ref f)]) _ _ s2;have hname:(toString "min" ++ toString ".loop":String)="min.loop":=by decide
 have hla:=r9 (oc:=oc) hP hc hda (by intro y z;cases z) (by intro y z;cases z)
 obtain⟨hz,hsys,xs,pr,ob,es,ep,hgo,hex,hdat,hes,hnd⟩:=(show bf X.prog X.w (ff H1 P c oc (X.env.qual ++ "<lambda>") lp) s2.heap a (.dT kvs) from J.hok a _ hla)
 have J2:=J.K4 hla hgo;have hsz:es.size=kvs.length:=by
  have:=congrArg List.length hes;rw[List.length_map,<-pr.length]at this
  simpa using this
 have hxs:xs.length=kvs.length:=pr.length.symm;have hka:∀ i,i<kvs.length->∃ kv y,kvs[i]?=some kv/\xs[i]?=some y/\ff H1 P c oc (X.env.qual ++ "<lambda>") lp y.2.1=some (.tup (kv.1.map kV)):=fun i hi=>by
  have e1:kvs[i]?=some kvs[i]:=List.getElem?_eq_getElem hi;have e2:xs[i]?=some (xs[i]'(by lia)):=List.getElem?_eq_getElem _
  exact⟨_,_,e1,e2,(p8 pr e1 e2).2.1⟩
 have Nu:ff H1 P c oc (X.env.qual ++ "<lambda>") lp P=some (.iY (dY (X.env.qual ++ "<lambda>") lp++mY lp c)):=ae;have K6:ff H1 P c oc (X.env.qual ++ "<lambda>") lp c=some (.jR oc (.own P)):=by unfold ff;rw[aj z4,ae]
 have ca:c≠a:=aS K6 hla (by intro z;cases z)
 have pa:P≠a:=aS Nu hla (by intro z;cases z)
 generalize Kh:upd (ff H1 P c oc (X.env.qual ++ "<lambda>") lp) a (.jR ob (.dT kvs))=H2 at J2;have at2:∀ b u,b≠a->ff H1 P c oc (X.env.qual ++ "<lambda>") lp b=some u->H2 b=some u:=fun b u n e=>by rw[<-Kh,aj n];exact e
 have a2:H2 a=some (.jR ob (.dT kvs)):=by rw[<-Kh,ae]
 let ka:Nat->Addr:=fun i=>((xs[i]?).map (·.2.1)).getD 0
 have Nv:∀{i:Nat} {y:List Key×Addr×Value},xs[i]?=some y->ka i=y.2.1:=fun {i y} e=>by show((xs[i]?).map (·.2.1)).getD 0=_;rw[e];rfl
 refine kmk_tree PySem.F.kind_min PySem.F.plain_min PySem.F.entry_min (kmk_min_key _ _) ?_;show wpAny _ X.A.in1 (Builtin.Builtins.bindParams "min" ["key","default"] 0 ⟨[],[(Str.ofString "key",.ref f)]⟩ >>= _) _ _ s2;refine wpAny_bind (wpAny_of_eq (show Builtin.Builtins.bindParams "min" ["key","default"] 0 ⟨[],[(Str.ofString "key",.ref f)]⟩=pure [some (.ref f),none] from rfl) ?_)
 refine wpAny_bind (wpAny_pure (wpAny_bind (Ig hsys ⟨ob,hgo,hex,hdat⟩ (wpAny_bind (wpAny_newList ?_ (Nat.zero_le _))))));rw[hname];refine wpAny_pure ⟨plainId_quiet PySem.F.plain_min_loop _,?_⟩;generalize Nx:({ cls:=.type "dict_keyiterator",data:=.fields #[.ref a,.int 0 0,.int es.size 0,.int ep 0]}:Obj)=oI;have Vg:RS oI a 0 es.size ep:=by rw[<-Nx];exact⟨rfl,rfl⟩
 have hS:(s2.heap.push oI).objs.size=s2.heap.objs.size+1:=size_push' ..;have hk2:∀ b o,s2.heap.get? b=some o->((s2.heap.push oI).push (seqObj "list" #[] 0)).get? b=some o:=fun b o e=>Heap.get?_push_of_some _ (Heap.get?_push_of_some _ e)
 have gI:((s2.heap.push oI).push (seqObj "list" #[] 0)).get? s2.heap.objs.size=some oI:=Heap.get?_push_of_some _ (Heap.get?_push_size _ (by rw[<-Nx];rfl))
 have gS:((s2.heap.push oI).push (seqObj "list" #[] 0)).get? (s2.heap.push oI).objs.size=some (seqObj "list" #[] 0):=Heap.get?_push_size _ rfl;have K7:∀ p∈(f,dF X params body scope c ctv)::pins,p.1<s2.heap.objs.size:=fun p hp=>Heap.lt_size (J2.pin p (List.mem_append_right _ hp)).1
 have LY:=J2.Ih (Nat.le_refl s2.heap.objs.size);have oS:=J2.Ih (b:=(s2.heap.push oI).objs.size) (by rw[hS];exact Nat.le_succ _)
 have F:BX X σ H2 params body scope frees js x te f c a s2.heap.objs.size (s2.heap.push oI).objs.size oc ob ctv kvs es ep ka ks P:=by
  refine⟨T,hx,hr.hd,(hr.in1).depth,(hr.in1).Bm,fun u=>hb c ctv u,hco,hgen,fun s H=>he f c s H ((hr.in1).deeper _),hoc,at2 c _ ca K6,a2,⟨hex,hdat⟩,fun i e hi=>?_,fun i H3 hi Bb=>?_,oS,LY,by rw[hS];exact Nat.succ_ne_self _,?_,Nat.ne_of_lt (K7 _ (.head _))⟩
  ·have hi' : i<kvs.length:=by rw[<-hsz];exact(Array.getElem?_eq_some_iff.mp hi).1
   obtain⟨kv,y,e1,e2,_⟩:=hka i hi';have e3:=congrArg (fun l=>l[i]?) hes
   simp only[List.getElem?_map,e2,Option.map_some,Array.getElem?_toList]at e3;rw[hi]at e3;have e4:=Option.some.inj e3;rw[e4,Nv e2];rfl
  ·obtain⟨kv,y,e1,e2,e3⟩:=hka i (by lia)
   refine hturn ob H3 (fun b u eb nb n1 n2=>Bb _ _ (at2 b u nb (r9 hP hc eb n1 n2))) (Bb _ _ a2) i kv (ka i) e1 ?_
   rw[Nv e2];exact Bb _ _ (at2 _ _ (aS e3 hla (by intro z;cases z)) e3)
  ·rw[hS];exact Nat.ne_of_lt (Nat.lt_succ_of_lt (K7 _ (.head _)))
 have pI:∀ p∈pins,p.1≠s2.heap.objs.size:=fun p hp=>Nat.ne_of_lt (K7 p (.tail _ hp))
 have pS:∀ p∈pins,p.1≠(s2.heap.push oI).objs.size:=fun p hp=>by rw[hS];exact Nat.ne_of_lt (Nat.lt_succ_of_lt (K7 p (.tail _ hp)))
 have J3:Inv X (mD pins (s2.heap.push oI).objs.size s2.heap.objs.size f (seqObj "list" #[] 0) oI (dF X params body scope c ctv)) σ H2 { s2 with heap:=(s2.heap.push oI).push (seqObj "list" #[] 0)}:=by
  have K:=J2.kept (t':=s2.toks) hk2;refine K.fC fun p hp=>?_
  rcases List.mem_cons.mp hp with rfl|hp
  ·exact⟨gS,J2.hok.fresh (by rw[hS];exact Nat.le_succ _),oS.2.1,oS.2.2.1,fun v z=>by cases z⟩
  ·rcases List.mem_cons.mp hp with rfl|hp
   ·exact⟨gI,J2.hok.fresh (Nat.le_refl _),LY.2.1,LY.2.2.1,fun v z=>by rw[Vg.2]at z;cases z⟩
   ·exact K.pin p (List.mem_append_right _ hp)
 have h0:0<es.size:=by lia
 have hget:(es[0]?:Option DictEntry)=some es[0]:=Array.getElem?_eq_getElem h0;have t8:=J3.pin ((s2.heap.push oI).objs.size,seqObj "list" #[] 0) (List.mem_append_right _ (.head _));have Ik:=J3.pin (s2.heap.objs.size,oI) (List.mem_append_right _ (.tail _ (.head _)));refine codeAny_builtin PySem.F.entry_min_loop ?_;rw[Around.under_plainId PySem.F.plain_min_loop _];show wpAny _ X.A.in1 (seqItems? (.ref _) >>= _) _ _ _;refine wpAny_bind (wpAny_seqItems t8.1 rfl ?_);show wpAny _ X.A.in1 (tryCatch (pyNext (.ref s2.heap.objs.size)) _ >>= _) _ _ _;refine wpAny_bind (wpAny_tryCatch (tZ Ik.1 Vg ⟨ob,hk2 _ _ hgo,hex,hdat⟩ ?_));rw[hget];intro h' Ge TF hk' sb;have I4:=J3.je (t':=s2.toks) (h':=h') (pb:=mD pins (s2.heap.push oI).objs.size s2.heap.objs.size f (seqObj "list" #[] 0) Ge (dF X params body scope c ctv)) F.oI (List.Mem.tail _ (.head _)) (fun b u hb e=>(sb.2 b hb).trans e) (fun p hp=>by
  rcases List.mem_cons.mp hp with rfl|hp
  ·exact .inr ⟨.head _,F.SI⟩
  ·rcases List.mem_cons.mp hp with rfl|hp
   ·exact .inl ⟨rfl,TF,fun v z=>by rw[hk'.2]at z;cases z⟩
   ·rcases List.mem_cons.mp hp with rfl|hp
    ·exact .inr ⟨.tail _ (.tail _ (.head _)),F.fI⟩
    ·exact .inr ⟨.tail _ (.tail _ (.tail _ hp)),pI p hp⟩)
 rw[F.key 0 _ hget];show wpAny _ X.A.in1 (tryCatch (holding [.ref (ka 0)] (call (.ref f) [.ref (ka 0)])) _ >>= _) _ _ _;refine wpAny_bind (wpAny_tryCatch (wpAny_holding (wpAny_mono (z8 F h0 (aq.refl _) I4 (List.Mem.tail _ (.tail _ (.head _)))) (fun u s3 hu=>?_) fun _ _ z=>z)))
 obtain⟨d2,H4,rfl,I5,GZ,_,hd2⟩:=hu;have lE:=I5.pin ((s2.heap.push oI).objs.size,_) (List.mem_append_right _ (.head _));have s1':=Heap.SameBut.update s3.heap (s2.heap.push oI).objs.size (Obj.mapSeq fun _=>(#[.ref (ka 0),.ref d2]:Array Value))
 obtain⟨n2,hn2⟩:∃ n2,(s3.heap.update (s2.heap.push oI).objs.size (Obj.mapSeq fun _=>(#[.ref (ka 0),.ref d2]:Array Value))).get? (s2.heap.push oI).objs.size=some (seqObj "list" #[.ref (ka 0),.ref d2] n2):=⟨_,get?_update_seq lE.1 fun _=>#[.ref (ka 0),.ref d2]⟩
 show wpAny _ X.A.in1 (updateSeq (s2.heap.push oI).objs.size (fun _=>#[.ref (ka 0),.ref d2]) >>= _) _ _ _
 refine wpAny_bind (wpAny_updateSeq lE.1 rfl ?_);rw[hname];have I6:=I5.je (t':=s3.toks) (pb:=mD pins (s2.heap.push oI).objs.size s2.heap.objs.size f (seqObj "list" #[.ref (ka 0),.ref d2] n2) Ge (dF X params body scope c ctv)) F.oS (.head _) (fun b u hb e=>(s1'.2 b hb).trans e) (fun p hp=>by
  rcases List.mem_cons.mp hp with rfl|hp
  ·exact .inl ⟨rfl,hn2,fun v z=>by cases z⟩
  ·rcases List.mem_cons.mp hp with rfl|hp
   ·exact .inr ⟨.tail _ (.head _),F.SI.symm⟩
   ·rcases List.mem_cons.mp hp with rfl|hp
    ·exact .inr ⟨.tail _ (.tail _ (.head _)),F.fS⟩
    ·exact .inr ⟨.tail _ (.tail _ (.tail _ hp)),pS p hp⟩)
 refine wpAny_pure ⟨plainId_quiet PySem.F.plain_min_loop _,Ij F pI pS (fun i s' H3 hi best Bb I7=>?_) _ 1 0 _ H4 d2 n2 Ge rfl h0 (Nat.lt_succ_self _) GZ I6 hk' hd2 fun j hj=>?_⟩
 ·obtain⟨kv,y,e1,e2,e3⟩:=hka i (by lia)
  have i3:=Bb _ _ a2;have I8:=Inv.Qk J hla I7 i3;have p3:upd H3 a (.dT kvs) P=some (.iY (dY (X.env.qual ++ "<lambda>") lp++mY lp c)):=by rw[aj pa];exact Bb _ _ (at2 _ _ pa Nu)
  have c3:upd H3 a (.dT kvs) c=some (.jR oc (.own P)):=by rw[aj ca];exact Bb _ _ (at2 _ _ ca K6)
  have I9:=z5 I1 hP hc z4 hoc I8 p3 c3;have ya:y.2.1≠a:=aS e3 hla (by intro z;cases z)
  have y3:upd H3 a (.dT kvs) y.2.1=some (.tup (kv.1.map kV)):=by rw[aj ya];exact Bb _ _ (at2 _ _ ya e3)
  refine⟨.ref (ka i),_,I9,rfl,Nt i kv (ka i) _ e1 (fun j hj=>best j (by lia)) (z6 hP hc z4 (oc:=oc) fun b u eb=>?_) ?_⟩
  ·by_cases hb:b=a
   ·subst hb;rw[hla]at eb;rw[ae];exact eb
   ·rw[aj hb];exact Bb _ _ (at2 _ _ hb eb)
  ·rw[Nv e2];unfold given;rw[aj (aS y3 p3 (by intro z;cases z)),aj (aS y3 c3 (by intro z;cases z))]
   exact y3
 ·have e:j=0:=by lia
  rw[e];exact HT.fH _
end
section
variable {P:Program}{w:World}{A:Around}{E:dh}{s:Shared}{a:Addr}{es:Array DictEntry}{ep:Nat}
theorem Ny(hd:(a==sysModules)=false):MeetsIn P w (Builtin.«dict.__len__» ⟨[.ref a],[]⟩) (fun _ R s=>∃ es ep,RQ s.heap a es ep/\R (.ok (.ret (.int es.size s.toks))) { s with toks:=s.toks+1}) :=
 .of_wp fun A R s ⟨es,ep,⟨o,ho,_,hdat⟩,h⟩=>by
  show wpAny _ _ (dictSize a >>= _) _ _ s;unfold dictSize;refine wpAny_bind (wpAny_bind (wpAny_dictEntries ho hdat (wpAny_pure ?_)));show wpAny _ _ (Builtin.Dict.pendingCount a >>= _) _ _ s;refine wpAny_bind (wpAny_pendingCount_other hd (wpAny_ret_mkInt ?_));rw[Nat.add_zero];exact h
theorem EO{Q:dh}(hd:(a==sysModules)=false)(g:RQ s.heap a es ep)(hfit:(es.size:Int)<2^63)(h:Q (.int es.size (s.toks+1)) { s with toks:=s.toks+1+1}):
 wpAny (model P w) A (call (.builtin "len") [.ref a]) Q E s:=by
 have hT:s.TypeIs (.ref a) "dict":=let⟨o,ho,hc,_⟩:=g;⟨o,ho,hc.1⟩;refine Calls.call_function_entry kind_len plain_len entry_len (args_len1 _) ?_;unfold Builtin.«len»;refine wpAny_bind (m:=oneArg "len" _) (wpAny_pure ?_);refine wpAny_bind (m:=callSpecial? (.ref a) (Str.ofString "__len__")) (wpAny_callSpecial?_slot (name:=Str.ofString "__len__") hT PySem.F.slot_dict_len
  (call_meetsIn PySem.F.slot_dict_len hT PySem.F.entry_dict_len (PySem.F.args_dict_len_1 _) (Ny hd) ⟨es,ep,g,?_⟩))
 show wpAny _ _ _ _ _ { s with toks:=s.toks+1}
 refine wpAny_bind (wpAny_holding (wpAny_pure (wpAny_bind (wpAny_letGo ?_))));show wpAny _ _ (if((es.size:Nat):Int)<0 then _ else _) _ _ _
 rw[if_neg (by lia)]
 show wpAny _ _ (if((es.size:Nat):Int) ≥ 2^63 then _ else _) _ _ _
 rw[if_neg (by lia)]
 exact wpAny_bind (wpAny_mkInt (wpAny_pure ⟨_,rfl,h⟩))
end
theorem erase_filter{K α:Type}[DecidableEq K]{k:K}{p:α}:∀{xs:List (K×α)} {j:Nat},(xs.map (·.1)).Nodup->xs[j]?=some (k,p)->xs.eraseIdx j=xs.filter fun x=>decide (x.1≠k)
 | [],j,_,h=>by simp at h
 | x::r,0,nd,h=>by
   simp at h;subst h;rw[List.map_cons,List.nodup_cons]at nd;rw[List.eraseIdx_cons_zero,List.filter_cons,if_neg (by simp)]
   refine(List.filter_eq_self.mpr fun y hy=>?_).symm
   have z:y.1≠k:=fun z=>nd.1 (List.mem_map.mpr ⟨y,hy,z⟩)
   simp[z]
 | x::r,j+1,nd,h=>by
   rw[List.map_cons,List.nodup_cons]at nd;have h:r[j]?=some (k,p):=by simpa using h
   have hx:x.1≠k:=fun z=>nd.1 (by rw[z];exact List.mem_map_of_mem (f:=(·.1)) (List.mem_of_getElem? h))
   rw[List.eraseIdx_cons_succ,List.filter_cons,if_pos (decide_eq_true hx),erase_filter nd.2 h]
theorem m6{α β:Type}(f:α->β):∀(l:List α) (i:Nat),(l.map f).eraseIdx i=(l.eraseIdx i).map f
 | [],_=>rfl
 | _::_,0=>rfl
 | x::r,i+1=>by rw[List.map_cons,List.eraseIdx_cons_succ,List.eraseIdx_cons_succ,List.map_cons,m6 f r i]
theorem KT.drop{H:Hp}{kvs:List (List Key×V)}{xs:List (List Key×Addr×Value)}(r:KT H kvs xs)(k:List Key):KT H (c8 kvs k) (xs.filter fun x=>decide (x.1≠k)):=by
 unfold c8
 induction r with
 | nil=>exact .nil
 | @cons p q ps qs h t ih =>
   rw[List.filter_cons,List.filter_cons]
   by_cases e:p.1=k
   ·rw[if_neg (by simp[e]),if_neg (by simp[h.1.symm.trans e])];exact ih
   ·have e' : ¬ q.1=k:=fun z=>e (h.1.trans z)
    rw[if_pos (by simp[e]),if_pos (by simp[e'])];exact .cons h ih
section
variable {P:Program}{w:World}{A:Around}{E:dh}{s:Shared}{K:Type}[DecidableEq K]{knd:HeapKind P w K}{d b:Addr}{xs:List (K×Addr×Value)}{k:K}{j:Nat}{p:Addr×Value}
theorem Nz{Q:Option DictEntry->Shared->Prop}(hu:knd.room A)(hkey:knd.is s.heap k b)(hm:s.heap.DictOfH knd d xs)(hj:xs[j]?=some (k,p))(hsz:xs.length<=sizeLine)
 (h:∀ e h' o' es' CS,e.val=p.2->h'.get? d=some o'->o'.ExactDict->o'.data = .dict es' CS->es'.toList=(xs.eraseIdx j).map (entryOfKey knd)->Heap.SameBut d s.heap h'->Q (some e) { s with heap:=h',toks:=s.toks+knd.draws k}) :
 wpAny (model P w) A (Builtin.Dict.takeOut d (.ref b)) Q E s:=by
 obtain⟨o,es,ep,ho,hc,hd,he,his,hn⟩:=hm;unfold Builtin.Dict.takeOut
 try with_reducible refine wpAny_holding ?_
 refine wpAny_bind (knd.pyHash hu hkey (wpAny_bind (wpAny_dictFind_heap (s:={ s with toks:=s.toks+knd.draws k}) hu hkey ho hd he his hn (fun hno=>absurd hj (hno j p)) fun j' p' hj'=>?_)))
 have X0:j' = j:=idxH_unique hn hj' hj;subst X0;refine wpAny_bind (wpAny_dictEntries (s:={ s with toks:=s.toks+knd.draws k}) ho hd ?_)
 rw[entry_at he j',hj];refine wpAny_bind (wpAny_updateDictKeys (hz:=by have e:=size_of_entries he;lia) (s:={ s with toks:=s.toks+knd.draws k}) ho hd (wpAny_pure (h _ _ _ _ (ep+1) rfl (Heap.get?_update_self _ ho (Obj.isFreed_of_dict (Obj.data_mapDictKeys hd _))) (hc.mapDictKeys _) (Obj.data_mapDictKeys hd _) ?_ (Heap.SameBut.update ..))))
 rw[<-m6,<-he];obtain⟨l⟩:=es;simp
theorem Qm{Q:dh}(hu:knd.room A.in1)(hkey:knd.is s.heap k b)(hm:s.heap.DictOfH knd d xs)(hj:xs[j]?=some (k,p))(hsz:xs.length<=sizeLine)
 (h:∀ h' o' es' CS,h'.get? d=some o'->o'.ExactDict->o'.data = .dict es' CS->es'.toList=(xs.eraseIdx j).map (entryOfKey knd)->Heap.SameBut d s.heap h'->Q p.2 { s with heap:=h',toks:=s.toks+knd.draws k}) :
 wpAny (model P w) A (call (.builtin "dict.pop") [.ref d,.ref b]) Q E s:=by
 have hT:=hm.typeIs;refine wpAny_call_entry PySem.F.slot_dict_pop hT PySem.F.entry_dict_pop ?_ (PySem.F.args_dict_pop_2 _ _);unfold Builtin.«dict.pop» Builtin.Dict.keyAndDefault;refine wpAny_bind (wpAny_bind (wpAny_notOrdered_dict hT ?_));show wpAny _ _ (pure (d,Value.ref b,(none:Option Value))) _ _ s;refine wpAny_pure ?_;obtain⟨o,es,ep,ho,hc,hd,he,his,hn⟩:=id hm;have hne:es.isEmpty=false:=by
  have e:=size_of_entries he;have hl:=(List.getElem?_eq_some_iff.mp hj).1;rw[Array.isEmpty_eq_false_iff_exists_mem];exact⟨es[j]'(by lia),Array.getElem_mem _⟩
 have hkp:(keyPart (Value.ref b)).isSome=false:=rfl;simp only[hkp,Bool.false_eq_true,if_false];refine wpAny_bind (wpAny_dictEntries ho hd (wpAny_bind (wpAny_pure ?_)));rw[hne];simp only[Bool.false_eq_true,if_false];refine wpAny_bind (Nz hu hkey hm hj hsz fun e h' o' es' CS e1 e2 e3 e4 e5 e6=>?_)
 simp only[Option.isNone_some,Bool.false_eq_true,if_false];refine wpAny_bind (wpAny_letGo (wpAny_pure ⟨e.val,rfl,?_⟩));rw[e1];exact h h' o' es' CS e2 e3 e4 e5 e6
end
section
variable {X:Cx}{pins:aQ}{σ:St}{H:Hp}{s:Shared}
theorem TH:fg X (.builtin "len") (fun xs H Q=>∃ a kvs,xs=[.ref a]/\Rd H a (.dT kvs)/\Q (.int kvs.length) H):=by
 intro pins s σ H xs us Q I r h;obtain⟨a,kvs,rfl,e,q⟩:=h;obtain⟨u,rfl,rx⟩:=vals1 r;cases rx;obtain⟨z,hsys,ys,pr,ob,es,ep,hgo,hex,hdat,hes,hnd⟩:=(show bf X.prog X.w H s.heap a (.dT kvs) from e.ok I.hok)
 have hsz:es.size=kvs.length:=by
  have:=congrArg List.length hes;rw[List.length_map,<-pr.length]at this
  simpa using this
 refine EO hsys ⟨ob,hgo,hex,hdat⟩ (by rw[hsz];rw[sizeLine_eq]at z;lia) ?_
 rw[hsz];exact⟨.int kvs.length,H,I.tok _,⟨_,rfl⟩,q⟩
def NB(td ty:TE):TE:=fun σ H Q=>td σ H fun x H1=>∃ a,x = .ref a/\Tr H1 a/\ty σ H1 fun y H2=>∃ kvs k b v,H2 a=some (.dT kvs)/\y = .ref b/\H2 b=some (.tup (k.map kV))/\dN kvs k=some v/\Q v (upd H2 a (.dT (c8 kvs k)))
theorem NC{A:Around}{E:dh}{a b:Addr}{kvs:List (List Key×V)}{k:List Key}{v:V}{Q:dh}(hu:A.units+1<cLine)(I:Inv X pins σ H s)(e:H a=some (.dT kvs))(eb:H b=some (.tup (k.map kV)))(l:dN kvs k=some v)
 (h:∀ w' s',Inv X pins σ (upd H a (.dT (c8 kvs k))) s'->RelV v w'->Q w' s'):wpAny (model X.prog X.w) A (call (.builtin "dict.pop") [.ref a,.ref b]) Q E s:=by
 obtain⟨z,hd,xs,rel,dd⟩:=Hv I.hok e;have hv:=rel.val k;rw[l]at hv;obtain⟨w',hw,rw'⟩:=nN.some_of hv;obtain⟨p,Vh,Ol⟩:=Option.map_eq_some_iff.mp hw;obtain⟨j,hj⟩:∃ j,xs[j]?=some (k,p):=by
  unfold atKey at Vh;obtain⟨y,Vi,X3⟩:=Option.map_eq_some_iff.mp Vh;have hk:=List.find?_some Vi;have hm:=List.mem_of_find?_eq_some Vi;obtain⟨j,hj⟩:=List.getElem?_of_mem hm;have hk' : y.1=k:=of_decide_eq_true hk;exact⟨j,by rw[hj,<-hk',<-X3]⟩
 have hnd:(xs.map (·.1)).Nodup:=let⟨_,_,_,_,_,_,_,_,hn⟩:=dd;hn;refine Qm (tupleKind_room_in1 hu) (pQ I.hok eb) dd hj (by rw[<-rel.length];exact z) fun h' o' es' CS g1 g2 g3 g4 sb=>?_
 rw[Ol];refine h w' _ ?_ rw';have hne:∀ b ys,H b=some (.tup ys)->upd H a (.dT (c8 kvs k)) b=some (.tup ys):=fun b ys q=>by rw[aj (aS q e (by intro z;cases z))];exact q
 rw[erase_filter hnd hj]at g4;refine rY I (by rw[e];exact True.intro) sb ⟨o',g1⟩ ⟨Nat.le_trans (Hu kvs k) z,hd,_,(rel.drop k).keeps hne,o',es',CS,g1,g2,g3,g4,?_⟩
 exact hnd.sublist (List.filter_sublist.map _)
variable {o e:Expr}{apos cpos:Pos}{td ty:TE}
theorem Im(hu:X.A.units+1<cLine)(ho:PE X o td)(he:PE X e ty)(m:M1 X o "pop" apos e cpos):PE X (.Call (.Attribute o "pop" apos) [e] [] cpos) (NB td ty):=by
 intro pins s σ H Q I h;refine wpAny_Call_method m.base m.few m.line PySem.F.plainAttrs_dict PySem.F.slot_dict_pop PySem.F.type_dict_pop (cT (ho pins s σ H _ I h) fun u s1 ⟨x,H1,I1,rx,a,ex,d,q1⟩=>?_)
 subst ex;obtain rfl:u=Value.ref a:=rx;obtain⟨t1,t2,_⟩:=Hz I1 d;refine⟨t1,t2,?_⟩;rw[m.trees];refine Calls.callWith_builtin rfl (Calls.evalArgs_plain (Calls.spliced_cons (cT (he pins s1 σ H1 _ I1 q1) fun iv s2 ⟨y,H2,I2,ry,kvs,k,b,v,ea,ey,eb,l,q2⟩=>Calls.spliced_nil ?_)))
 subst ey;obtain rfl:iv=Value.ref b:=ry;exact NC hu I2 ea eb l fun w' s3 I3 rw'=>⟨v,_,I3,rw',q2⟩
def ND(tk tv:TE):TE:=fun σ H Q=>∀ p,H p=none->tk σ (upd H p (.dT [])) fun y H1=>tv σ H1 fun v H2=>∃ b k,y = .ref b/\H2 b=some (.tup (k.map kV))/\H2 p=some (.dT [])/\Q (.ref p) (upd H2 p (.dT [(k,v)]))
end
section
variable {X:Cx}{k v:Expr}{pos:Pos}{tk tv:TE}
theorem Io(hu:X.A.units+1<cLine)(hk:PE X k tk)(hv:PE X v tv):PE X (.Dict [some k] [v] pos) (ND tk tv):=by
 intro pins s σ H Q I q;have hn:=I.hok.fresh (Nat.le_refl s.heap.objs.size);have I1:=I.laid (a:=s.heap.objs.size) (o:=.dT []) (h':=s.heap.push { cls:=.type "dict",data:=.dict #[]}) (t':=s.toks) (fun _ _ q=>Heap.get?_push_of_some _ q) (Nat.le_refl _) (Hy s.heap I.big)
 rw[arm_eval_Dict,zip_pairTrees [some k] [v] X.env pos rfl rfl,dictDisplay_pairs (pairTrees [some k] [v] X.env pos) (by intro z;cases z) (show 1<17 by decide)]
 refine wpAny_bind (wpAny_standAt (wpAny_bind ?_));unfold subDict;refine wpAny_bind (wpAny_alloc (wpAny_bind (wpAny_holding ?_)));rw[if_pos (show(pairTrees [some k] [v] X.env pos).length<=15 from(show 1<=15 by decide))]
 refine wpAny_bind (pairTrees_cons_walk (cT (hk pins _ σ _ _ I1 (q _ hn)) fun u s1 ⟨y,H1,I2,ry,q1⟩=>cT (hv pins s1 σ H1 _ I2 q1) fun u2 s2 ⟨vv,H2,I3,rv,b,ks,ey,eb,ep,q2⟩=>pairTrees_nil_walk ?_))
 subst ey;obtain rfl:u=Value.ref b:=ry;obtain⟨z,hd,xs,rel,dd⟩:=Hv I3.hok ep;cases rel;refine wpAny_holding (wpAny_bind ?_);rw[List.forIn_cons];refine wpAny_bind (wpAny_bind (wpAny_dictSet_heap (hsz:=Nat.zero_le _) (show X.A.units<cLine from Nat.lt_of_succ_lt hu) (pQ I3.hok eb) dd fun h' Oq hs=>wpAny_pure ?_))
 show wpAny _ _ (forIn [] PUnit.unit _) _ _ _;rw[List.forIn_nil];refine wpAny_pure (wpAny_pure (wpAny_pure (wpAny_pure ?_)));obtain⟨o',es',CS,g1,g2,g3,g4,g5,g6⟩:=Oq;have hb:upd H2 s.heap.objs.size (.dT [(ks,vv)]) b=some (.tup (ks.map kV)):=by
  rw[aj (aS eb ep (by intro z;cases z))]
  exact eb
 have new:bf X.prog X.w (upd H2 s.heap.objs.size (.dT [(ks,vv)])) h' s.heap.objs.size (.dT [(ks,vv)]):=⟨(show 1<=sizeLine by decide),hd,[(ks,b,u2)],.cons ⟨rfl,hb,rv⟩ .nil,o',es',CS,g1,g2,g3,g4,g6⟩
 exact⟨.ref s.heap.objs.size,_,rY I3 (by rw[ep];exact True.intro) hs ⟨o',g1⟩ new,rfl,q2⟩
end
end L2
namespace HT
open PySem PyProof.Rows
def K8(a b c d:Int):Bool:=if a=c then(if b=d then true else decide (b<=d)) else decide (a<=c)
theorem xU(a b c d:Int):K8 a b c d=true↔a<c\/(a=c/\b<=d):=by
 unfold K8
 by_cases h:a=c
 ·rw[if_pos h]
  by_cases h2:b=d
  ·rw[if_pos h2];simp[h,h2]
  ·rw[if_neg h2];simp only[decide_eq_true_eq];lia
 ·rw[if_neg h];simp only[decide_eq_true_eq];lia
theorem Ip(A:Around)(s:Shared)(a:Int)(t:Tok)(c:Int)(u:Tok)(prog:Program)(w:World)(E:dh)(Q:dh)(h:Q (.bool (decide (a<=c))) s):
 wpAny (model prog w) A (richCompare .LtE (.int a t) (.int c u)) Q E s :=
 (PyProof.Rows.le_int h:wpAny (model prog w) A (compareOp .LtE (.int a t) (.int c u)) Q E s)
section
open PySem.SeqAt
open PySem.AutoSeq1 (wpAny_loadPart')
open PySem.MeetsSeq PySem.MeetsSeq2 PySem.MeetsSeq3
theorem ER(l b:Addr)(items items2:Array Value)(n n2:Nat)(dd dd2:Option Addr)(sl sl2:Array (Option Value))(x1 y1 x2 y2:Int)(t1 u1 t2 u2:Tok)(hi:items.toList=[.int x1 t1,.int y1 u1])(hj:items2.toList=[.int x2 t2,.int y2 u2]):
 Meets (Builtin.«tuple.__le__» ⟨[.ref l,.ref b],[]⟩)
  (fun _ R s=>s.heap.get? l=some { cls:=.type "tuple",dict:=dd,data:=.seq items n,slots:=sl}/\s.heap.get? b=some { cls:=.type "tuple",dict:=dd2,data:=.seq items2 n2,slots:=sl2}/\
   R (.ok (.ret (.bool (K8 x1 y1 x2 y2)))) s) :=
 .of_wp fun prog w A R s h=>by
  obtain⟨hp,g,d,tk,os⟩:=s;obtain⟨hl,hb,h⟩:=h;have f2:=AutoSeq1.sub_tuple_tuple;have z1:items.size=2:=by rw[<-Array.length_toList,hi];rfl
  have z2:items2.size=2:=by rw[<-Array.length_toList,hj];rfl
  wp_walk using wpAny_loadPart' hl,wpAny_loadPart' hb,wpAny_forIn_list _ (fun rest b s'=>b.1=none/\s' = ⟨hp,g,d,tk,os⟩/\
   ((rest=[((Value.int x1 t1:Value),(Value.int x2 t2:Value)),(.int y1 u1,.int y2 u2)]/\R (.ok (.ret (.bool (K8 x1 y1 x2 y2)))) ⟨hp,g,d,tk,os⟩)\/
    (rest=[((Value.int y1 u1:Value),(Value.int y2 u2:Value))]/\R (.ok (.ret (.bool (if y1=y2 then true else decide (y1<=y2))))) ⟨hp,g,d,tk,os⟩)\/(rest=[]/\R (.ok (.ret (.bool true))) ⟨hp,g,d,tk,os⟩))) _
  case turn =>
   rintro⟨y,x⟩ rest b s' ⟨hb',rfl,hh⟩;obtain⟨a,c,t,u,vv,hy,hx,hR,hN⟩:∃(a c:Int) (t u:Tok) (vv:Bool),y = .int a t/\x = .int c u/\R (.ok (.ret (.bool (if a=c then vv else decide (a<=c))))) ⟨hp,g,d,tk,os⟩/\
    (R (.ok (.ret (.bool vv))) ⟨hp,g,d,tk,os⟩->(rest=[((Value.int y1 u1:Value),(Value.int y2 u2:Value))]/\R (.ok (.ret (.bool (if y1=y2 then true else decide (y1<=y2))))) ⟨hp,g,d,tk,os⟩)\/(rest=[]/\R (.ok (.ret (.bool true))) ⟨hp,g,d,tk,os⟩)):=by
    rcases hh with⟨hz,hR⟩|⟨hz,hR⟩|⟨hz,_⟩
    ·injection hz with ha hr
     obtain⟨hy,hx⟩:=Prod.mk.inj ha;exact⟨x1,x2,t1,t2,_,hy,hx,hR,fun TJ=>.inl ⟨hr,TJ⟩⟩
    ·injection hz with ha hr
     obtain⟨hy,hx⟩:=Prod.mk.inj ha;exact⟨y1,y2,u1,u2,true,hy,hx,hR,fun TJ=>.inr ⟨hr,TJ⟩⟩
    ·cases hz
   subst hy hx;obtain⟨e,he,GF⟩:=zd A.in1 ⟨hp,g,d,tk,os⟩ a t c u;refine wpAny_bind (he prog w _ _ ?_);cases e with
   | true =>
     rw[if_pos (GF.mp rfl)]at hR
     wp_walk
     exact⟨rfl,rfl,.inr (hN hR)⟩
   | false =>
     rw[if_neg (fun q=>absurd (GF.mpr q) Bool.false_ne_true)]at hR
     have Ga:=Ip A.in1 ⟨hp,g,d,tk,os⟩ a t c u prog w
     wp_walk using Ga
     exact⟨_,rfl,by simpa using hR⟩
  case fin =>
   rintro⟨b1,b2⟩ s' ⟨hb',rfl,hh⟩;simp only at hb';subst hb';rcases hh with⟨hz,_⟩|⟨hz,_⟩|⟨_,hR⟩
   ·cases hz
   ·cases hz
   ·wp_walk
    refine⟨_,rfl,?_⟩
    simpa[Builtin.Tuple.tupleCompareSizes,z1,z2]using hR
  case h =>
   refine⟨rfl,rfl,.inl ⟨?_,h⟩⟩;rw[hi,hj];rfl
end
section
variable {prog:Program}{w:World}{A:Around}{E:dh}{s:Shared}
theorem Iq{l b:Addr}{items items2:Array Value}{x1 y1 x2 y2:Int}{Q:dh}(hl:IsTup s.heap l items)(hb:IsTup s.heap b items2)(hi:IntsAre items.toList [x1,y1])(hj:IntsAre items2.toList [x2,y2])
 (hu:A.units<cLine) (h:Q (.bool (K8 x1 y1 x2 y2)) s):wpAny (model prog w) A (compareOp .LtE (.ref l) (.ref b)) Q E s:=by
 obtain⟨⟨cls,dd,data,sl⟩,ho,hc,n,hd⟩:=id hl;obtain⟨⟨Pk,dd2,data2,sl2⟩,ho2,hc2,n2,hd2⟩:=id hb;simp only at hc hd hc2 hd2;subst hc hd hc2 hd2;have two:∀{vs:List Value} {a c:Int},IntsAre vs [a,c]->∃ t u,vs=[.int a t,.int c u]:=fun {vs a c} q=>by
  cases q with
  | cons n t r=>cases r with
    | cons n' t' r'=>cases r';exact⟨t,t',rfl⟩
 obtain⟨t1,u1,e1⟩:=two hi;obtain⟨t2,u2,e2⟩:=two hj;exact richCompare_meets_room (op:=.LtE) ⟨_,ho,rfl⟩ ⟨_,ho2,rfl⟩ PySem.F.slot_tuple_le PySem.F.entry_tuple_le (PySem.F.args_tuple_le_2 _ _) (ER l b items items2 n n2 dd dd2 sl sl2 x1 y1 x2 y2 t1 u1 t2 u2 e1 e2)
  ⟨ho,ho2,show Value.bool (K8 x1 y1 x2 y2)≠Value.notImplemented/\Q (.bool (K8 x1 y1 x2 y2)) s from⟨(fun x=>nomatch x),h⟩⟩ hu
end
end HT
namespace L2
open PySem PySem.Spec PyProof.Rows
section
variable {X:Cx}
def TL(K:bJ):R2:=fun x y H Q=>∃ a b x1 y1 x2 y2,x = .ref a/\y = .ref b/\aV K H a [.int x1,.int y1]/\aV K H b [.int x2,.int y2]/\Q (.bl (HT.K8 x1 y1 x2 y2)) H
theorem NF(hu:X.A.units<cLine):jT X (compareOp .LtE) (TL X.K):=by
 intro pins s σ H x y v u Q I rx ry h;obtain⟨a,b,x1,y1,x2,y2,rfl,rfl,ha,hb,q⟩:=h;cases rx;cases ry;obtain⟨its,r1,p1,_⟩:=I.tuple ha;obtain⟨its2,r2,p2,_⟩:=I.tuple hb;exact HT.Iq p1 p2 (intsAre_of (ns:=[x1,y1]) r1) (intsAre_of (ns:=[x2,y2]) r2) hu ⟨.bl (HT.K8 x1 y1 x2 y2),H,I,rfl,q⟩
end
abbrev rF:=List (Addr×Str×Pos)
structure TabsOk(K:bJ)(h:Heap)(tb:rF):Prop where
 nd:(tb.map (·.1)).Nodup
 mt:∀ p∈tb,h.get? p.1=some (PySem.W.tabObj #[])
 code:∀ p∈tb,∃ c,PySem.W.CodeHd h c p.1
 out:∀ p∈tb,K.lookup p.1=none
def TabsAt(tb:rF)(H:Hp):Prop:=∀ p∈tb,H p.1=some (.iY (dY p.2.1 p.2.2))
def z9(tb:rF):Hp:=fun b=>(tb.find? fun p=>p.1==b).map fun p=>.iY (dY p.2.1 p.2.2)
theorem mE{tb:rF}{b:Addr}{u:HO}(e:z9 tb b=some u):∃ p∈tb,p.1=b/\u = .iY (dY p.2.1 p.2.2):=by
 unfold z9 at e;obtain⟨p,h1,h2⟩:=Option.map_eq_some_iff.mp e;have h3:(p.1==b)=true:=List.find?_some (p:=fun p:Addr×Str×Pos=>p.1==b) h1
 exact⟨p,List.mem_of_find?_eq_some h1,eq_of_beq h3,h2.symm⟩
theorem xV:∀{tb:rF},(tb.map (·.1)).Nodup->TabsAt tb (z9 tb)
 | [],_=>fun p hp=>nomatch hp
 | q::r,nd=>fun p hp=>by
   rw[List.map_cons,List.nodup_cons]at nd;rcases List.mem_cons.mp hp with rfl|hp
   ·unfold z9;rw[List.find?_cons_of_pos (by simp)];rfl
   ·have ne:(q.1==p.1)=false:=beq_eq_false_iff_ne.mpr fun z=>nd.1 (by rw[z];exact List.mem_map_of_mem hp)
    unfold z9;rw[List.find?_cons_of_neg (by rw[ne];exact Bool.false_ne_true)]
    exact xV nd.2 p hp
theorem ES{P:Program}{w:World}{K:bJ}{mg mb:kU}{CX:F9}{k:Nat}{fa a:Addr}{fd:FuncData}{x:Str}{sp:Sp}{s₁:Shared}{vs:List Value}{ns:List Int}{tb:rF}
 (KX:K.In s₁.heap) (TB:TabsOk K s₁.heap tb) (hns:s₁.heap.Ns mainGlobals mg) (hb:s₁.heap.Ns builtinsNs mb) (X4:∀ x:Str,x≠"__name__"->mb x=bootBuiltins x) (hlim:s₁.heap.NoLimit)
 (hbm:∃ bm ob,mg "__builtins__"=some (.ref bm)/\bm≠builtinsNs/\s₁.heap.get? bm=some ob/\ob.cls = .type "module"/\ob.dict=some builtinsNs/\ob.data = .plain) (hg:s₁.gens = #[])
 (ha:s₁.heap.get? a=some { cls:=.type "list",data:=.seq vs.toArray}) (hi:IntsAre vs ns) (hl:ns.length<=sizeLine) (hr:eM k callerA)
 (F:∀ base:Heap,K.In base->base.Ns mainGlobals mg->k6 P w K mg base CX k fa fd [x] sp) (hbind:∀(s:Shared) (u:Value),BindsTo s fd ⟨[u],[]⟩ [(x,u)])
 (rC:∀ H:Hp,TabsAt tb H->aL K H a (ns.map V.int)->sp [.ref a] H (fun v _=>v = .bl true) fun _ _ _=>False)
 (TM:∀ H e s',CX [] H s₁ (fun _ _ _=>False) e s'->False) :
 codeAny (model P w) callerA (.call (.ref fa) ⟨[.ref a],[]⟩) (fun r s'=>r = .ok (.ret (.bool true))/\OldK s₁.heap s'.heap/\s'.os=s₁.os/\AllBare s'.gens) s₁:=by
 have rv:=vM hi;have TN:=hi.length;have aT:∀ p∈tb,p.1≠a:=fun p hp z=>by
  have:=TB.mt p hp;rw[z,ha]at this;cases this
 let fz:HO:=.jR { cls:=.type "list",data:=.seq vs.toArray} (.lst (ns.map V.int))
 have core:∀ H:Hp,aL K H a (ns.map V.int)->TabsAt tb H->kW P w H s₁.heap->(∀ b u,H b=some u->(b=a/\K.lookup a=none/\u=fz)\/∃ p∈tb,p.1=b/\u = .iY (dY p.2.1 p.2.2))->
  codeAny (model P w) callerA (.call (.ref fa) ⟨[.ref a],[]⟩) (fun r s'=>r = .ok (.ret (.bool true))/\OldK s₁.heap s'.heap/\s'.os=s₁.os/\AllBare s'.gens) s₁:=by
  intro H hS hT hok hA;have free:∀{b:Addr} {o:Obj},s₁.heap.get? b=some o->(∀ xs n,o.data≠.seq xs n)->(∀ xs,o.data≠.fields xs)->H b=none:=fun {b o} e n1 n2=>by
   cases q:H b with
   | none=>rfl
   | some u =>
     rcases hA b u q with⟨z,_⟩|⟨p,hp,z,_⟩
     ·rw[z,ha]at e;cases e;exact absurd rfl (n1 _ _)
     ·rw[<-z,TB.mt p hp]at e;cases e;exact absurd rfl (n2 _)
  have RT:∀{b:Addr} {m:kU},s₁.heap.Ns b m->(yY s₁.heap H).Ns b m:=fun {b m} ⟨o,es,ep,e,d,r⟩=>⟨o,es,ep,sq e (free e (by intro _ _ z;rw[d]at z;cases z) (by intro _ z;rw[d]at z;cases z)),d,r⟩
  have Vj:K.In (yY s₁.heap H):=fun b o e=>sq (KX b o e) (by
   cases q:H b with
   | none=>rfl
   | some u =>
     rcases hA b u q with⟨z,n,_⟩|⟨p,hp,z,_⟩
     ·rw[z,n]at e;cases e
     ·rw[<-z,TB.out p hp]at e;cases e)
  have hM:Mod K mg (yY s₁.heap H):=⟨Vj,RT hns,⟨mb,RT hb,X4⟩,(let⟨mc,h1,h2⟩:=hlim;⟨mc,RT h1,h2⟩),
   let⟨bm,ob,b1,b2,b3,b4,b5,b6⟩:=hbm;⟨bm,ob,b1,b2,sq b3 (free b3 (by intro _ _ z;rw[b6]at z;cases z) (by intro _ z;rw[b6]at z;cases z)),b4,b5,b6⟩⟩
  have e0:JX P w K mg (yY s₁.heap H) callerA [] s₁ H:=⟨rfl,hM,fun b o e=>JK e,Nat.le_of_eq (DX _ _),trivial,fun b hb=>absurd (show b∈([]:List Addr) from hb) (by simp),hok,.of_eq hg⟩
  refine codeAny_mono ((F _ Vj (RT hns)).run callerA [] s₁ H ⟨[.ref a],[]⟩ [.ref a] [.ref a] _ _ hr e0 (hbind s₁ (.ref a)) (.cons rfl .nil) (rC H hT hS)) fun r s' h=>?_
  cases r with
  | error e=>exact(TM H e s' h).elim
  | ok fl =>
    cases fl with
    | next=>exact False.elim h
    | brk=>exact False.elim h
    | cont=>exact False.elim h
    | ret u =>
      obtain⟨v,H',os,bare,un,Qn,r',q⟩:=h;have q' : v = .bl true:=q;subst q';obtain rfl:u=Value.bool true:=r';have all:∀ b o,s₁.heap.get? b=some o->s'.heap.get? b=some o\/∃ p∈tb,p.1=b/\∃ ps,s'.heap.get? b=some (PySem.W.tabObj ps):=fun b o e=>by
       cases q:H b with
       | none=>exact .inl (un.keep b o e q (by intro z;exact absurd (show b∈([]:List Addr) from z) (by simp)) (by simp))
       | some u =>
         rcases hA b u q with⟨z,_,z2⟩|⟨p,hp,z,z2⟩
         ·rw[z2]at q;obtain⟨e1,_⟩:=hok b _ q;obtain⟨e2,_⟩:=Qn b _ (un.jS b _ _ q);rw[e]at e1;cases e1;exact .inl e2
         ·rw[z2]at q;obtain⟨more,q2⟩:=un.kX b _ q;obtain⟨ps,e2,_⟩:=Qn b _ q2;exact .inr ⟨p,hp,z,ps,e2⟩
      refine⟨rfl,⟨fun b o e=>?_,fun b o e=>?_⟩,os,bare⟩
      ·rcases all b o e with z|⟨p,hp,z,ps,e2⟩
       ·exact .inl z
       ·obtain⟨c,hc⟩:=TB.code p hp;have e1:=TB.mt p hp;subst z;rw[e]at e1;cases e1;exact .inr (.inl ⟨(hc.tab e).isCodeTable,rfl,#[],ps,rfl,by rw[e2,Array.empty_append]⟩)
      ·rcases all b o e with z|⟨p,hp,z,ps,e2⟩
       ·exact⟨o,z⟩
       ·exact⟨_,e2⟩
 have tok:∀{H:Hp} {b:Addr} {p},p∈tb->p.1=b->bf P w H s₁.heap b (.iY (dY p.2.1 p.2.2)):=fun {H b p} hp z=>⟨#[],by rw[<-z];exact TB.mt p hp,.inl ⟨rfl,.inl rfl⟩⟩
 cases hk:K.lookup a with
 | some o =>
   have e:=KX a o hk;rw[ha]at e;cases e;refine core (z9 tb) (.inr ⟨_,vs.toArray,_,hk,rfl,rfl,rfl,by rw[List.size_toArray,TN];exact hl,by simpa using rv⟩) (xV TB.nd) (fun b u e=>?_) fun b u e=>.inr (mE e)
   obtain⟨p,hp,z,rfl⟩:=mE e;exact tok hp z
 | none =>
   refine core (fun b=>if b=a then some fz else z9 tb b) (.inl (.inr ⟨{ cls:=.type "list",data:=.seq vs.toArray},if_pos rfl⟩)) (fun p hp=>?_) (fun b u e=>?_) fun b u e=>?_
   ·show(if p.1=a then some fz else z9 tb p.1)=_
    rw[if_neg (aT p hp)];exact xV TB.nd p hp
   ·by_cases hb:b=a
    ·have z:=(if_pos hb).symm.trans e;cases z;subst hb;exact⟨ha,by rw[List.length_map];exact hl,vs,_,rv,ha⟩
    ·have z:=(if_neg hb).symm.trans e;obtain⟨p,hp,z2,rfl⟩:=mE z;exact tok hp z2
   ·by_cases hb:b=a
    ·have z:=(if_pos hb).symm.trans e;exact .inl ⟨hb,hk,(Option.some.inj z).symm⟩
    ·exact .inr (mE ((if_neg hb).symm.trans e))
theorem Ir{l:PySem.W.OpenLaw}{n k:Nat}{q:Program}{loose:List Str}{XP:(Str->Option Value)->Heap->Prop}{YP:World->Heap->Prop}{d:DefRec}{K:Params->bJ}{CX:World->F9}{sp:World->rF->Sp}{x:Str}{ts:List Addr}
 (hn:l.most=some n) (hn2:n<=sizeLine) (LI:d.params.defaults=[]) (hr:eM k callerA)
 (hY:∀(w:World) (h:Heap),YP w h->(K w.params).In h/\∀ P∈ts,h.get? P=some (PySem.W.tabObj #[]))
 (F:∀(w:World) (mg:kU) (fa:Addr) (h:Heap),(K w.params).In h->h.Ns mainGlobals mg->mg d.name=some (.ref fa)->
  ∃(fd:FuncData) (tb:rF),((tb.map (·.1)).Nodup/\PySem.W.noTabs (K w.params)=true/\∀ p∈tb,p.1∈ts/\∃ c,PySem.W.codeHdIn (K w.params) c p.1=true)/\(∀(s:Shared) (u:Value),BindsTo s fd ⟨[u],[]⟩ [(x,u)])/\
   ∀ base:Heap,(K w.params).In base->base.Ns mainGlobals mg->k6 l.prog w (K w.params) mg base (CX w) k fa fd [x] (sp w tb))
 (rC:∀(w:World) (H:Hp) (a:Addr) (ns:List Int) (tb:rF),ns.length<=n->TabsAt tb H->aL (K w.params) H a (ns.map V.int)->sp w tb [.ref a] H (fun v _=>v = .bl true) fun _ _ _=>False)
 (TM:∀(w:World) (H:Hp) (s:Shared) (e:Value) (s' : Shared),CX w [] H s (fun _ _ _=>False) e s'->False) :
 PySem.W.WalkO q loose XP YP l.row.toRowW d [] (fun f vs=>PySem.call f vs):=by
 refine Att.zg hn LI fun w s₀ s₁ mg mb fa o pm cd doc a vs ns G Y ho hd hcd hmg hobj hints hlen hg=>?_
 obtain⟨KX,hts⟩:=hY w _ Y;obtain⟨fd,tb,⟨nd,nt,ht⟩,hb,hF⟩:=F w mg fa _ KX G.T.g hmg;have TB:TabsOk (K w.params) s₁.heap tb:=⟨nd,fun p hp=>hts _ (ht p hp).1,fun p hp=>let⟨_,c,e⟩:=ht p hp;⟨c,PySem.W.codeHd_of_K KX e⟩,fun p hp=>by
  cases e:(K w.params).lookup p.1 with
  | none=>rfl
  | some ob =>
    have e1:=KX _ _ e;rw[hts _ (ht p hp).1]at e1;cases e1;have z:=List.all_eq_true.mp nt (p.1,PySem.W.tabObj #[]) (PySem.W.mem_of_lookupK e);exact absurd (show false=true from z) Bool.false_ne_true⟩
 exact ES KX TB G.T.g G.T.b G.T.builtins G.T.nolimit G.T.bmain hg hobj hints (Nat.le_trans hlen hn2) hr hF hb (fun H hT hS=>rC w H a ns tb hlen hT hS) fun H e s'=>TM w H s₁ e s'
def oM(f:Str):Str:=f ++ ".<locals>." ++ "<lambda>"
structure BY(K:bJ)(x qual:Str)(st:Stmt)(f:Addr)(fd:FuncData)(c0 P:Addr):Prop where
 ex:∃(oc:Value) (od:Option Addr) (kV doc pm:Value) (an:Option Addr) (ct:Value) (osl:Array (Option Value)),
  fd=PySem.W.fnOf x qual (dG st) (bV st) (ah st) .none kV doc pm an (.ref c0) ct/\K.lookup f=some ⟨oc,od,.func fd,osl⟩/\PySem.W.codeIn K (.ref c0) qual=true
 kp:PySem.W.keepIn K (.ref f)=true
 hd:PySem.W.codeHdIn K c0 P=true
section
variable {P:Program}{w:World}{K:bJ}{mg:kU}{base:Heap}{x qual:Str}{st:Stmt}{f c0 p0:Addr}{fd:FuncData}
theorem BY.ok{N ps:List Str}{k:Nat}{sp:Sp}(F:BY K x qual st f fd c0 p0)(S:aE N ps (ah st))(len:∀ vs H Q E,sp vs H Q E->vs.length=ps.length)
 (hbody:∀(A:Around) (outer:List Env) (s:Shared) (H:Hp) (vs:List V) (Q:VK) (E:XK),eM k (A.deeper (envOfC qual (ah st) s.heap.objs.size f (.ref c0)))->sp vs H Q E->
  ∃ t,vE (rB C8 P w K mg base N qual (ah st) f (.ref c0) A outer s H E).A9 (bV st) t/\t { nx:=fun _ H'=>Q .dR H',rt:=Q} (start N vs) H):k6 P w K mg base C8 (k+1) f fd ps sp:=by
 obtain⟨oc,od,kV,doc,pm,an,ct,osl,rfl,lk,hcd⟩:=F.ex;refine GC lk hcd S len fun A outer s H vs Q E hr rC=>?_
 obtain⟨t,h,q⟩:=hbody A outer s H vs Q E hr rC;exact⟨t,h.A9,q⟩
theorem BY.binds{ps:List Str}(F:BY K x qual st f fd c0 p0)
 (h:∀(kV doc pm:Value) (an:Option Addr) (cdv ct:Value) (us:List Value),us.length=ps.length->bindArgs (PySem.W.fnOf x qual (dG st) (bV st) (ah st) .none kV doc pm an cdv ct) ⟨us,[]⟩=pure (ps.zip us)):Binds K fd ps []:=by
 obtain⟨oc,od,kV,doc,pm,an,ct,osl,rfl,lk,hcd⟩:=F.ex;exact .all (h kV doc pm an (.ref c0) ct)
theorem K9{oc:Value}{od an:Option Addr}{osl:Array (Option Value)}{kV doc pm ct:Value}(l:K.lookup f=some ⟨oc,od,.func (PySem.W.fnOf x qual (dG st) (bV st) (ah st) .none kV doc pm an (.ref c0) ct),osl⟩)
 (c:PySem.W.codeIn K (.ref c0) qual=true) (k:PySem.W.keepIn K (.ref f)=true) (hd:PySem.W.codeHdIn K c0 p0=true):BY K x qual st f (PySem.W.fnOf x qual (dG st) (bV st) (ah st) .none kV doc pm an (.ref c0) ct) c0 p0 :=
 ⟨⟨oc,od,kV,doc,pm,an,ct,osl,rfl,l,c⟩,k,hd⟩
end
end L2
namespace RM
abbrev OW:=Nat->Bool->Option (Int×Nat)
def iQ(F:OW)(x:Nat)(s:Bool)(d:Int×Nat):OW:=fun y t=>if y=x/\t=s then some d else F y t
def xW(F:OW)(x:Nat)(s:Bool):OW:=fun y t=>if y=x/\t=s then none else F y t
theorem bQ(F:OW)(x:Nat)(s:Bool)(d:Int×Nat):iQ F x s d x s=some d:=if_pos ⟨rfl,rfl⟩
theorem bq{F:OW}{x y:Nat}{s t:Bool}{d:Int×Nat}(h : ¬(y=x/\t=s)):iQ F x s d y t=F y t:=if_neg h
theorem se(F:OW)(x:Nat)(s:Bool):xW F x s x s=none:=if_pos ⟨rfl,rfl⟩
theorem mF{F:OW}{x y:Nat}{s t:Bool}(h : ¬(y=x/\t=s)):xW F x s y t=F y t:=if_neg h
def Wz(N:Net)(L:Nat->Int)(m u v:Nat)(s:Bool)(z:Int)(e:Nat):Prop:=∃ pre,Wl N L m u pre v s z e
structure Dj(N:Net)(L:Nat->Int)(m u:Nat)(F W:OW)(now:Option (Nat×Bool))(done:Nat->Nat->Prop):Prop where
 fw:∀ x s d,F x s=some d->Wz N L m u x s d.1 d.2
 ww:∀ x s d,W x s=some d->Wz N L m u x s d.1 d.2
 dj:∀ x s d,W x s=some d->F x s=none
 le:∀ x s d y t d',F x s=some d->W y t=some d'->d.1<=d'.1
 mx:∀ x s d y t d',now=some (x,s)->F x s=some d->F y t=some d'->d'.1<=d.1
 cl:∀ x s d k y,F x s=some d->k<N.n->Jn N k x y->(now=some (x,s)->done k y)->∃ d',(F y (s^^m.testBit k)=some d'\/W y (s^^m.testBit k)=some d')/\d'.1<=d.1+L k
 st:∃ d,(F u false=some d\/W u false=some d)/\d.1<=0
section
variable {N:Net}{L:Nat->Int}{m u:Nat}{F W:OW}
theorem Dj.start:Dj N L m u (fun _ _=>none) (iQ (fun _ _=>none) u false (0,0)) none (fun _ _=>False):=by
 refine⟨fun _ _ _ h=>(nomatch h),fun x s d h=>?_,fun _ _ _ _=>rfl,fun _ _ _ _ _ _ h=>(nomatch h),fun _ _ _ _ _ _ h=>(nomatch h),fun _ _ _ _ _ h=>(nomatch h),⟨(0,0),.inr (bQ _ _ _ _),Int.le_refl _⟩⟩
 by_cases e:x=u/\s=false
 ·obtain⟨rfl,rfl⟩:=e;rw[bQ]at h;cases h;exact⟨[],.nil⟩
 ·rw[bq e]at h;cases h
theorem Dj.pop(h:Dj N L m u F W none (fun _ _=>False)){x:Nat}{s:Bool}{d:Int×Nat}(e:W x s=some d)(hmin:∀ y t d',W y t=some d'->d.1<=d'.1):Dj N L m u (iQ F x s d) (xW W x s) (some (x,s)) (fun _ _=>False):=by
 have hF:=h.dj x s d e;have of:∀ y t d',iQ F x s d y t=some d'->(y=x/\t=s/\d' = d)\/F y t=some d':=fun y t d' q=>by
  by_cases z:y=x/\t=s
  ·obtain⟨rfl,rfl⟩:=z;rw[bQ]at q;exact .inl ⟨rfl,rfl,(Option.some.inj q).symm⟩
  ·rw[bq z]at q;exact .inr q
 have ow:∀ y t d',xW W x s y t=some d'->¬(y=x/\t=s)/\W y t=some d':=fun y t d' q=>by
  by_cases z:y=x/\t=s
  ·obtain⟨rfl,rfl⟩:=z;rw[se]at q;cases q
  ·rw[mF z]at q;exact⟨z,q⟩
 have moved:∀ y t d',F y t=some d'\/W y t=some d'->iQ F x s d y t=some d'\/xW W x s y t=some d':=fun y t d' q=>by
  by_cases z:y=x/\t=s
  ·obtain⟨rfl,rfl⟩:=z;rcases q with q|q
   ·rw[hF]at q;cases q
   ·rw[e]at q;cases q;exact .inl (bQ _ _ _ _)
  ·rw[bq z,mF z];exact q
 refine⟨fun y t d' q=>?_,fun y t d' q=>h.ww y t d' (ow y t d' q).2,fun y t d' q=>?_,fun y t d' y2 t2 d2 q q2=>?_,fun y t d' y2 t2 d2 hn q q2=>?_,fun y t d' k y2 q hk hj hd=>?_,?_⟩
 ·rcases of y t d' q with⟨rfl,rfl,rfl⟩|q
  ·exact h.ww _ _ _ e
  ·exact h.fw y t d' q
 ·obtain⟨z,q⟩:=ow y t d' q;rw[bq z];exact h.dj y t d' q
 ·obtain⟨_,q2⟩:=ow y2 t2 d2 q2;rcases of y t d' q with⟨_,_,rfl⟩|q
  ·exact hmin _ _ _ q2
  ·exact h.le _ _ _ _ _ _ q q2
 ·cases hn;rw[bQ]at q;cases q;rcases of y2 t2 d2 q2 with⟨_,_,rfl⟩|q2
  ·exact Int.le_refl _
  ·exact h.le _ _ _ _ _ _ q2 e
 ·rcases of y t d' q with⟨rfl,rfl,rfl⟩|q
  ·exact(hd rfl).elim
  ·obtain⟨d2,q2,l2⟩:=h.cl y t d' k y2 q hk hj (fun z=>nomatch z)
   exact⟨d2,moved _ _ _ q2,l2⟩
 ·obtain⟨d2,q2,l2⟩:=h.st;exact⟨d2,moved _ _ _ q2,l2⟩
theorem Dj.put{done:Nat->Nat->Prop}{x:Nat}{s:Bool}(h:Dj N L m u F W (some (x,s)) done){d:Int×Nat}{k y:Nat}(e:F x s=some d)(hk:k<N.n)(hL:0<=L k)(hj:Jn N k x y)(hF:F y (s^^m.testBit k)=none)
 (hW:∀ d',W y (s^^m.testBit k)=some d'->d.1+L k<=d'.1):Dj N L m u F (iQ W y (s^^m.testBit k) (d.1+L k,d.2^^^2^k)) (some (x,s)) (fun k' y'=>done k' y'\/(k' = k/\y' = y)):=by
 have ow:∀ v t d',iQ W y (s^^m.testBit k) (d.1+L k,d.2^^^2^k) v t=some d'->(v=y/\t=(s^^m.testBit k)/\d' = (d.1+L k,d.2^^^2^k))\/W v t=some d':=fun v t d' q=>by
  by_cases z:v=y/\t=(s^^m.testBit k)
  ·obtain⟨rfl,rfl⟩:=z;rw[bQ]at q;exact .inl ⟨rfl,rfl,(Option.some.inj q).symm⟩
  ·rw[bq z]at q;exact .inr q
 have moved:∀ v t d',F v t=some d'\/W v t=some d'->∃ d2,(F v t=some d2\/iQ W y (s^^m.testBit k) (d.1+L k,d.2^^^2^k) v t=some d2)/\d2.1<=d'.1:=fun v t d' q=>by
  rcases q with q|q
  ·exact⟨d',.inl q,Int.le_refl _⟩
  ·by_cases z:v=y/\t=(s^^m.testBit k)
   ·obtain⟨rfl,rfl⟩:=z;exact⟨_,.inr (bQ _ _ _ _),hW d' q⟩
   ·exact⟨d',.inr (by rw[bq z];exact q),Int.le_refl _⟩
 refine⟨h.fw,fun v t d' q=>?_,fun v t d' q=>?_,fun v t d' v2 t2 d2 q q2=>?_,h.mx,fun v t d' k2 y2 q hk2 JF hd=>?_,?_⟩
 ·rcases ow v t d' q with⟨rfl,rfl,rfl⟩|q
  ·obtain⟨pre,w⟩:=h.fw x s d e;exact⟨_,w.go hk hj⟩
  ·exact h.ww v t d' q
 ·rcases ow v t d' q with⟨rfl,rfl,rfl⟩|q
  ·exact hF
  ·exact h.dj v t d' q
 ·rcases ow v2 t2 d2 q2 with⟨rfl,rfl,rfl⟩|q2
  ·have:=h.mx x s d v t d' rfl e q;show d'.1<=d.1+L k
   lia
  ·exact h.le _ _ _ _ _ _ q q2
 ·by_cases hd2:some (x,s)=some (v,t)->done k2 y2
  ·obtain⟨d2,q2,l2⟩:=h.cl v t d' k2 y2 q hk2 JF hd2;obtain⟨d3,q3,l3⟩:=moved _ _ _ q2;exact⟨d3,q3,Int.le_trans l3 l2⟩
  ·have hn:some (x,s)=some (v,t):=Classical.byContradiction fun z=>hd2 fun z2=>absurd z2 z
   rcases hd hn with z|⟨rfl,rfl⟩
   ·exact absurd (fun _=>z) hd2
   ·cases hn;rw[e]at q;cases q;exact⟨_,.inr (bQ _ _ _ _),Int.le_refl _⟩
 ·obtain⟨d2,q2,l2⟩:=h.st;obtain⟨d3,q3,l3⟩:=moved _ _ _ q2;exact⟨d3,q3,Int.le_trans l3 l2⟩
theorem Dj.skip{done:Nat->Nat->Prop}{x:Nat}{s:Bool}(h:Dj N L m u F W (some (x,s)) done){d d2:Int×Nat}{k y:Nat}(e:F x s=some d)(hL:0<=L k)(q2:F y (s^^m.testBit k)=some d2\/(W y (s^^m.testBit k)=some d2/\d2.1<=d.1+L k)):
 Dj N L m u F W (some (x,s)) (fun k' y'=>done k' y'\/(k' = k/\y' = y)):=by
 refine⟨h.fw,h.ww,h.dj,h.le,h.mx,fun v t d' k2 y2 q hk2 JF hd=>?_,h.st⟩
 by_cases hd2:some (x,s)=some (v,t)->done k2 y2
 ·exact h.cl v t d' k2 y2 q hk2 JF hd2
 ·have hn:some (x,s)=some (v,t):=Classical.byContradiction fun z=>hd2 fun z2=>absurd z2 z
  rcases hd hn with z|⟨rfl,rfl⟩
  ·exact absurd (fun _=>z) hd2
  ·cases hn;rw[e]at q;cases q;rcases q2 with q2|⟨q2,l2⟩
   ·have:=h.mx x s d _ _ d2 rfl e q2;exact⟨d2,.inl q2,by lia⟩
   ·exact⟨d2,.inr q2,l2⟩
theorem Dj.all{done:Nat->Nat->Prop}{x:Nat}{s:Bool}(h:Dj N L m u F W (some (x,s)) done)(ha:∀ k y,k<N.n->Jn N k x y->done k y):Dj N L m u F W none (fun _ _=>False) :=
 ⟨h.fw,h.ww,h.dj,h.le,fun _ _ _ _ _ _ z=>(nomatch z),fun v t d k y q hk hj _=>h.cl v t d k y q hk hj fun z=>by cases z;exact ha k y hk hj,h.st⟩
theorem Dj.best(h:Dj N L m u F W none (fun _ _=>False))(hW:∀ x s,W x s=none)(x:Nat)(s:Bool):HQ N L m u x s ((F x s).map (·.1)):=by
 have low:∀{pre:List Nat} {v e:Nat} {t:Bool} {z:Int},Wl N L m u pre v t z e->∃ d,F v t=some d/\d.1<=z:=fun {pre v e t z} w=>by
  induction w with
  | nil =>
    obtain⟨d,q,l⟩:=h.st;rcases q with q|q
    ·exact⟨d,q,l⟩
    ·rw[hW]at q;cases q
  | @go pre v w k e s z _ hk hj ih =>
    obtain⟨d,q,l⟩:=ih;obtain⟨d2,q2,l2⟩:=h.cl _ _ d k _ q hk hj (fun z=>nomatch z)
    rcases q2 with q2|q2
    ·exact⟨d2,q2,by lia⟩
    ·rw[hW]at q2;cases q2
 cases q:F x s with
 | none =>
   intro z ⟨_,_,w⟩;obtain⟨d,q2,_⟩:=low w;rw[q]at q2;cases q2
 | some d =>
   obtain⟨pre,w⟩:=h.fw x s d q;refine⟨⟨_,_,w⟩,fun z ⟨_,_,w2⟩=>?_⟩
   obtain⟨d2,q2,l2⟩:=low w2;rw[q]at q2;cases q2;exact l2
end
end RM
namespace L2
open PySem Ring
abbrev ky(x:Nat)(s:Bool):List Key:=[.inl (x:Int),.inl (s.toNat:Int)]
theorem BZ{x y:Nat}{s t:Bool}(h:ky x s=ky y t):x=y/\s=t:=by
 injection h with h1 h2
 injection h2 with h2 _
 injection h1 with h1
 injection h2 with h2
 refine⟨by lia,?_⟩
 cases s<;>cases t<;>first | rfl | (simp at h2)
def wV(H:Hp):Option (Int×Nat)->V->Prop
 | none,v=>v = .dR
 | some d,v=>∃ c,v = .ref c/\H c=some (.tup [.int d.1,.int (d.2:Int)])
theorem wV.tups{H H' : Hp}{o:Option (Int×Nat)}{v:V}(h:wV H o v)(s:dH H H'):wV H' o v:=by
 cases o with
 | none=>exact h
 | some d=>obtain⟨c,e,q⟩:=h;exact⟨c,e,s _ _ q⟩
structure ua(p:Nat)(H0:Hp)(D wd:Addr)(es:List Addr)(kvs:List (List Key×V))(F W:RM.OW)(H:Hp):Prop where
 same:aq H0 H
 nd:es.Nodup
 ne:D∉es
 fr:∀ b∈es,H0 b=none
 Dn:H0 D=none
 wn:H0 wd=none
 wD:wd≠D
 wE:wd∉es
 lst:H D=some (.lst (es.map V.ref))
 at_:∀ i b,es[i]?=some b->∃ v0 v1,H b=some (.lst [v0,v1])/\wV H (F i false) v0/\wV H (F i true) v1
 dt:H wd=some (.dT kvs)
 kn:(kvs.map (·.1)).Nodup
 keys:∀ kv∈kvs,∃ x s,x<p/\kv.1=ky x s
 out:∀ x s d,W x s=some d->x<p
 val:∀ x s,(W x s=none/\dN kvs (ky x s)=none)\/∃ d c,W x s=some d/\dN kvs (ky x s)=some (.ref c)/\H c=some (.tup [.int d.1,.int (d.2:Int)])
section
variable {p:Nat}{H0 H H' : Hp}{D wd:Addr}{es:List Addr}{kvs:List (List Key×V)}{F W:RM.OW}
theorem ua.go(h:ua p H0 D wd es kvs F W H)(s:aq H H'):ua p H0 D wd es kvs F W H' :=
 ⟨h.same.trans s,h.nd,h.ne,h.fr,h.Dn,h.wn,h.wD,h.wE,s _ _ h.lst,fun i b e=>let⟨v0,v1,a,b1,c⟩:=h.at_ i b e;⟨v0,v1,s _ _ a,b1.tups s.tups,c.tups s.tups⟩,s _ _ h.dt,h.kn,h.keys,h.out,
  fun x t=>(h.val x t).imp (fun z=>z) fun⟨d,c,a,b,e⟩=>⟨d,c,a,b,s _ _ e⟩⟩
theorem ua.len(h:ua p H0 D wd es kvs F W H):kvs.length<=2*p:=by
 have hn:=h.kn;have hk:=h.keys
 let code:List Key->Nat:=fun k=>match k with | [.inl x,.inl s]=>2*x.toNat+s.toNat | _=>0
 have inj:∀ a∈kvs.map (·.1),∀ b∈kvs.map (·.1),code a=code b->a=b:=fun a ha b hb e=>by
  obtain⟨u,hu,rfl⟩:=List.mem_map.mp ha;obtain⟨v,hv,rfl⟩:=List.mem_map.mp hb;obtain⟨x,s,_,ex⟩:=hk u hu;obtain⟨y,t,_,ey⟩:=hk v hv;rw[ex,ey]at e ⊢;have e:2*((x:Int)).toNat+((s.toNat:Int)).toNat=2*((y:Int)).toNat+((t.toNat:Int)).toNat:=e;rw[Int.toNat_natCast,Int.toNat_natCast,Int.toNat_natCast,Int.toNat_natCast]at e;have hs:s.toNat<2:=by cases s<;>decide
  have ht:t.toNat<2:=by cases t<;>decide
  have e1:x=y:=by lia
  have e2:s.toNat=t.toNat:=by lia
  have e3:s=t:=by cases s<;>cases t<;>first | rfl | (simp at e2)
  rw[e1,e3]
 have nd:((kvs.map (·.1)).map code).Nodup:=by
  revert inj
  generalize kvs.map (·.1)=l at hn;intro inj
  induction hn with
  | nil=>exact List.nodup_nil
  | @cons a l h1 h2 ih =>
    rw[List.map_cons,List.nodup_cons];refine⟨fun hm=>?_,ih fun a ha b hb e=>inj a (List.mem_cons_of_mem _ ha) b (List.mem_cons_of_mem _ hb) e⟩
    obtain⟨b,hb,e⟩:=List.mem_map.mp hm;exact h1 b hb (inj a List.mem_cons_self b (List.mem_cons_of_mem _ hb) e.symm)
 have sub:∀ c∈(kvs.map (·.1)).map code,c∈List.range (2*p):=fun c hc=>by
  obtain⟨a,ha,rfl⟩:=List.mem_map.mp hc;obtain⟨u,hu,rfl⟩:=List.mem_map.mp ha;obtain⟨x,s,hx,ex⟩:=hk u hu;rw[ex,List.mem_range];show 2*((x:Int)).toNat+((s.toNat:Int)).toNat<2*p;rw[Int.toNat_natCast,Int.toNat_natCast];have hs:s.toNat<2:=by cases s<;>decide
  lia
 have:=nd.length_le_of_subset sub
 simpa using this
theorem ua.row(h:ua p H0 D wd es kvs F W H){i:Nat}(hi:i<es.length):∃ b v0 v1,(es.map V.ref)[i]?=some (.ref b)/\es[i]?=some b/\H b=some (.lst [v0,v1])/\wV H (F i false) v0/\wV H (F i true) v1:=by
 have e:es[i]?=some es[i]:=List.getElem?_eq_getElem hi;obtain⟨v0,v1,a,b,c⟩:=h.at_ i _ e;exact⟨es[i],v0,v1,by rw[List.getElem?_map,e];rfl,e,a,b,c⟩
theorem p9{κ:Type}[DecidableEq κ](k j:κ):∀ kvs:List (κ×V),dN (c8 kvs k) j=if j=k then none else dN kvs j
 | []=>by rw[show c8 ([]:List (κ×V)) k=[] from rfl,tI];split<;>rfl
 | q::r=>by
   by_cases e:q.1=k
   ·rw[we e,p9 k j r]
    by_cases e2:j=k
    ·rw[if_pos e2,if_pos e2]
    ·rw[if_neg e2,if_neg e2,b8 (fun z=>e2 (z.symm.trans e))]
   ·rw[wg e]
    by_cases e3:q.1=j
    ·rw[cz e3,if_neg (fun z=>e (e3.trans z)),cz e3]
    ·rw[b8 e3,p9 k j r,b8 e3]
theorem ua.take(h:ua p H0 D wd es kvs F W H){x:Nat}{s:Bool}{d:Int×Nat}{b c:Addr}{v0 v1:V}(e:W x s=some d)(hc:H c=some (.tup [.int d.1,.int (d.2:Int)]))(hb:es[x]?=some b)(hv:H b=some (.lst [v0,v1])):
 ua p H0 D wd es (c8 kvs (ky x s)) (RM.iQ F x s d) (RM.xW W x s) (upd (upd H wd (.dT (c8 kvs (ky x s)))) b (.lst (([v0,v1]:List V).set s.toNat (.ref c)))):=by
 have hm:=List.mem_of_getElem? hb;have bw:b≠wd:=fun z=>h.wE (z▸hm)
 have bD:D≠b:=fun z=>h.ne (z▸hm)
 have tp:dH H (upd (upd H wd (.dT (c8 kvs (ky x s)))) b (.lst (([v0,v1]:List V).set s.toNat (.ref c)))):=fun a ys q=>by
  rw[aj (aS q hv (by intro z;cases z)),aj (aS q h.dt (by intro z;cases z))]
  exact q
 refine⟨(h.same.put h.wn).put (h.fr b hm),h.nd,h.ne,h.fr,h.Dn,h.wn,h.wD,h.wE,by rw[aj bD,aj (Ne.symm h.wD)];exact h.lst,fun i b' hb'=>?_,by rw[aj (Ne.symm bw),ae],tJ h.kn,fun kv hkv=>h.keys kv (wj hkv),fun y t d' q=>?_,fun y t=>?_⟩
 ·by_cases ei:i=x
  ·subst ei;rw[hb]at hb';cases hb';obtain⟨w0,w1,q1,q2,q3⟩:=h.at_ _ _ hb;rw[hv]at q1;cases q1;cases s with
   | false=>exact⟨.ref c,v1,ae,by rw[RM.bQ];exact⟨c,rfl,tp _ _ hc⟩,by rw[RM.bq (fun z=>by cases z.2)];exact q3.tups tp⟩
   | true=>exact⟨v0,.ref c,ae,by rw[RM.bq (fun z=>by cases z.2)];exact q2.tups tp,by rw[RM.bQ];exact⟨c,rfl,tp _ _ hc⟩⟩
  ·have bb:b'≠b:=fun z=>by
    subst z;obtain⟨h1,h2⟩:=List.getElem?_eq_some_iff.mp hb';obtain⟨h3,h4⟩:=List.getElem?_eq_some_iff.mp hb;exact ei ((List.getElem_inj h.nd).mp (h2.trans h4.symm))
   obtain⟨w0,w1,q1,q2,q3⟩:=h.at_ _ _ hb';exact⟨w0,w1,by rw[aj bb,aj (show b'≠wd from fun z=>h.wE (z▸List.mem_of_getElem? hb'))];exact q1,by rw[RM.bq (fun z=>ei z.1)];exact q2.tups tp,by rw[RM.bq (fun z=>ei z.1)];exact q3.tups tp⟩
 ·by_cases z:y=x/\t=s
  ·obtain⟨rfl,rfl⟩:=z;rw[RM.se]at q;cases q
  ·rw[RM.mF z]at q;exact h.out y t d' q
 ·rw[p9]
  by_cases z:y=x/\t=s
  ·obtain⟨rfl,rfl⟩:=z;exact .inl ⟨RM.se _ _ _,if_pos rfl⟩
  ·rw[RM.mF z,if_neg (fun q=>z (BZ q))]
   rcases h.val y t with q|⟨d',c',q1,q2,q3⟩
   ·exact .inl q
   ·exact .inr ⟨d',c',q1,q2,tp _ _ q3⟩
theorem ua.wait(h:ua p H0 D wd es kvs F W H){x:Nat}{s:Bool}{d:Int×Nat}{c:Addr}(hx:x<p)(hc:H c=some (.tup [.int d.1,.int (d.2:Int)])):
 ua p H0 D wd es (putK kvs (ky x s) (.ref c)) F (RM.iQ W x s d) (upd H wd (.dT (putK kvs (ky x s) (.ref c)))):=by
 have tp:dH H (upd H wd (.dT (putK kvs (ky x s) (.ref c)))):=fun a ys q=>by
  rw[aj (aS q h.dt (by intro z;cases z))]
  exact q
 have LZ:(∀ kv∈putK kvs (ky x s) (.ref c),∃ x s,x<p/\kv.1=ky x s)/\((putK kvs (ky x s) (.ref c)).map (·.1)).Nodup:=by
  cases q:dN kvs (ky x s) with
  | none =>
    refine⟨fun kv hkv=>?_,KP _ h.kn q⟩
    rw[zL _ q]at hkv;rcases List.mem_append.mp hkv with z|z
    ·exact h.keys kv z
    ·rw[List.mem_singleton.mp z];exact⟨x,s,hx,rfl⟩
  | some v =>
    have hany:(kvs.any fun kv=>decide (kv.1=ky x s))=true:=by rw[gM,q];rfl
    have e:putK kvs (ky x s) (.ref c)=kvs.map fun kv=>if kv.1=ky x s then(kv.1,.ref c) else kv:=by unfold putK;rw[if_pos hany]
    have ek:(putK kvs (ky x s) (.ref c)).map (·.1)=kvs.map (·.1):=by
     rw[e,List.map_map];refine List.map_congr_left fun kv _=>?_
     show(if kv.1=ky x s then(kv.1,V.ref c) else kv).1=kv.1
     split<;>rfl
    refine⟨fun kv hkv=>?_,by rw[ek];exact h.kn⟩
    have hm:kv.1∈kvs.map (·.1):=by rw[<-ek];exact List.mem_map_of_mem hkv
    obtain⟨Vk,h1,h2⟩:=List.mem_map.mp hm;rw[<-h2];exact h.keys Vk h1
 refine⟨h.same.put h.wn,h.nd,h.ne,h.fr,h.Dn,h.wn,h.wD,h.wE,by rw[aj (Ne.symm h.wD)];exact h.lst,fun i b hb=>?_,ae,LZ.2,LZ.1,fun y t d' q=>?_,fun y t=>?_⟩
 ·obtain⟨w0,w1,q1,q2,q3⟩:=h.at_ _ _ hb;exact⟨w0,w1,by rw[aj (show b≠wd from fun z=>h.wE (z▸List.mem_of_getElem? hb))];exact q1,q2.tups tp,q3.tups tp⟩
 ·by_cases z:y=x/\t=s
  ·rw[z.1];exact hx
  ·rw[RM.bq z]at q;exact h.out y t d' q
 ·rw[Ht]
  by_cases z:y=x/\t=s
  ·obtain⟨rfl,rfl⟩:=z;exact .inr ⟨d,c,RM.bQ _ _ _ _,if_pos rfl,tp _ _ hc⟩
  ·rw[RM.bq z,if_neg (fun q=>z (BZ q))]
   rcases h.val y t with q|⟨d',c',q1,q2,q3⟩
   ·exact .inl q
   ·exact .inr ⟨d',c',q1,q2,tp _ _ q3⟩
end
abbrev iR(m:Nat)(H:Hp)(c:Addr)(kw:Nat×Nat):Prop:=H c=some (.tup [.int (kw.1:Int),.int (kw.2:Int),.int ((m.testBit kw.1).toNat:Int)])
structure ET(m:Nat)(H0:Hp)(D:Addr)(es:List Addr)(S:Nat->List (Nat×Nat))(H:Hp):Prop where
 same:aq H0 H
 nd:es.Nodup
 ne:D∉es
 fr:∀ b∈es,H0 b=none
 Dn:H0 D=none
 lst:H D=some (.lst (es.map V.ref))
 at_:∀ i b,es[i]?=some b->∃ cs,H b=some (.lst (cs.map V.ref))/\Paired (iR m H) cs (S i)
section
variable {m:Nat}{H0 H H' : Hp}{D b:Addr}{es:List Addr}{S:Nat->List (Nat×Nat)}{i:Nat}
theorem ET.go(h:ET m H0 D es S H)(s:aq H H'):ET m H0 D es S H' :=
 ⟨h.same.trans s,h.nd,h.ne,h.fr,h.Dn,s _ _ h.lst,fun i b e=>let⟨cs,a,q⟩:=h.at_ i b e;⟨cs,s _ _ a,Paired.w6 q fun _ _ z=>s _ _ z⟩⟩
def uc(S:Nat->List (Nat×Nat))(x:Nat)(kw:Nat×Nat):Nat->List (Nat×Nat):=fun i=>if i=x then S i++[kw] else S i
theorem ET.get(h:ET m H0 D es S H)(hi:i<es.length):∃ b cs,(es.map V.ref)[i]?=some (.ref b)/\es[i]?=some b/\H b=some (.lst (cs.map V.ref))/\Paired (iR m H) cs (S i):=by
 have e:es[i]?=some es[i]:=List.getElem?_eq_getElem hi;obtain⟨cs,a,q⟩:=h.at_ i _ e;exact⟨es[i],cs,by rw[List.getElem?_map,e];rfl,e,a,q⟩
theorem ET.put(h:ET m H0 D es S H){cs:List Addr}{c:Addr}{kw:Nat×Nat}(hb:es[i]?=some b)(hcs:H b=some (.lst (cs.map V.ref)))(q:Paired (iR m H) cs (S i))(hc:iR m H c kw):
 ET m H0 D es (uc S i kw) (upd H b (.lst (cs.map V.ref++[.ref c]))):=by
 have hm:=List.mem_of_getElem? hb;have hne:D≠b:=fun z=>h.ne (z▸hm)
 have tp:∀ c kw,iR m H c kw->iR m (upd H b (.lst (cs.map V.ref++[.ref c]))) c kw:=fun c kw z=>by
  show upd H b _ c=_;rw[aj (aS z hcs (by intro z;cases z))]
  exact z
 have tp' : ∀ x kw,iR m H x kw->iR m (upd H b (.lst (cs.map V.ref++[.ref c]))) x kw:=fun x kw z=>by
  show upd H b _ x=_;rw[aj (aS z hcs (by intro z;cases z))]
  exact z
 refine⟨h.same.put (h.fr b hm),h.nd,h.ne,h.fr,h.Dn,by rw[aj hne];exact h.lst,fun j b' hb'=>?_⟩
 by_cases e:j=i
 ·subst e;rw[hb]at hb';cases hb';refine⟨cs++[c],by rw[ae];simp,?_⟩
  unfold uc;rw[if_pos rfl];exact Paired.snoc (Paired.w6 q fun _ _ z=>tp' _ _ z) (tp' _ _ hc)
 ·have bb:b'≠b:=fun z=>by
   subst z;obtain⟨h1,h2⟩:=List.getElem?_eq_some_iff.mp hb';obtain⟨h3,h4⟩:=List.getElem?_eq_some_iff.mp hb;exact e ((List.getElem_inj h.nd).mp (h2.trans h4.symm))
  obtain⟨cs',q1,q2⟩:=h.at_ j b' hb';refine⟨cs',by rw[aj bb];exact q1,?_⟩
  unfold uc;rw[if_neg e];exact Paired.w6 q2 fun _ _ z=>tp' _ _ z
theorem ET.off(h:ET m H0 D es S H){L:Addr}(hL:H L=none):L∉es:=fun z=>by
 obtain⟨j,hj⟩:=List.getElem?_of_mem z;obtain⟨_,q,_⟩:=h.at_ j L hj;rw[hL]at q;cases q
def L0(m:Nat)(H0:Hp)(D:Addr)(i:Nat)(acc:List V)(H:Hp):Prop:=∃ es,acc=es.map V.ref/\es.length=i/\ET m H0 D es (fun _=>[]) H
theorem L0.start(hD:H0 D=none):L0 m H0 D 0 [] (upd H0 D (.lst [])) :=
 ⟨[],rfl,rfl,aq.new hD,List.nodup_nil,List.not_mem_nil,fun _ h=>(List.not_mem_nil h).elim,hD,ae,fun i b e=>by cases e⟩
theorem L0.len{acc:List V}(h:L0 m H0 D i acc H):H D=some (.lst acc)/\acc.length<=i:=by
 obtain⟨es,rfl,e,r⟩:=h;exact⟨r.lst,by rw[List.length_map];lia⟩
theorem L0.next{acc:List V}(h:L0 m H0 D i acc H)(hb:H b=none):upd H b (.lst []) D=some (.lst acc)/\L0 m H0 D (i+1) (acc++[.ref b]) (upd (upd H b (.lst [])) D (.lst (acc++[.ref b]))):=by
 obtain⟨es,rfl,e,r⟩:=h;have Nk:D≠b:=fun z=>by
  have:=r.lst;rw[z,hb]at this;cases this
 have hbn:b∉es:=r.off hb;have hb0:H0 b=none:=r.same.free hb;refine⟨by rw[aj Nk];exact r.lst,es++[b],by simp,by simp[e],(r.same.put hb0).put r.Dn,?_,?_,fun c hc=>?_,r.Dn,by rw[ae];simp,fun j c hc=>?_⟩
 ·exact List.nodup_append.mpr ⟨r.nd,by simp,fun x hx y hy=>by rw[List.mem_singleton.mp hy];exact fun z=>hbn (z▸hx)⟩
 ·intro hm;rcases List.mem_append.mp hm with z|z
  ·exact r.ne z
  ·exact Nk (List.mem_singleton.mp z)
 ·rcases List.mem_append.mp hc with z|z
  ·exact r.fr c z
  ·rw[List.mem_singleton.mp z];exact hb0
 ·have Tw:c≠D:=fun z=>by
   subst z;rcases List.mem_append.mp (List.mem_of_getElem? hc) with z|z
   ·exact r.ne z
   ·exact Nk (List.mem_singleton.mp z)
  refine⟨[],?_,.nil⟩;rw[aj Tw]
  by_cases ec:c=b
  ·rw[ec,ae];rfl
  ·rw[aj ec]
   by_cases hj:j<es.length
   ·rw[List.getElem?_append_left hj]at hc;obtain⟨cs,q1,q2⟩:=r.at_ j c hc;cases q2;exact q1
   ·rw[List.getElem?_append_right (by lia)]at hc
    have:=List.mem_of_getElem? hc;exact absurd (List.mem_singleton.mp this) ec
end
structure L1(N:RM.Net)(k:Nat)(S:Nat->List (Nat×Nat)):Prop where
 mem:∀ i kw,kw∈S i↔(kw.1<k/\RM.Jn N kw.1 i kw.2)
 len:∀ i,(S i).length<=2*k
theorem L1.start{N:RM.Net}:L1 N 0 (fun _=>[]):=⟨fun i kw=>⟨fun h=>(nomatch h),fun h=>absurd h.1 (Nat.not_lt_zero _)⟩,fun _=>Nat.zero_le _⟩
theorem L1.next{N:RM.Net}{k:Nat}{S:Nat->List (Nat×Nat)}(h:L1 N k S):L1 N (k+1) (uc (uc S (N.a k) (k,N.b k)) (N.b k) (k,N.a k)):=by
 refine⟨fun i kw=>?_,fun i=>?_⟩
 ·have one:∀(S:Nat->List (Nat×Nat)) (x:Nat) (q:Nat×Nat),kw∈uc S x q i↔kw∈S i\/(i=x/\kw=q):=fun S x q=>by
   unfold uc
   by_cases e:i=x
   ·rw[if_pos e,List.mem_append,List.mem_singleton];simp[e]
   ·rw[if_neg e];simp[e]
  rw[one,one,h.mem];obtain⟨k',w⟩:=kw
  constructor
  ·rintro((⟨h1,h2⟩|⟨rfl,h2⟩) | ⟨rfl,h2⟩)
   ·exact⟨Nat.lt_succ_of_lt h1,h2⟩
   ·cases h2;exact⟨Nat.lt_succ_self _,.inl ⟨rfl,rfl⟩⟩
   ·cases h2;exact⟨Nat.lt_succ_self _,.inr ⟨rfl,rfl⟩⟩
  ·rintro⟨h1,h2⟩
   by_cases e:k'<k
   ·exact .inl (.inl ⟨e,h2⟩)
   ·have e:k' = k:=by have:k'<k+1:=h1;lia
    subst e;rcases h2 with⟨h3,h4⟩|⟨h3,h4⟩
    ·exact .inl (.inr ⟨h3.symm,by have h4:N.b k' = w:=h4;rw[h4]⟩)
    ·exact .inr ⟨h3.symm,by have h4:N.a k' = w:=h4;rw[h4]⟩
 ·have one:∀(S:Nat->List (Nat×Nat)) (x:Nat) (q:Nat×Nat),(uc S x q i).length<=(S i).length+1:=fun S x q=>by
   unfold uc
   split
   ·simp
   ·lia
  have h1:=one (uc S (N.a k) (k,N.b k)) (N.b k) (k,N.a k);have h2:=one S (N.a k) (k,N.b k);have h3:=h.len i
  lia
end L2
namespace RM
def left(F:OW):Nat->Nat
 | 0=>0
 | p+1=>left F p+(if(F p false).isNone then 1 else 0)+(if(F p true).isNone then 1 else 0)
theorem wL{F G:OW}:∀{p:Nat},(∀ x,x<p->∀ s,F x s=G x s)->left F p=left G p
 | 0,_=>rfl
 | p+1,h=>by
   unfold left;rw[wL fun x hx=>h x (by lia),h p (by lia),h p (by lia)]
theorem Aa{F:OW}{x:Nat}{s:Bool}{d:Int×Nat}(hn:F x s=none):∀{p:Nat},x<p->left (iQ F x s d) p<left F p
 | 0,h=>absurd h (Nat.not_lt_zero _)
 | p+1,h=>by
   unfold left
   by_cases e:x=p
   ·subst e;rw[wL (F:=iQ F x s d) (G:=F) fun y hy t=>bq fun z=>by lia]
    cases s with
    | false=>rw[bQ,bq (fun z=>by cases z.2),hn];simp
    | true=>rw[bQ,bq (fun z=>by cases z.2),hn];simp
   ·have ih:=Aa (F:=F) (x:=x) (s:=s) (d:=d) hn (p:=p) (by lia)
    rw[bq (fun z=>e z.1.symm),bq (fun z=>e z.1.symm)]
    lia
end RM
namespace L2
open PySem Ring
def RU(W:RM.OW)(k:List Key):List Int:=match k with
 | [.inl x,.inl s]=>(match W x.toNat (decide (s=1)) with | some d=>[d.1,(d.2:Int)] | none=>[])
 | _=>[]
theorem Iu{W:RM.OW}{x:Nat}{s:Bool}{d:Int×Nat}(h:W x s=some d):RU W (ky x s)=[d.1,(d.2:Int)]:=by
 have e:(decide (((s.toNat:Nat):Int)=1))=s:=by cases s<;>rfl
 show(match W ((x:Int)).toNat (decide (((s.toNat:Nat):Int)=1)) with | some d=>[d.1,(d.2:Int)] | none=>[])=_
 rw[Int.toNat_natCast,e,h]
def Iv(W:RM.OW)(kvs:List (List Key×V))(i:Nat):List Int:=RU W ((kvs[i]?.map (·.1)).getD [])
theorem xX{a b c d:Int}(h:HT.lexLt [a,b] [c,d]=false):c<=a:=by
 rw[HT.fU]at h
 by_cases e:a=c
 ·lia
 ·rw[if_neg e]at h;have:=of_decide_eq_false h
  lia
theorem wM{κ:Type}[DecidableEq κ]:∀{kvs:List (κ×V)} {k:κ} {v:V},(kvs.map (·.1)).Nodup->(k,v)∈kvs->dN kvs k=some v
 | [],_,_,_,h=>nomatch h
 | q::r,k,v,nd,h=>by
   rw[List.map_cons,List.nodup_cons]at nd;rcases List.mem_cons.mp h with e|h
   ·subst e;exact cz rfl
   ·have ne : ¬ q.1=k:=fun z=>nd.1 (by rw[z];exact List.mem_map_of_mem (f:=(·.1)) h)
    rw[b8 ne];exact wM nd.2 h
theorem ua.entry{p:Nat}{H0 H:Hp}{D wd:Addr}{es:List Addr}{kvs:List (List Key×V)}{F W:RM.OW}(h:ua p H0 D wd es kvs F W H){i:Nat}{kv:List Key×V}(e:kvs[i]?=some kv):
 ∃ x s d c,x<p/\kv.1=ky x s/\W x s=some d/\dN kvs (ky x s)=some (.ref c)/\kv.2 = .ref c/\H c=some (.tup [.int d.1,.int (d.2:Int)])/\Iv W kvs i=[d.1,(d.2:Int)]:=by
 have hm:=List.mem_of_getElem? e;obtain⟨x,s,hx,ek⟩:=h.keys kv hm;have hv:dN kvs (ky x s)=some kv.2:=wM h.kn (by rw[<-ek];exact hm)
 rcases h.val x s with⟨_,z⟩|⟨d,c,h1,h2,h3⟩
 ·rw[hv]at z;cases z
 ·rw[hv]at h2;refine⟨x,s,d,c,hx,ek,h1,hv.trans h2,Option.some.inj h2,h3,?_⟩;unfold Iv;rw[e];show RU W kv.1=_;rw[ek];exact Iu h1
theorem ua.find{p:Nat}{H0 H:Hp}{D wd:Addr}{es:List Addr}{kvs:List (List Key×V)}{F W:RM.OW}(h:ua p H0 D wd es kvs F W H){x:Nat}{s:Bool}{d:Int×Nat}(e:W x s=some d):∃(i:Nat) (kv:List Key×V),kvs[i]?=some kv/\kv.1=ky x s/\Iv W kvs i=[d.1,(d.2:Int)]:=by
 rcases h.val x s with⟨z,_⟩|⟨d',c,h1,h2,h3⟩
 ·rw[e]at z;cases z
 ·have hm:=KO h2;obtain⟨kv,hkv,ek⟩:=List.mem_map.mp hm;obtain⟨i,hi⟩:=List.getElem?_of_mem hkv;refine⟨i,kv,hi,ek,?_⟩;unfold Iv;rw[hi];show RU W kv.1=_;rw[ek];exact Iu e
theorem ua.start{p:Nat}{H0 H:Hp}{D wd c:Addr}{es:List Addr}{u:Nat}(f:BU H0 D es (fun _ _=>none) H)(hu:u<p)(hw:H wd=some (.dT []))(h0:H0 wd=none)(hc:H c=some (.tup [.int 0,.int 0])):
 ua p H0 D wd es [(ky u false,.ref c)] (fun _ _=>none) (RM.iQ (fun _ _=>none) u false (0,0)) (upd H wd (.dT [(ky u false,.ref c)])):=by
 have wD:wd≠D:=fun z=>by rw[z,f.lst]at hw;cases hw
 have wE:wd∉es:=fun z=>by
  obtain⟨j,hj⟩:=List.getElem?_of_mem z;have:=f.at_ j wd hj;rw[hw]at this;cases this
 refine⟨f.same.put h0,f.nd,f.ne,f.fr,f.Dn,h0,wD,wE,by rw[aj (Ne.symm wD)];exact f.lst,fun i b hb=>?_,ae,by simp,fun kv hkv=>?_,fun x s d e=>?_,fun x s=>?_⟩
 ·have nb:b≠wd:=fun z=>wE (z▸List.mem_of_getElem? hb)
  exact⟨.dR,.dR,by rw[aj nb];exact f.at_ i b hb,rfl,rfl⟩
 ·rw[List.mem_singleton.mp hkv];exact⟨u,false,hu,rfl⟩
 ·by_cases z:x=u/\s=false
  ·rw[z.1];exact hu
  ·rw[RM.bq z]at e;cases e
 ·by_cases z:x=u/\s=false
  ·obtain⟨rfl,rfl⟩:=z;exact .inr ⟨(0,0),c,RM.bQ _ _ _ _,cz rfl,by rw[aj (aS hc hw (by intro z;cases z))];exact hc⟩
  ·refine .inl ⟨RM.bq z,?_⟩;rw[b8 (fun q=>z ?_),tI]
   obtain⟨e1,e2⟩:=BZ q;exact⟨e1.symm,e2.symm⟩
open PySem PySem.Spec PyProof.Rows
section
variable {P:Program}{w:World}{A:Around}{E:dh}{s:Shared}
theorem Iw{l:Addr}{u0 u1:Value}{Q:List Value->Shared->Prop}(hh:A.handled=none)(hl:s.heap.IsList l #[u0,u1])
 (hQ:∀ h' tk,(∀ b o,s.heap.get? b=some o->h'.get? b=some o)->Q [u0,u1] { s with heap:=h',toks:=tk}):wpAny (model P w) A (unpackItems (.ref l) 2 none) Q E s:=by
 obtain⟨ol,Qo,hcl,nl,hdl⟩:=id hl;have hT:s.TypeIs (.ref l) "list":=⟨ol,Qo,hcl⟩;have hne:l≠s.heap.objs.size:=Nat.ne_of_lt (Heap.lt_size Qo);unfold unpackItems;refine wpAny_bind ?_;unfold notIterableAtAll;refine wpAny_bind (wpAny_specialOf hT PySem.F.slot_list_iter.lookup (wpAny_pure ?_));simp only[Bool.false_eq_true,if_false];refine wpAny_bind (wpAny_holding (wpAny_pyIter_list hl ?_));have W:=Walks.list (prog:=P) (w:=w) (A:=A) hh s.heap.objs.size l hne #[u0,u1];generalize hg:s.heap.push { cls:=.type "list_iterator",data:=.fields #[.ref l,.int 0 0]}=g0;have X5:∀ b o,s.heap.get? b=some o->g0.get? b=some o:=fun b o e=>by rw[<-hg];exact Heap.get?_push_of_some _ e
 have X6:g0.IsListIter s.heap.objs.size l 0:=by rw[<-hg];exact⟨_,Heap.get?_push_size _ rfl,rfl,rfl⟩
 have X7:g0.IsList l #[u0,u1]:=by rw[<-hg];exact⟨ol,Heap.get?_push_of_some _ Qo,hcl,nl,hdl⟩
 have nI:∀ b o,s.heap.get? b=some o->b∉[s.heap.objs.size]:=fun b o e z=>Nat.ne_of_lt (Heap.lt_size e) (List.mem_singleton.mp z)
 refine wpAny_bind (wpAny_holding ?_);show wpAny _ _ (pyNext (.ref s.heap.objs.size) >>= _) _ _ _;refine wpAny_bind (W.item 0 _ _ _ (by simp) ⟨X6,X7⟩ fun v1 h1 tk1 hv1 st1 k1=>?_)
 obtain rfl:u0=v1:=by simpa using hv1
 refine wpAny_bind (wpAny_holding ?_);show wpAny _ _ (pyNext (.ref s.heap.objs.size) >>= _) _ _ _;refine wpAny_bind (W.item 1 _ _ _ (by simp) st1 fun v2 h2 tk2 hv2 st2 k2=>?_)
 obtain rfl:u1=v2:=by simpa using hv2
 refine wpAny_bind (wpAny_holding ?_);show wpAny _ _ (pure []) _ _ _;refine wpAny_pure (wpAny_pure (wpAny_pure ?_));rw[if_neg (by simp)]
 refine wpAny_bind (wpAny_holding (W.done _ _ _ st2 fun h3 X8 k3=>?_))
 simp only[Option.isSome_none,Bool.false_eq_true,if_false];exact wpAny_pure (hQ h3 X8 fun b o e=>k3 b o (nI b o e) (k2 b o (nI b o e) (k1 b o (nI b o e) (X5 b o e))))
theorem Iz{env:Env}{elts:List Expr}{x1}{pos:Pos}{l:Addr}{u0 u1:Value}{Q:Unit->Shared->Prop}(hh:A.handled=none)(hl:s.heap.IsList l #[u0,u1])
 (hn:(assignEach elts env).length=2) (hstar:(assignEach elts env).findIdx? (·.1)=none)
 (h:∀ h' tk,(∀ b o,s.heap.get? b=some o->h'.get? b=some o)->wpAny (model P w) A (assignInOrder ((assignEach elts env).map (·.2)) [u0,u1]) Q E { s with heap:=h',toks:=tk}) :
 wpAny (model P w) A (assign (.Tuple elts x1 pos) env (.ref l)) Q E s:=by
 rw[arm_assign_Tuple];refine wpAny_bind (wpAny_standAt ?_);unfold unpack;rw[hn,hstar];exact wpAny_bind (wpAny_holding (Iw hh hl h))
end
section
variable {X:Cx}{es:List Expr}{pos:Pos}
def Qp(K:bJ)(t:Jz):TG:=fun v σ H Q=>∃ a x y,v = .ref a/\aL K H a [x,y]/\t [x,y] σ H Q
theorem TQ(K:bJ){k:Nat}{t:Jz}(hc:X.calm=true)(h:Oh X es t)
 (hn:(assignEach es X.env).length=2:=by rfl) (hst:(assignEach es X.env).findIdx? (·.1)=none:=by rfl) (hK:X.K=K:=by rfl):PG X (.Tuple es k pos) (Qp K t):=by
 subst hK;intro pins s σ H v u Q I r hw;obtain⟨a,x,y,e1,hq,hw⟩:=hw;subst e1;cases r;obtain⟨its,rv,ht,hz⟩:=I.list hq;cases rv with
 | cons r1 rr=>cases rr with
   | cons r2 rr2 =>
     cases rr2;refine Iz (I.ok.hd hc) ht.isList hn hst fun h' tk hx=>?_
     exact h pins _ σ H [x,y] _ Q (I.kept (t':=tk) hx) (.cons r1 (.cons r2 .nil)) hw
end
end L2
namespace RM
section
variable {N:Net}{L:Nat->Int}{m u:Nat}
theorem rm{f g:Nat->Bool}:∀{n:Nat},(∀ k,k<n->0<L k)->(∀ k,k<n->f k=true->g k=true)->∀ k,k<n->f k=false->g k=true->lsum L f n<lsum L g n
 | 0,_,_,k,hk,_,_=>absurd hk (Nat.not_lt_zero _)
 | n+1,hL,h,k,hk,hf,hg=>by
   unfold lsum;have hn:=h n (by lia)
   have h0:=hL n (by lia)
   by_cases e:k=n
   ·subst e;have:=pY (L:=L) (f:=f) (g:=g) (n:=k) (fun j hj=>Int.le_of_lt (hL j (by lia))) fun j hj=>h j (by lia)
    rw[hf,hg];simp only[Bool.false_eq_true,if_false,if_true]
    lia
   ·have ih:=rm (n:=n) (fun j hj=>hL j (by lia)) (fun j hj=>h j (by lia)) k (by lia) hf hg
    cases hfn:f n with
    | false=>cases g n<;>simp<;>lia
    | true=>rw[hn hfn];simp;lia
theorem B3(hL:∀ k,k<N.n->0<L k)(hu:u<N.p){z:Int}{e:Nat}(h:Wz N L m u u true z e)(hmin:∀ x z',x<N.p->Wy N L m x x true z'->z<=z'):
 N.Ring e/\e<2^N.n/\N.par e m=true/\lsum L (fun k=>e.testBit k) N.n=z:=by
 have Qq:∀ k,k<N.n->0<=L k:=fun k hk=>Int.le_of_lt (hL k hk)
 obtain⟨pre,h⟩:=h;obtain⟨_,h2,h3,h4,h5,_⟩:=oF Qq hu h;obtain⟨r,r1,r2,r3⟩:=BR _ e rfl h2 (fun x _=>by rw[h3,Bool.xor_self]) h4
 have Vl:r<2^N.n:=bZ fun k hk=>ny h2 (r2 k hk)
 obtain⟨x,hx,hw⟩:=oG Qq m r1 Vl;rw[r3]at hw;have hz:=hmin x _ hx hw;have hle:=pY (L:=L) (f:=fun k=>r.testBit k) (g:=fun k=>e.testBit k) Qq fun k _ hk=>r2 k hk
 have er:e=r:=Nat.eq_of_testBit_eq fun k=>by
  cases hr:r.testBit k with
  | true=>exact r2 k hr
  | false =>
    cases he:e.testBit k with
    | false=>rfl
    | true =>
      have:=rm (L:=L) (f:=fun k=>r.testBit k) (g:=fun k=>e.testBit k) hL (fun k _ hk=>r2 k hk) k (ny h2 he) hr he
      lia
 rw[er];exact⟨r1,Vl,r3,by lia⟩
theorem IA(hL:∀ k,k<N.n->0<=L k)(hno:∀ x z',x<N.p->¬ Wy N L m x x true z'){r:Nat}(hr:N.Ring r)(hm:r<2^N.n):N.par r m=false:=by
 cases hp:N.par r m with
 | false=>rfl
 | true =>
   obtain⟨x,hx,hw⟩:=oG hL m hr hm;rw[hp]at hw;exact absurd hw (hno x _ hx)
end
end RM
namespace L2
open PySem PySem.Spec PyProof.Rows
section
variable {X:Cx}{pins:aQ}{σ:St}{H:Hp}{l It S:Addr}{cs:List Addr}{ks:Nat->List Int}{R:Result->Shared->Prop}
theorem jZ{pa:aQ}{s:Shared}(I:Inv X pa σ H s)(hl:aL X.K H l (cs.map V.ref)):s.heap.IsList l (cs.map Value.ref).toArray:=by
 obtain⟨its,rv,p,hz⟩:=I.list hl;have e:its=cs.map Value.ref:=by
  clear hl p hz
  induction cs generalizing its with
  | nil=>cases rv;rfl
  | cons c r ih =>
    rw[List.map_cons]at rv;cases rv with
    | cons h t=>cases h;rw[ih _ t];rfl
 rw[e]at p;exact p.isList
theorem EU(hh:X.A.handled=none)(un:X.A.in1.units<cLine)(hl:aL X.K H l (cs.map V.ref))(hk:∀(i:Nat) c,cs[i]?=some c->aV X.K H c ((ks i).map V.int))(oS:BW X S)(oI:BW X It)(SI:S≠It)(lI:l≠It)
 (pI:∀ p∈pins,p.1≠It) (pS:∀ p∈pins,p.1≠S)
 (hR:∀(i:Nat) c s',cs[i]?=some c->(∀ j,j<cs.length->HT.lexLt (ks j) (ks i)=false)->Inv X pins σ H s'->R (.ok (.ret (.ref c))) s') :
 ∀(r j i:Nat) (c:Addr) (s:Shared) (n:Nat) (Ge:Obj),cs.length-j=r->j<=cs.length->i<j->cs[i]?=some c->Inv X ((S,seqObj "list" #[.ref c,.ref c] n)::(It,Ge)::pins) σ H s->s.heap.IsListIter It l j->
  (∀ j',j'<j->HT.lexLt (ks j') (ks i)=false)->codeAny (model X.prog X.w) X.A (.builtin "min.loop" ⟨[.ref It,.none,.ref S],[]⟩) R s:=by
 have hname:(toString "min" ++ toString ".loop":String)="min.loop":=by decide
 have W:=Walks.list (prog:=X.prog) (w:=X.w) (A:=X.A.in1) hh It l lI (cs.map Value.ref).toArray;have hsz:(cs.map Value.ref).toArray.size=cs.length:=by simp
 intro r
 induction r with
 | zero =>
   intro j i c s n Ge hr hj hij hc I hit oJ;have Ba:j=cs.length:=by lia
   have t8:=I.pin (S,_) (List.mem_append_right _ (.head _));refine codeAny_builtin PySem.F.entry_min_loop ?_;rw[Around.under_plainId PySem.F.plain_min_loop _];show wpAny _ X.A.in1 (seqItems? (.ref S) >>= _) _ _ _;refine wpAny_bind (wpAny_seqItems t8.1 rfl ?_);show wpAny _ X.A.in1 (tryCatch (pyNext (.ref It)) _ >>= _) _ _ _;refine wpAny_bind (wpAny_tryCatch (W.done _ _ _ ⟨by rw[hsz,<-Ba];exact hit,jZ I hl⟩ fun h' tk' hk'=>?_))
   have I1:=I.je (t':=tk') (h':=h') (pb:=(S,seqObj "list" #[.ref c,.ref c] n)::pins) oI (List.Mem.tail _ (.head _)) (fun b u hb e=>hk' b u (by simpa using hb) e) (fun p hp=>by
    rcases List.mem_cons.mp hp with rfl|hp
    ·exact .inr ⟨.head _,SI⟩
    ·exact .inr ⟨.tail _ (.tail _ hp),pI p hp⟩)
   have Il:=I1.pin (S,_) (List.mem_append_right _ (.head _));show wpAny _ X.A.in1 (updateSeq S (fun _=>#[]) >>= _) _ _ _
   refine wpAny_bind (wpAny_updateSeq Il.1 rfl (wpAny_bind (wpAny_letGo (wpAny_pure ?_))));have s1:=Heap.SameBut.update h' S (Obj.mapSeq fun _=>(#[]:Array Value))
   exact hR i c _ hc (fun j' hj'=>oJ j' (by lia)) (I1.je (t':=tk') (pb:=pins) oS (.head _) (fun b u hb e=>(s1.2 b hb).trans e) fun p hp=>.inr ⟨.tail _ hp,pS p hp⟩)
 | succ r ih =>
   intro j i c s n Ge hr hj hij hc I hit oJ;have Ba:j<cs.length:=by lia
   have t8:=I.pin (S,_) (List.mem_append_right _ (.head _));refine codeAny_builtin PySem.F.entry_min_loop ?_;rw[Around.under_plainId PySem.F.plain_min_loop _];show wpAny _ X.A.in1 (seqItems? (.ref S) >>= _) _ _ _;refine wpAny_bind (wpAny_seqItems t8.1 rfl ?_);show wpAny _ X.A.in1 (tryCatch (pyNext (.ref It)) _ >>= _) _ _ _;refine wpAny_bind (wpAny_tryCatch (W.item j _ _ _ (by rw[hsz];exact Ba) ⟨hit,jZ I hl⟩ fun v h' tk' hv st' hk'=>?_))
   have Ov:cs[j]?=some cs[j]:=List.getElem?_eq_getElem Ba;obtain rfl:v = .ref cs[j]:=by
    have:(cs.map Value.ref)[j]?=some v:=by simpa using hv
    rw[List.getElem?_map,Ov]at this;exact(Option.some.inj this).symm
   obtain⟨JG,IB,hoc,hod⟩:=id st'.1;have I1:=I.je (t':=tk') (h':=h') (pb:=(S,seqObj "list" #[.ref c,.ref c] n)::(It,JG)::pins) oI (List.Mem.tail _ (.head _)) (fun b u hb e=>hk' b u (by simpa using hb) e) (fun p hp=>by
    rcases List.mem_cons.mp hp with rfl|hp
    ·exact .inr ⟨.head _,SI⟩
    ·rcases List.mem_cons.mp hp with rfl|hp
     ·exact .inl ⟨rfl,IB,fun v z=>by rw[hod]at z;cases z⟩
     ·exact .inr ⟨.tail _ (.tail _ hp),pI p hp⟩)
   have lE:=I1.pin (S,_) (List.mem_append_right _ (.head _));show wpAny _ X.A.in1 (tryCatch (holding [.ref cs[j],.ref cs[j]] (richCompare .Lt (.ref cs[j]) (.ref c) >>= _)) _ >>= _) _ _ _;refine wpAny_bind (wpAny_tryCatch (wpAny_holding (wpAny_bind (Ii I1 (hk j _ Ov) (hk i c hc) un ?_))));refine wpAny_bind (wpAny_holding (wpAny_truthy_bool (wpAny_bind (wpAny_letGo (wpAny_pure ?_)))));cases hlt:HT.lexLt (ks j) (ks i) with
   | true =>
     have s1:=Heap.SameBut.update h' S (Obj.mapSeq fun _=>(#[.ref cs[j],.ref cs[j]]:Array Value))
     obtain⟨n2,hn2⟩:∃ n2,(h'.update S (Obj.mapSeq fun _=>(#[.ref cs[j],.ref cs[j]]:Array Value))).get? S=some (seqObj "list" #[.ref cs[j],.ref cs[j]] n2):=⟨_,get?_update_seq lE.1 fun _=>#[.ref cs[j],.ref cs[j]]⟩
     simp only[if_true];refine wpAny_bind (wpAny_updateSeq lE.1 rfl (wpAny_bind (wpAny_letGo ?_)));rw[hname];have I3:=I1.je (t':=tk') (pb:=(S,seqObj "list" #[.ref cs[j],.ref cs[j]] n2)::(It,JG)::pins) oS (.head _) (fun b u hb e=>(s1.2 b hb).trans e) (fun p hp=>by
      rcases List.mem_cons.mp hp with rfl|hp
      ·exact .inl ⟨rfl,hn2,fun v z=>by cases z⟩
      ·rcases List.mem_cons.mp hp with rfl|hp
       ·exact .inr ⟨.tail _ (.head _),SI.symm⟩
       ·exact .inr ⟨.tail _ (.tail _ hp),pS p hp⟩)
     refine wpAny_pure ⟨plainId_quiet PySem.F.plain_min_loop _,ih (j+1) j cs[j] _ n2 JG (by lia) (by lia) (by lia) Ov I3 ⟨JG,(s1.2 It SI.symm).trans IB,hoc,hod⟩ fun j' hj'=>?_⟩
     by_cases e:j' = j
     ·rw[e];exact HT.fH _
     ·exact HT.tY (oJ j' (by lia)) hlt
   | false =>
     simp only[Bool.false_eq_true,if_false];refine wpAny_bind (wpAny_letGo ?_);rw[hname];refine wpAny_pure ⟨plainId_quiet PySem.F.plain_min_loop _,ih (j+1) i c _ n JG (by lia) (by lia) (by lia) hc I1 st'.1 fun j' hj'=>?_⟩
     by_cases e:j' = j
     ·rw[e];exact hlt
     ·exact oJ j' (by lia)
theorem TR(hr:X.A.handled=none)(un:X.A.in1.units<cLine):fg X (.builtin "min") (fun xs H Q=>∃(l:Addr) (cs:List Addr) (ks:Nat->List Int),xs=[.ref l]/\aL X.K H l (cs.map V.ref)/\0<cs.length/\(∀(i:Nat) c,cs[i]?=some c->aV X.K H c ((ks i).map V.int))/\
 ∀(i:Nat) c,cs[i]?=some c->(∀ j,j<cs.length->HT.lexLt (ks j) (ks i)=false)->Q (.ref c) H):=by
 intro pins s σ H xs us Q I r h;obtain⟨l,cs,ks,rfl,hl,hne,hk,q⟩:=h;obtain⟨u,rfl,rx⟩:=vals1 r;cases rx;have hname:(toString "min" ++ toString ".loop":String)="min.loop":=by decide
 have hls:=jZ I hl;obtain⟨ol,Qo,_⟩:=id hls;have X9:l<s.heap.objs.size:=Heap.lt_size Qo;refine call_function_tree PySem.F.kind_min PySem.F.plain_min PySem.F.entry_min (PySem.F.args_min1 _) ?_;show wpAny _ X.A.in1 (Builtin.Builtins.bindParams "min" ["key","default"] 0 ⟨[],[]⟩ >>= _) _ _ s;refine wpAny_bind (wpAny_of_eq (show Builtin.Builtins.bindParams "min" ["key","default"] 0 ⟨[],[]⟩=pure [none,none] from rfl) ?_)
 refine wpAny_bind (wpAny_pure (wpAny_bind (wpAny_pyIter_list hls (wpAny_bind (wpAny_newList ?_ (Nat.zero_le _))))));rw[hname];refine wpAny_pure ⟨plainId_quiet PySem.F.plain_min_loop _,?_⟩;generalize Nx:({ cls:=.type "list_iterator",data:=.fields #[.ref l,.int 0 0]}:Obj)=oI;have hS:(s.heap.push oI).objs.size=s.heap.objs.size+1:=size_push' ..;have hk2:∀ b o,s.heap.get? b=some o->((s.heap.push oI).push (seqObj "list" #[] 0)).get? b=some o:=fun b o e=>Heap.get?_push_of_some _ (Heap.get?_push_of_some _ e)
 have gI:((s.heap.push oI).push (seqObj "list" #[] 0)).get? s.heap.objs.size=some oI:=Heap.get?_push_of_some _ (Heap.get?_push_size _ (by rw[<-Nx];rfl))
 have gS:((s.heap.push oI).push (seqObj "list" #[] 0)).get? (s.heap.push oI).objs.size=some (seqObj "list" #[] 0):=Heap.get?_push_size _ rfl;have K7:∀ p∈pins,p.1<s.heap.objs.size:=fun p hp=>Heap.lt_size (I.pin p (List.mem_append_right _ hp)).1
 have LY:=I.Ih (Nat.le_refl s.heap.objs.size);have oS:=I.Ih (b:=(s.heap.push oI).objs.size) (by rw[hS];exact Nat.le_succ _)
 have SI:(s.heap.push oI).objs.size≠s.heap.objs.size:=by rw[hS];exact Nat.succ_ne_self _
 have lI:l≠s.heap.objs.size:=Nat.ne_of_lt X9;have pI:∀ p∈pins,p.1≠s.heap.objs.size:=fun p hp=>Nat.ne_of_lt (K7 p hp)
 have pS:∀ p∈pins,p.1≠(s.heap.push oI).objs.size:=fun p hp=>by rw[hS];exact Nat.ne_of_lt (Nat.lt_succ_of_lt (K7 p hp))
 have J:Inv X (((s.heap.push oI).objs.size,seqObj "list" #[] 0)::(s.heap.objs.size,oI)::pins) σ H { s with heap:=(s.heap.push oI).push (seqObj "list" #[] 0)}:=by
  have K:=I.kept (t':=s.toks) hk2;refine K.fC fun p hp=>?_
  rcases List.mem_cons.mp hp with rfl|hp
  ·exact⟨gS,I.hok.fresh (by rw[hS];exact Nat.le_succ _),oS.2.1,oS.2.2.1,fun v z=>by cases z⟩
  ·rcases List.mem_cons.mp hp with rfl|hp
   ·exact⟨gI,I.hok.fresh (Nat.le_refl _),LY.2.1,LY.2.2.1,fun v z=>by rw[<-Nx]at z;cases z⟩
   ·exact K.pin p (List.mem_append_right _ hp)
 have W:=Walks.list (prog:=X.prog) (w:=X.w) (A:=X.A.in1) hr s.heap.objs.size l lI (cs.map Value.ref).toArray;have t8:=J.pin ((s.heap.push oI).objs.size,seqObj "list" #[] 0) (List.mem_append_right _ (.head _));refine codeAny_builtin PySem.F.entry_min_loop ?_;rw[Around.under_plainId PySem.F.plain_min_loop _];show wpAny _ X.A.in1 (seqItems? (.ref _) >>= _) _ _ _;refine wpAny_bind (wpAny_seqItems t8.1 rfl ?_);show wpAny _ X.A.in1 (tryCatch (pyNext (.ref s.heap.objs.size)) _ >>= _) _ _ _;refine wpAny_bind (wpAny_tryCatch (W.item 0 _ _ _ (by simpa using hne) ⟨⟨oI,gI,by rw[<-Nx],by rw[<-Nx];rfl⟩,jZ J hl⟩ fun v h' tk' hv st' hk'=>?_))
 have Ov:cs[0]?=some cs[0]:=List.getElem?_eq_getElem hne;obtain rfl:v = .ref cs[0]:=by
  have:(cs.map Value.ref)[0]?=some v:=by simpa using hv
  rw[List.getElem?_map,Ov]at this;exact(Option.some.inj this).symm
 obtain⟨JG,IB,hoc,hod⟩:=id st'.1;have I1:=J.je (t':=tk') (h':=h') (pb:=((s.heap.push oI).objs.size,seqObj "list" #[] 0)::(s.heap.objs.size,JG)::pins) LY (List.Mem.tail _ (.head _)) (fun b u hb e=>hk' b u (by simpa using hb) e) (fun p hp=>by
  rcases List.mem_cons.mp hp with rfl|hp
  ·exact .inr ⟨.head _,SI⟩
  ·rcases List.mem_cons.mp hp with rfl|hp
   ·exact .inl ⟨rfl,IB,fun v z=>by rw[hod]at z;cases z⟩
   ·exact .inr ⟨.tail _ (.tail _ hp),pI p hp⟩)
 have lE:=I1.pin ((s.heap.push oI).objs.size,_) (List.mem_append_right _ (.head _));have s1:=Heap.SameBut.update h' (s.heap.push oI).objs.size (Obj.mapSeq fun _=>(#[.ref cs[0],.ref cs[0]]:Array Value))
 obtain⟨n2,hn2⟩:∃ n2,(h'.update (s.heap.push oI).objs.size (Obj.mapSeq fun _=>(#[.ref cs[0],.ref cs[0]]:Array Value))).get? (s.heap.push oI).objs.size=some (seqObj "list" #[.ref cs[0],.ref cs[0]] n2):=⟨_,get?_update_seq lE.1 fun _=>#[.ref cs[0],.ref cs[0]]⟩
 show wpAny _ X.A.in1 (updateSeq (s.heap.push oI).objs.size (fun _=>#[.ref cs[0],.ref cs[0]]) >>= _) _ _ _
 refine wpAny_bind (wpAny_updateSeq lE.1 rfl ?_);rw[hname];have I3:=I1.je (t':=tk') (pb:=((s.heap.push oI).objs.size,seqObj "list" #[.ref cs[0],.ref cs[0]] n2)::(s.heap.objs.size,JG)::pins) oS (.head _) (fun b u hb e=>(s1.2 b hb).trans e) (fun p hp=>by
  rcases List.mem_cons.mp hp with rfl|hp
  ·exact .inl ⟨rfl,hn2,fun v z=>by cases z⟩
  ·rcases List.mem_cons.mp hp with rfl|hp
   ·exact .inr ⟨.tail _ (.head _),SI.symm⟩
   ·exact .inr ⟨.tail _ (.tail _ hp),pS p hp⟩)
 refine wpAny_pure ⟨plainId_quiet PySem.F.plain_min_loop _,EU hr un hl hk oS LY SI lI pI pS (fun i c s' hc best I7=>⟨.ref c,H,I7,rfl,q i c hc best⟩) _ 1 0 cs[0] _ n2 JG rfl hne (Nat.lt_succ_self _) Ov I3 ⟨JG,(s1.2 _ SI.symm).trans IB,hoc,hod⟩ fun j hj=>?_⟩
 have e:j=0:=by lia
 rw[e];exact HT.fH _
end
end L2
namespace RM
def lx(a b:Int×Nat):Prop:=a.1<b.1\/(a.1=b.1/\a.2<=b.2)
def stp(L:Nat->Int)(d:Int×Nat)(k:Nat):Int×Nat:=(d.1+L k,d.2^^^2^k)
structure Fx(N:Net)(L:Nat->Int)(m u:Nat)(F:OW):Prop where
 st:F u false=some (0,0)
 cx:∀ x s d k y,F x s=some d->k<N.n->Jn N k x y->∃ d',F y (s^^m.testBit k)=some d'/\lx d' (stp L d k)
 org:∀ y t d,F y t=some d->(y=u/\t=false/\d=(0,0))\/∃ x s d0 k,F x s=some d0/\k<N.n/\Jn N k x y/\t=(s^^m.testBit k)/\d=stp L d0 k
 nn:∀ y t d,F y t=some d->0<=d.1
def Qs(N:Net)(L:Nat->Int)(m u:Nat)(F:OW)(y:Nat)(t:Bool)(d:Int×Nat):Prop:=(y=u/\t=false/\d=(0,0))\/∃ x s d0 k,F x s=some d0/\k<N.n/\Jn N k x y/\t=(s^^m.testBit k)/\d=stp L d0 k
structure Dx(N:Net)(L:Nat->Int)(m u:Nat)(F W:OW)(now:Option (Nat×Bool))(done:Nat->Nat->Prop):Prop where
 dj:Dj N L m u F W now done
 cx:∀ x s d k y,F x s=some d->k<N.n->Jn N k x y->(now=some (x,s)->done k y)->∃ d',(F y (s^^m.testBit k)=some d'\/W y (s^^m.testBit k)=some d')/\lx d' (stp L d k)
 fo:∀ y t d,F y t=some d->Qs N L m u F y t d
 wo:∀ y t d,W y t=some d->Qs N L m u F y t d
 s0:F u false=some (0,0)\/W u false=some (0,0)
section
variable {N:Net}{L:Nat->Int}{m u:Nat}{F W:OW}
theorem Qs.grow{y x:Nat}{t s:Bool}{d e:Int×Nat}(h:Qs N L m u F y t d)(hF:F x s=none):Qs N L m u (iQ F x s e) y t d:=by
 rcases h with h|⟨x',s',d0,k,h0,r⟩
 ·exact .inl h
 ·refine .inr ⟨x',s',d0,k,?_,r⟩;rw[bq (fun z=>by rw[z.1,z.2,hF]at h0;cases h0)]
  exact h0
theorem Dx.start:Dx N L m u (fun _ _=>none) (iQ (fun _ _=>none) u false (0,0)) none (fun _ _=>False):=by
 refine⟨.start,fun _ _ _ _ _ h=>(nomatch h),fun _ _ _ h=>(nomatch h),fun y t d h=>?_,.inr (bQ _ _ _ _)⟩
 by_cases e:y=u/\t=false
 ·obtain⟨rfl,rfl⟩:=e;rw[bQ]at h;exact .inl ⟨rfl,rfl,(Option.some.inj h).symm⟩
 ·rw[bq e]at h;cases h
theorem Dx.pop(h:Dx N L m u F W none (fun _ _=>False)){x:Nat}{s:Bool}{d:Int×Nat}(e:W x s=some d)(hmin:∀ y t d',W y t=some d'->d.1<=d'.1):Dx N L m u (iQ F x s d) (xW W x s) (some (x,s)) (fun _ _=>False):=by
 have hF:=h.dj.dj x s d e;have moved:∀ y t d',F y t=some d'\/W y t=some d'->iQ F x s d y t=some d'\/xW W x s y t=some d':=fun y t d' q=>by
  by_cases z:y=x/\t=s
  ·obtain⟨rfl,rfl⟩:=z;rcases q with q|q
   ·rw[hF]at q;cases q
   ·rw[e]at q;cases q;exact .inl (bQ _ _ _ _)
  ·rw[bq z,mF z];exact q
 refine⟨h.dj.pop e hmin,fun y t d' k y2 q hk hj hd=>?_,fun y t d' q=>?_,fun y t d' q=>?_,moved _ _ _ h.s0⟩
 ·by_cases z:y=x/\t=s
  ·obtain⟨rfl,rfl⟩:=z;exact(hd rfl).elim
  ·rw[bq z]at q;obtain⟨d2,q2,l2⟩:=h.cx y t d' k y2 q hk hj (fun z=>nomatch z)
   exact⟨d2,moved _ _ _ q2,l2⟩
 ·by_cases z:y=x/\t=s
  ·obtain⟨rfl,rfl⟩:=z;rw[bQ]at q;cases q;exact(h.wo _ _ _ e).grow hF
  ·rw[bq z]at q;exact(h.fo y t d' q).grow hF
 ·by_cases z:y=x/\t=s
  ·obtain⟨rfl,rfl⟩:=z;rw[se]at q;cases q
  ·rw[mF z]at q;exact(h.wo y t d' q).grow hF
theorem lx.trans{a b c:Int×Nat}(h1:lx a b)(h2:lx b c):lx a c:=by
 unfold lx at *
 lia
theorem Dx.put{done:Nat->Nat->Prop}{x:Nat}{s:Bool}(h:Dx N L m u F W (some (x,s)) done){d:Int×Nat}{k y:Nat}(e:F x s=some d)(h0:0<=d.1)(hk:k<N.n)(hL:0<L k)(hj:Jn N k x y)(hF:F y (s^^m.testBit k)=none)
 (hW:∀ d',W y (s^^m.testBit k)=some d'->lx (stp L d k) d'):Dx N L m u F (iQ W y (s^^m.testBit k) (stp L d k)) (some (x,s)) (fun k' y'=>done k' y'\/(k' = k/\y' = y)):=by
 have moved:∀ v t d',F v t=some d'\/W v t=some d'->∃ d2,(F v t=some d2\/iQ W y (s^^m.testBit k) (stp L d k) v t=some d2)/\lx d2 d':=fun v t d' q=>by
  rcases q with q|q
  ·exact⟨d',.inl q,.inr ⟨rfl,Nat.le_refl _⟩⟩
  ·by_cases z:v=y/\t=(s^^m.testBit k)
   ·obtain⟨rfl,rfl⟩:=z;exact⟨_,.inr (bQ _ _ _ _),hW d' q⟩
   ·exact⟨d',.inr (by rw[bq z];exact q),.inr ⟨rfl,Nat.le_refl _⟩⟩
 refine⟨h.dj.put e hk (Int.le_of_lt hL) hj hF fun d' q=>?_,fun v t d' k2 y2 q hk2 JF hd=>?_,h.fo,fun v t d' q=>?_,?_⟩
 ·have:=hW d' q;unfold lx stp at this;simp only at this
  lia
 ·by_cases hd2:some (x,s)=some (v,t)->done k2 y2
  ·obtain⟨d2,q2,l2⟩:=h.cx v t d' k2 y2 q hk2 JF hd2;obtain⟨d3,q3,l3⟩:=moved _ _ _ q2;exact⟨d3,q3,l3.trans l2⟩
  ·have hn:some (x,s)=some (v,t):=Classical.byContradiction fun z=>hd2 fun z2=>absurd z2 z
   rcases hd hn with z|⟨rfl,rfl⟩
   ·exact absurd (fun _=>z) hd2
   ·cases hn;rw[e]at q;cases q;exact⟨_,.inr (bQ _ _ _ _),.inr ⟨rfl,Nat.le_refl _⟩⟩
 ·by_cases z:v=y/\t=(s^^m.testBit k)
  ·obtain⟨rfl,rfl⟩:=z;rw[bQ]at q;cases q;exact .inr ⟨x,s,d,k,e,hk,hj,rfl,rfl⟩
  ·rw[bq z]at q;exact h.wo v t d' q
 ·rcases h.s0 with q|q
  ·exact .inl q
  ·right
   rw[bq (fun z=>?_)]
   ·exact q
   ·obtain⟨z1,z2⟩:=z;have q':=q;rw[z1,z2]at q';have:=hW _ q';unfold lx stp at this;simp only at this
    lia
theorem Dx.skip{done:Nat->Nat->Prop}{x:Nat}{s:Bool}(h:Dx N L m u F W (some (x,s)) done){d d2:Int×Nat}{k y:Nat}(e:F x s=some d)(hL:0<L k)(q2:F y (s^^m.testBit k)=some d2\/(W y (s^^m.testBit k)=some d2/\lx d2 (stp L d k))):
 Dx N L m u F W (some (x,s)) (fun k' y'=>done k' y'\/(k' = k/\y' = y)):=by
 have q3:F y (s^^m.testBit k)=some d2\/(W y (s^^m.testBit k)=some d2/\d2.1<=d.1+L k):=by
  rcases q2 with q2|⟨q2,l2⟩
  ·exact .inl q2
  ·refine .inr ⟨q2,?_⟩;unfold lx stp at l2;simp only at l2
   lia
 refine⟨h.dj.skip e (Int.le_of_lt hL) q3,fun v t d' k2 y2 q hk2 JF hd=>?_,h.fo,h.wo,h.s0⟩
 by_cases hd2:some (x,s)=some (v,t)->done k2 y2
 ·exact h.cx v t d' k2 y2 q hk2 JF hd2
 ·have hn:some (x,s)=some (v,t):=Classical.byContradiction fun z=>hd2 fun z2=>absurd z2 z
  rcases hd hn with z|⟨rfl,rfl⟩
  ·exact absurd (fun _=>z) hd2
  ·cases hn;rw[e]at q;cases q;rcases q2 with q2|⟨q2,l2⟩
   ·have:=h.dj.mx x s d _ _ d2 rfl e q2;refine⟨d2,.inl q2,.inl ?_⟩;show d2.1<d.1+L k2
    lia
   ·exact⟨d2,.inr q2,l2⟩
theorem Dx.all{done:Nat->Nat->Prop}{x:Nat}{s:Bool}(h:Dx N L m u F W (some (x,s)) done)(ha:∀ k y,k<N.n->Jn N k x y->done k y):Dx N L m u F W none (fun _ _=>False) :=
 ⟨h.dj.all ha,fun v t d k y q hk hj _=>h.cx v t d k y q hk hj fun z=>by cases z;exact ha k y hk hj,h.fo,h.wo,h.s0⟩
theorem Dj.less{now:Option (Nat×Bool)}{done done' : Nat->Nat->Prop}(h:Dj N L m u F W now done)(hd:∀ k y,done' k y->done k y):Dj N L m u F W now done' :=
 ⟨h.fw,h.ww,h.dj,h.le,h.mx,fun v t d k y q hk hj z=>h.cl v t d k y q hk hj fun z2=>hd _ _ (z z2),h.st⟩
theorem Dx.less{now:Option (Nat×Bool)}{done done' : Nat->Nat->Prop}(h:Dx N L m u F W now done)(hd:∀ k y,done' k y->done k y):Dx N L m u F W now done' :=
 ⟨h.dj.less hd,fun v t d k y q hk hj z=>h.cx v t d k y q hk hj fun z2=>hd _ _ (z z2),h.fo,h.wo,h.s0⟩
theorem Dx.fin(hL:∀ k,k<N.n->0<L k)(hu:u<N.p)(h:Dx N L m u F W none (fun _ _=>False))(hW:∀ x s,W x s=none):Fx N L m u F:=by
 refine⟨?_,fun x s d k y e hk hj=>?_,h.fo,fun y t d e=>?_⟩
 ·rcases h.s0 with q|q
  ·exact q
  ·rw[hW]at q;cases q
 ·obtain⟨d',q,l⟩:=h.cx x s d k y e hk hj (fun z=>nomatch z)
  rcases q with q|q
  ·exact⟨d',q,l⟩
  ·rw[hW]at q;cases q
 ·obtain⟨pre,w⟩:=h.dj.fw y t d e;exact(oF (fun k hk=>Int.le_of_lt (hL k hk)) hu w).2.2.2.2.2
end
section
variable {N:Net}{L:Nat->Int}{m:Nat}
def Lo(N:Net)(L:Nat->Int)(m:Nat)(z:Int)(e:Nat):Prop:=∃ Fs:Nat->OW,(∀ i,i<N.p->Fx N L m i (Fs i))/\(∃ i,i<N.p/\Fs i i true=some (z,e))/\∀ j d,j<N.p->Fs j j true=some d->lx (z,e) d
structure ud(N:Net)(L:Nat->Int)(m:Nat)(z:Int)(e:Nat):Prop where
 ring:N.Ring e
 lt:e<2^N.n
 par:N.par e m=true
 len:lsum L (fun k=>e.testBit k) N.n=z
 way:∃ x,x<N.p/\Wy N L m x x true z
 min:∀ x z',x<N.p->Wy N L m x x true z'->z<=z'
theorem ud.least(hL:∀ k,k<N.n->0<=L k){z:Int}{e r:Nat}(h:ud N L m z e)(hr:N.Ring r)(lr:r<2^N.n)(pr:N.par r m=true):z<=lsum L (fun k=>r.testBit k) N.n:=by
 obtain⟨x,hx,hw⟩:=oG hL m hr lr;rw[pr]at hw;exact h.min x _ hx hw
end
end RM
namespace Ring
open PySem L2
end Ring
namespace L2
open PySem PySem.Spec PyProof.Rows PySem.W
def SRun(r:Nat->Int){α:Type}:KasT α->α
 | .ret a=>a
 | .ask i j k=>SRun r (k (decide (r i<r j)))
section
variable {r:Nat->Int}
theorem iy{α β:Type}{f:α->KasT β}:∀(t:KasT α),SRun r (t.bind f)=SRun r (f (SRun r t))
 | .ret a=>by rw[KasT.bind.eq_1];rfl
 | .ask i j k=>by
   rw[KasT.bind.eq_2];exact iy (k _)
theorem xY{n:Nat}{α:Type}{R:α->Prop}{cmp:Nat->Nat->(Bool->Shared->Prop)->Shared->Prop}{Q:α->Shared->Prop}{s:Shared}(hc:∀ i j C,i<n->j<n->C (decide (r i<r j)) s->cmp i j C s):∀{t:KasT α},uY n R t->(R (SRun r t)->Q (SRun r t) s)->KasT.kasWp cmp t Q s
 | .ret a,h,q=>q h
 | .ask i j k,h,q=>hc i j _ h.1 h.2.1 (xY hc (h.2.2 _) q)
def Kr(r:Nat->Int)(p:Array Nat)(i:Nat):Int:=r (p.getD i 0)
theorem ue(p:Array Nat)(i:Nat):Kr r p i=r ((p[i]?).getD 0):=by
 unfold Kr;rw[Array.getD_eq_getD_getElem?]
theorem xZ{p:Array Nat}{i j:Nat}(hj:j<=p.size)(k:Nat):Kr r (kas_rev p i j) k=if i<=k/\k<j then Kr r p (i+j-1-k) else Kr r p k:=by
 have e:=getElem?_mirror_all (i:=i) hj k;unfold kas_rev;rw[ue,e]
 split
 ·rw[ue]
 ·rw[ue]
theorem IC{p:Array Nat}{src d:Nat}(hs:src<p.size)(hd:d<=src)(k:Nat):Kr r (bubble p src d) k=if k=src-d then Kr r p src else if src-d<k/\k<=src then Kr r p (k-1) else Kr r p k:=by
 have e:=getElem?_bubble hs d hd k;rw[ue,e]
 split
 ·rw[ue]
 ·split
  ·rw[ue]
  ·rw[ue]
theorem lF(p:Array Nat)(i j:Nat):(kas_rev p i j).size=p.size:=mirror_size _ _ _ _
def Up(r:Nat->Int)(p:Array Nat)(n:Nat):Prop:=∀ i,1<=i->i<n->Kr r p (i-1)<=Kr r p i
theorem Up.le{p:Array Nat}{n:Nat}(h:Up r p n):∀{i j:Nat},i<=j->j<n->Kr r p i<=Kr r p j:=by
 intro i j hij;obtain⟨d,rfl⟩:=Nat.exists_eq_add_of_le hij;clear hij
 induction d with
 | zero=>intro _;exact Int.le_refl _
 | succ d ih =>
   intro hj;have h1:=ih (by lia)
   have h2:=h (i+(d+1)) (by lia) hj
   rw[show i+(d+1)-1=i+d by lia]at h2
   lia
theorem B4{p:Array Nat}:∀(f n:Nat),1<=n->Up r p n->n<=SRun r (kas_asc p f n)/\SRun r (kas_asc p f n)<=n+f/\Up r p (SRun r (kas_asc p f n))/\(SRun r (kas_asc p f n)<n+f->Kr r p (SRun r (kas_asc p f n))<Kr r p (SRun r (kas_asc p f n)-1))
 | 0,n,_,h=>by
   rw[kas_asc.eq_1];exact⟨Nat.le_refl n,Nat.le_refl n,h,fun z=>absurd z (Nat.lt_irrefl n)⟩
 | f+1,n,h1,h=>by
   rw[kas_asc.eq_2];show n<=SRun r (if decide (Kr r p n<Kr r p (n-1))=true then _ else _)/\SRun r (if decide (Kr r p n<Kr r p (n-1))=true then _ else _)<=_/\Up r p (SRun r (if decide (Kr r p n<Kr r p (n-1))=true then _ else _))/\_
   by_cases c:Kr r p n<Kr r p (n-1)
   ·show n<=SRun r (if decide (Kr r p n<Kr r p (n-1))=true then _ else _)/\SRun r (if decide (Kr r p n<Kr r p (n-1))=true then _ else _)<=_/\Up r p (SRun r (if decide (Kr r p n<Kr r p (n-1))=true then _ else _))/\(SRun r (if decide (Kr r p n<Kr r p (n-1))=true then _ else _)<_->Kr r p (SRun r (if decide (Kr r p n<Kr r p (n-1))=true then _ else _))<Kr r p (SRun r (if decide (Kr r p n<Kr r p (n-1))=true then _ else _)-1))
    rw[if_pos (decide_eq_true c)];exact⟨Nat.le_refl n,Nat.le_add_right _ _,h,fun _=>c⟩
   ·show n<=SRun r (if decide (Kr r p n<Kr r p (n-1))=true then _ else _)/\SRun r (if decide (Kr r p n<Kr r p (n-1))=true then _ else _)<=_/\Up r p (SRun r (if decide (Kr r p n<Kr r p (n-1))=true then _ else _))/\(SRun r (if decide (Kr r p n<Kr r p (n-1))=true then _ else _)<_->Kr r p (SRun r (if decide (Kr r p n<Kr r p (n-1))=true then _ else _))<Kr r p (SRun r (if decide (Kr r p n<Kr r p (n-1))=true then _ else _)-1))
    rw[if_neg (by simpa using c)]
    have ih:=B4 (p:=p) f (n+1) (by lia) (fun i hi hn=>by
     by_cases e:i=n
     ·rw[e];lia
     ·exact h i hi (by lia))
    refine⟨by lia,by lia,ih.2.2.1,fun z=>ih.2.2.2 (by lia)⟩
def Down(r:Nat->Int)(p:Array Nat)(n q:Nat):Prop:=(∀ i,1<=i->i<n->Kr r p i<=Kr r p (i-1))/\q+1<=n/\∀ i,n-(q+1)<=i->i<n->Kr r p i=Kr r p (n-1)
theorem Down.rev{p:Array Nat}{n q:Nat}(h:Down r p n q)(hn:n<=p.size)(k:Nat):Kr r (kas_rev p (n-(q+1)) n) k=Kr r p k:=by
 rw[xZ hn]
 split
 ·rename_i hk
  rw[h.2.2 _ (by lia) (by have:=h.2.1;lia),h.2.2 k hk.1 hk.2]
 ·rfl
theorem mG:∀(f:Nat) {p:Array Nat} {n q:Nat},n+f<=p.size->Down r p n q->
 (SRun r (kas_desc f p n q)).1.size=p.size/\n<=(SRun r (kas_desc f p n q)).2.1/\(SRun r (kas_desc f p n q)).2.1<=n+f/\Down r (SRun r (kas_desc f p n q)).1 (SRun r (kas_desc f p n q)).2.1 (SRun r (kas_desc f p n q)).2.2
 | 0,p,n,q,_,h=>by
   rw[kas_desc.eq_1];exact⟨rfl,Nat.le_refl n,Nat.le_refl n,h⟩
 | f+1,p,n,q,hs,h=>by
   rw[kas_desc.eq_2];obtain⟨h1,h2,h3⟩:=id h
   by_cases c:Kr r p n<Kr r p (n-1)
   ·have dn:∀ p' : Array Nat,(∀ k,Kr r p' k=Kr r p k)->Down r p' (n+1) 0:=fun p' e=>by
     refine⟨fun i hi hn=>?_,by lia,fun i hi hn=>by rw[show i=n+1-1 by lia]⟩
     rw[e,e]
     by_cases z:i=n
     ·rw[z];lia
     ·exact h1 i hi (by lia)
    have e0:∀(T1 T2:KasT (Array Nat×Nat×Nat)),SRun r (KasT.ask (p.getD n 0) (p.getD (n-1) 0) fun c=>if c=true then T1 else T2)=SRun r T1:=fun T1 T2=>by
     show SRun r (if decide (Kr r p n<Kr r p (n-1))=true then T1 else T2)=_
     rw[if_pos (decide_eq_true c)]
    rw[e0]
    by_cases hq:q > 0
    ·rw[if_pos hq];have ih:=mG f (p:=kas_rev p (n-(q+1)) n) (n:=n+1) (q:=0) (by rw[lF];lia) (dn _ (h.rev (by lia)))
     rw[lF]at ih;exact⟨ih.1,by lia,by lia,ih.2.2.2⟩
    ·rw[if_neg hq];have ih:=mG f (p:=p) (n:=n+1) (q:=0) (by lia) (dn _ fun _=>rfl)
     exact⟨ih.1,by lia,by lia,ih.2.2.2⟩
   ·have e0:∀(T1 T2:KasT (Array Nat×Nat×Nat)),SRun r (KasT.ask (p.getD n 0) (p.getD (n-1) 0) fun c=>if c=true then T1 else T2)=SRun r T2:=fun T1 T2=>by
     show SRun r (if decide (Kr r p n<Kr r p (n-1))=true then T1 else T2)=_
     rw[if_neg (by simpa using c)]
    rw[e0]
    by_cases d:Kr r p (n-1)<Kr r p n
    ·have e1:∀(T1 T2:KasT (Array Nat×Nat×Nat)),SRun r (KasT.ask (p.getD (n-1) 0) (p.getD n 0) fun c=>if c=true then T1 else T2)=SRun r T1:=fun T1 T2=>by
      show SRun r (if decide (Kr r p (n-1)<Kr r p n)=true then T1 else T2)=_
      rw[if_pos (decide_eq_true d)]
     rw[e1];exact⟨rfl,Nat.le_refl n,Nat.le_add_right _ _,h⟩
    ·have e1:∀(T1 T2:KasT (Array Nat×Nat×Nat)),SRun r (KasT.ask (p.getD (n-1) 0) (p.getD n 0) fun c=>if c=true then T1 else T2)=SRun r T2:=fun T1 T2=>by
      show SRun r (if decide (Kr r p (n-1)<Kr r p n)=true then T1 else T2)=_
      rw[if_neg (by simpa using d)]
     rw[e1];have ih:=mG f (p:=p) (n:=n+1) (q:=q+1) (by lia) ⟨fun i hi hn=>by
      by_cases z:i=n
      ·rw[z];lia
      ·exact h1 i hi (by lia),by lia,fun i hi hn=>by
      rw[show n+1-1=n by lia]
      by_cases z:i=n
      ·rw[z]
      ·have:=h3 i (by lia) (by lia)
       lia⟩
     exact⟨ih.1,by lia,by lia,ih.2.2.2⟩
def Ab(r:Nat->Int)(n:Nat)(x:Nat×Array Nat):Prop:=x.2.size=n/\1<=x.1/\x.1<=n/\Up r x.2 x.1
theorem Ac{n nrem:Nat}{p:Array Nat}{q:Nat}(h:Down r p n q)(hn:1<=n)(hle:n<=nrem)(hs:p.size=nrem):Ab r nrem (SRun r (kas_tail3 n nrem p)):=by
 have up:Up r (kas_rev p 0 n) n:=fun i hi hi2=>by
  rw[xZ (by lia),xZ (by lia),if_pos (by lia),if_pos (by lia)]
  have:=h.1 (0+n-1-(i-1)) (by lia) (by lia)
  rw[show 0+n-1-(i-1)-1=0+n-1-i by lia]at this
  exact this
 have a:=B4 (nrem-n) n hn up;unfold kas_tail3;rw[iy];exact⟨by show(kas_rev p 0 n).size=nrem;rw[lF,hs],by show 1<=SRun r _;lia,by show SRun r _<=nrem;lia,a.2.2.1⟩
theorem Down.congr{p p' : Array Nat}{n q:Nat}(h:Down r p n q)(e:∀ k,Kr r p' k=Kr r p k):Down r p' n q:=⟨fun i h1 h2=>by rw[e,e];exact h.1 i h1 h2,h.2.1,fun i h1 h2=>by rw[e,e];exact h.2.2 i h1 h2⟩
theorem Ad{n nrem:Nat}{p:Array Nat}(hn:1<=n)(hle:n+1<=nrem)(hs:p.size=nrem)(heq:∀ i,i<n->Kr r p i=Kr r p (n-1))(hlt:Kr r p n<Kr r p (n-1)):Ab r nrem (SRun r (kas_descPart n nrem p)):=by
 have d0:Down r p (n+1) 0:=⟨fun i h1 h2=>by
  by_cases z:i=n
  ·rw[z];lia
  ·rw[heq i (by lia),heq (i-1) (by lia)]
   exact Int.le_refl _,by lia,fun i h1 h2=>by rw[show i=n+1-1 by lia]⟩
 have d:=mG (nrem-(n+1)) (p:=p) (n:=n+1) (q:=0) (by lia) d0
 unfold kas_descPart;rw[iy];generalize SRun r (kas_desc (nrem-(n+1)) p (n+1) 0)=x at d;obtain⟨d1,d2,d3,d4⟩:=d
 by_cases hq:x.2.2 > 0
 ·rw[if_pos hq];exact Ac (d4.congr (d4.rev (by lia))) (by lia) (by lia) (by rw[lF,d1,hs])
 ·rw[if_neg hq];exact Ac d4 (by lia) (by lia) (by rw[d1,hs])
theorem EV{nrem:Nat}{p:Array Nat}(h1:1<=nrem)(hs:p.size=nrem):Ab r nrem (SRun r (kas_count nrem p)):=by
 have a:=B4 (r:=r) (p:=p) (nrem-1) 1 (Nat.le_refl 1) (fun i hi hn=>by lia)
 unfold kas_count;rw[iy];generalize SRun r (kas_asc p (nrem-1) 1)=n at a;obtain⟨a1,a2,a3,a4⟩:=a
 by_cases e:(n==nrem)=true
 ·rw[if_pos e];exact⟨hs,a1,by show n<=nrem;lia,a3⟩
 ·rw[if_neg e];have e:n≠nrem:=by simpa using e
  have hlt:=a4 (by lia)
  by_cases h2:n > 1
  ·rw[if_pos h2]
   by_cases c:Kr r p 0<Kr r p (n-1)
   ·show Ab r nrem (SRun r (if decide (Kr r p 0<Kr r p (n-1))=true then _ else _))
    rw[if_pos (decide_eq_true c)];exact⟨hs,a1,by show n<=nrem;lia,a3⟩
   ·show Ab r nrem (SRun r (if decide (Kr r p 0<Kr r p (n-1))=true then _ else _))
    rw[if_neg (by simpa using c)]
    have all:∀ i,i<n->Kr r p i=Kr r p (n-1):=fun i hi=>by
     have l1:=a3.le (show 0<=i by lia) hi
     have l2:=a3.le (show i<=n-1 by lia) (by lia)
     lia
    have er:∀ k,Kr r (kas_rev p 0 n) k=Kr r p k:=fun k=>by
     rw[xZ (by lia)]
     split
     ·rw[all _ (by lia),all k (by lia)]
     ·rfl
    exact Ad a1 (by lia) (by rw[lF,hs]) (fun i hi=>by rw[er,er];exact all i hi) (by rw[er,er];exact hlt)
  ·rw[if_neg h2];have e1:n=1:=by lia
   subst e1;exact Ad a1 (by lia) hs (fun i hi=>by rw[show i=1-1 by lia]) hlt
theorem uf{p:Array Nat}{k:Nat}(up:Up r p k):∀(f l u:Nat),u-l<=f->l<=u->u<=k->(∀ i,i<l->Kr r p i<=Kr r p k)->(∀ i,u<=i->i<k->Kr r p k<Kr r p i)->
 SRun r (kas_place p k f l u)<=k/\(∀ i,i<SRun r (kas_place p k f l u)->Kr r p i<=Kr r p k)/\∀ i,SRun r (kas_place p k f l u)<=i->i<k->Kr r p k<Kr r p i
 | 0,l,u,hf,hlu,huk,h1,h2=>by
   rw[kas_place.eq_1];have e:l=u:=by lia
   subst e;exact⟨huk,h1,h2⟩
 | f+1,l,u,hf,hlu,huk,h1,h2=>by
   rw[kas_place.eq_2]
   by_cases hx:l ≥ u
   ·rw[if_pos hx];have e:l=u:=by lia
    subst e;exact⟨huk,h1,h2⟩
   ·rw[if_neg hx]
    by_cases c:Kr r p k<Kr r p ((l+u)/2)
    ·have e0:∀(T1 T2:KasT Nat),SRun r (KasT.ask (p.getD k 0) (p.getD ((l+u)/2) 0) fun c=>if c=true then T1 else T2)=SRun r T1:=fun T1 T2=>by
      show SRun r (if decide (Kr r p k<Kr r p ((l+u)/2))=true then T1 else T2)=_
      rw[if_pos (decide_eq_true c)]
     rw[e0];exact uf up f l ((l+u)/2) (by lia) (by lia) (by lia) h1 fun i hi hk=>by
      have:=up.le hi hk
      lia
    ·have e0:∀(T1 T2:KasT Nat),SRun r (KasT.ask (p.getD k 0) (p.getD ((l+u)/2) 0) fun c=>if c=true then T1 else T2)=SRun r T2:=fun T1 T2=>by
      show SRun r (if decide (Kr r p k<Kr r p ((l+u)/2))=true then T1 else T2)=_
      rw[if_neg (by simpa using c)]
     rw[e0];exact uf up f ((l+u)/2+1) u (by lia) (by lia) huk (fun i hi=>by
      have:=up.le (show i<=(l+u)/2 by lia) (by lia)
      lia) h2
theorem ID:∀(f:Nat) {p:Array Nat} {k:Nat},k+f<=p.size->Up r p k->Up r (SRun r (kas_bin f p k)) (k+f)
 | 0,p,k,_,h=>by
   rw[kas_bin.eq_1];exact h
 | f+1,p,k,hs,h=>by
   rw[kas_bin.eq_2,iy];have pl:=uf h k 0 k (by lia) (by lia) (Nat.le_refl k) (fun i hi=>by lia) (fun i h1 h2=>by lia)
   generalize SRun r (kas_place p k k 0 k)=l at pl;obtain⟨p1,p2,p3⟩:=pl;have up:Up r (bubble p k (k-l)) (k+1):=fun i hi hk=>by
    rw[IC (by lia) (by lia),IC (by lia) (by lia),show k-(k-l)=l by lia]
    by_cases c1:i=l
    ·rw[if_neg (by lia),if_neg (by lia),if_pos c1]
     exact p2 (i-1) (by lia)
    ·rw[if_neg c1]
     by_cases c2:l<i/\i<=k
     ·rw[if_pos c2]
      by_cases c3:i-1=l
      ·rw[if_pos c3];exact Int.le_of_lt (p3 (i-1) (by lia) (by lia))
      ·rw[if_neg c3,if_pos (by lia)]
       exact h (i-1) (by lia) (by lia)
     ·rw[if_neg c2,if_neg (by lia),if_neg (by lia)]
      exact h i hi (by lia)
   have:=ID f (p:=bubble p k (k-l)) (k:=k+1) (by rw[bubble_size];lia) up
   rw[show k+(f+1)=k+1+f by lia]
   exact this
theorem DL{n:Nat}(hn:1<=n):Up r (SRun r (kas_sort n)) n:=by
 unfold kas_sort;rw[iy];have c:=EV (r:=r) (p:=List.toArray (List.range n)) hn (by simp)
 generalize SRun r (kas_count n (List.toArray (List.range n)))=x at c;obtain⟨c1,c2,c3,c4⟩:=c
 by_cases hx:x.1<n
 ·rw[if_pos hx];have:=ID (n-max x.1 1) (p:=x.2) (k:=max x.1 1) (by lia) (by rw[show max x.1 1=x.1 by lia];exact c4)
  rw[show max x.1 1+(n-max x.1 1)=n by lia]at this
  exact this
 ·rw[if_neg hx];have e:x.1=n:=by lia
  rw[e]at c4;exact c4
end
theorem x6:bootBuiltins "sorted"=some (.builtin "sorted"):=by kernel_rfl
def kx(z:Int×Int):Int:=z.1*1073741824+z.2
def La(z:Int×Int):Prop:=0<=z.2/\z.2<1073741824
section
variable {X:Cx}{pins:aQ}{σ:St}{H H2:Hp}{s:Shared}
theorem Inv.Lb{a:Addr}{xs:List V}{ob:Obj}(I:Inv X pins σ H s)(e:H a=some (.lst xs))(ho:s.heap.get? a=some ob):Inv X pins σ (upd H a (.jR ob (.lst xs))) s:=by
 have ne:∀ b,H b=none->b≠a:=fun b h z=>by rw[z,e]at h;cases h
 refine⟨I.ok,I.os,I.bare,⟨I.base.keep,I.base.slot,fun b o q n hx=>?_,I.base.there,fun b xs q=>?_,fun b o u q=>?_,fun b ps q=>?_⟩,I.loc,I.cell,?_,fun x c q=>?_,fun p hp=>?_,fun b u q=>?_,I.len⟩
 ·have z:=I.base.free b o q n hx;rw[aj (ne b z)];exact z
 ·have z:=I.base.tups b xs q;rw[aj (aS z e (by intro z;cases z))]
  exact z
 ·have z:=I.base.jS b o u q;rw[aj (aS z e (by intro z;cases z))]
  exact z
 ·obtain⟨more,z⟩:=I.base.kX b ps q;exact⟨more,by rw[aj (aS z e (by intro z;cases z))];exact z⟩
 ·rw[aj (ne _ I.free)];exact I.free
 ·rw[aj (ne _ (I.eR x c q))];exact I.eR x c q
 ·obtain⟨a1,a2,a3⟩:=I.pin p hp;exact⟨a1,by rw[aj (ne _ a2)];exact a2,a3⟩
 ·by_cases hb:b=a
  ·subst hb;rw[ae]at q;cases q;exact⟨ho,(I.hok b _ e).stay (fun _ _ _ q=>q) (fun c q=>by rw[aj (aS q e (by intro z;cases z))];exact q) fun c xs q=>by rw[aj (aS q e (by intro z;cases z))];exact q⟩
  ·rw[aj hb]at q;exact(I.hok b u q).stay (fun _ _ _ q=>q) (fun c q=>by rw[aj (aS q e (by intro z;cases z))];exact q) fun c xs q=>by rw[aj (aS q e (by intro z;cases z))];exact q
theorem Inv.Qt{tW:aQ}{σ0:St}{s0:Shared}{a:Addr}{xs:List V}{ob:Obj}(I0:Inv X tW σ0 H s0)(e0:H a=some (.lst xs))(I:Inv X pins σ H2 s)(e:H2 a=some (.jR ob (.lst xs))):
 Inv X pins σ (upd H2 a (.lst xs)) s:=by
 have ne:∀ b,H2 b=none->b≠a:=fun b h z=>by rw[z,e]at h;cases h
 obtain⟨ho,hd⟩:=(show bf X.prog X.w H2 s.heap a (.jR ob (.lst xs)) from I.hok a _ e)
 refine⟨I.ok,I.os,I.bare,⟨I.base.keep,I.base.slot,fun b o q n hx=>?_,I.base.there,fun b xs q=>?_,fun b o u q=>?_,fun b ps q=>?_⟩,I.loc,I.cell,?_,fun x c q=>?_,fun p hp=>?_,fun b u q=>?_,I.len⟩
 ·have z:=I.base.free b o q n hx;rw[aj (ne b z)];exact z
 ·have z:=I.base.tups b xs q;rw[aj (aS z e (by intro z;cases z))]
  exact z
 ·have z:=I.base.jS b o u q;rw[aj (fun y=>by
   have z0:=I0.base.jS b o u q;rw[y,e0]at z0;cases z0)]
  exact z
 ·obtain⟨more,z⟩:=I.base.kX b ps q;exact⟨more,by rw[aj (aS z e (by intro z;cases z))];exact z⟩
 ·rw[aj (ne _ I.free)];exact I.free
 ·rw[aj (ne _ (I.eR x c q))];exact I.eR x c q
 ·obtain⟨a1,a2,a3⟩:=I.pin p hp;exact⟨a1,by rw[aj (ne _ a2)];exact a2,a3⟩
 ·by_cases hb:b=a
  ·subst hb;rw[ae]at q;cases q;exact hd.stay (fun _ _ _ q=>q) (fun c q=>by rw[aj (aS q e (by intro z;cases z))];exact q) fun c xs q=>by rw[aj (aS q e (by intro z;cases z))];exact q
  ·rw[aj hb]at q;exact(I.hok b u q).stay (fun _ _ _ q=>q) (fun c q=>by rw[aj (aS q e (by intro z;cases z))];exact q) fun c xs q=>by rw[aj (aS q e (by intro z;cases z))];exact q
end
def wN(h:Heap)(v:Value)(z:Int×Int):Prop:=∃(a:Addr) (o:Obj) (t u:Tok) (k:Nat),v = .ref a/\h.get? a=some o/\o.cls = .type "tuple"/\o.data = .seq #[.int z.1 t,.int z.2 u] k
theorem wN.pair{h:Heap}{v:Value}{z:Int×Int}(q:wN h v z):LV h v:=let⟨a,o,t,u,k,q⟩:=q;⟨a,o,z.1,z.2,t,u,k,q⟩
theorem wO{prog:Program}{w:World}{A:Around}{s:Shared}{vs:List Value}{n:Nat}{zs:Nat->Int×Int}(hz:∀ i,i<n->La (zs i))(hv:∀ i,i<n->wN s.heap (vs.getD i Value.none) (zs i)):
 ∀ i j C,i<n->j<n->C (decide (kx (zs i)<kx (zs j))) s->kas_ask prog w A (tuples' true) vs i j C s:=by
 intro i j C hi hj hC;unfold kas_ask;obtain⟨a,o,t,u,k,e,ho,_,hd⟩:=hv i hi;obtain⟨a',o',t',u',k',e',ho',_,hd'⟩:=hv j hj;have oi:=hz i hi;have oj:=hz j hj;generalize zs i=z at hd hC oi;generalize zs j=z' at hd' hC oj;obtain⟨x,y⟩:=z;obtain⟨x',y'⟩:=z';unfold kx at hC;unfold La at oi oj;dsimp only at hd hd' hC oi oj;rw[e,e'];refine kat_lt ho hd ho' hd' ?_;show KatLex prog w A true _ C [(.int x t,.int x' t'),(.int y u,.int y' u')] 0 s;rw[KatLex.eq_2];refine wpAny_eqBool_int ?_
 by_cases ex:x=x'
 ·rw[show(x==x')=true by simpa using ex]
  rw[if_pos rfl,KatLex.eq_2];refine wpAny_eqBool_int ?_
  by_cases ey:y=y'
  ·rw[show(y==y')=true by simpa using ey]
   rw[if_pos rfl,KatLex.eq_1];rw[decide_eq_false (by lia)]at hC
   exact hC
  ·rw[show(y==y')=false by simpa using ey]
   rw[if_neg Bool.false_ne_true];refine kat_one _ _ (lt_int ?_);have e2:decide (y<y')=decide (x*1073741824+y<x'*1073741824+y'):=decide_eq_decide.mpr (by lia)
   rw[<-e2]at hC;exact hC
 ·rw[show(x==x')=false by simpa using ex]
  rw[if_neg Bool.false_ne_true];refine oneLt_int ?_;have e2:decide (x<x')=decide (x*1073741824+y<x'*1073741824+y'):=decide_eq_decide.mpr (by lia)
  rw[<-e2]at hC;exact hC
def NG(P:Addr)(q:Str)(lp:Pos)(ta:TA)(te:TE)(js:List Nat):TE:=fun σ H Q=>ta σ H fun vs H1=>∃(a:Addr) (ns:List Int) (kf:Int->Int×Int),vs=[.ref a]/\H1 a=some (.lst (ns.map V.int))/\ns.length<64/\(∀ n∈ns,La (kf n))/\H1 P=some (.iY (dY q lp))/\
 (∀ H3,(∀ b u,H1 b=some u->(∀ y,u≠.own y)->(∀ qs,u≠.iY qs)->H3 b=some u)->∀ n∈ns,te (some (.int n)::eN σ js) H3 fun v H4=>aq H3 H4/\∃ d,v = .ref d/\H4 d=some (.tup [.int (kf n).1,.int (kf n).2]))/\
 ∀(l:Addr) (ns' : List Int) H4,H1 l=none->aq H1 H4->H4 l=some (.lst (ns'.map V.int))->ns'.Perm ns->ns'.Pairwise (fun x y=>kx (kf x)<=kx (kf y))->Q (.ref l) H4
section
variable {X:Cx}{pins:aQ}{σ:St}{H2:Hp}
theorem EW{A:Around}{E:dh}{P:PySem.Fin->Shared->Prop}{s:Shared}{H3:Hp}{D kS:Addr}{e e1:Nat}{its:List Value}{ns:List Int}{ds:List Addr}{kf:Int->Int×Int}
 (I:Inv X ((kS,seqObj "list" (ds.map Value.ref).toArray e)::pins) σ H3 s) (oK:BW X kS) (pK:∀ p∈pins,p.1≠kS) (hD:H3 D=some (.jR (seqObj "list" #[] e1) (.lst []))) (rv:Vals (ns.map V.int) its) (hn:ns.length<64) (hdl:ds.length=ns.length)
 (hk:∀(j:Nat) d n,ds[j]?=some d->ns[j]?=some n->H3 d=some (.tup [.int (kf n).1,.int (kf n).2])) (hok:∀ n∈ns,La (kf n))
 {tW:aQ} {σ0:St} {s0:Shared} {H0:Hp} (I0:Inv X tW σ0 H0 s0) (e0:H0 D=some (.lst []))
 (fin:∀(s' : Shared) (ns' : List Int),ns'.Perm ns->ns'.Pairwise (fun x y=>kx (kf x)<=kx (kf y))->Inv X pins σ (upd (upd H3 D (.lst [])) D (.lst (ns'.map V.int))) s'->P (.done (.ret .none)) s') :
 wpAny (model X.prog X.w) A (ksk_end D false its.toArray e1 (.ref kS) ((ds.map Value.ref).toArray)) P E s:=by
 have hl:its.length=ns.length:=by have:=rv.length;rw[List.length_map]at this;lia
 obtain⟨Yb,_⟩:=(show bf X.prog X.w H3 s.heap D (.jR (seqObj "list" #[] e1) (.lst [])) from I.hok D _ hD)
 have B5:=I.pin (kS,seqObj "list" (ds.map Value.ref).toArray e) (List.mem_append_right _ (.head _));have RV:D≠kS:=fun z=>by
  have:=B5.2.1;rw[<-z,hD]at this;cases this
 have tail:∀(st:SortSt) (ns' : List Int) (out:List Value),(arrOf st).map (·.2)=out.toArray->out.length<64->failedOf st=none->ns'.Perm ns->ns'.Pairwise (fun x y=>kx (kf x)<=kx (kf y))->Vals (ns'.map V.int) out->wpAny (model X.prog X.w) A (ksk_tail D false e1 (.ref kS) st) P E s:=by
  intro st ns' out hout hz hf hp hs hv;have s1:=Heap.SameBut.update s.heap kS (Obj.mapSeq fun _=>(#[]:Array Value))
  have rG:(s.heap.update kS (Obj.mapSeq fun _=>(#[]:Array Value))).get? D=some (seqObj "list" #[] e1):=(s1.2 D RV).trans Yb
  have s2:=Heap.SameBut.update (s.heap.update kS (Obj.mapSeq fun _=>(#[]:Array Value))) D (Obj.mapSeq fun _=>out.toArray)
  obtain⟨c2,hc2⟩:∃ c2,((s.heap.update kS (Obj.mapSeq fun _=>(#[]:Array Value))).update D (Obj.mapSeq fun _=>out.toArray)).get? D=some (seqObj "list" out.toArray c2):=⟨_,get?_update_seq rG fun _=>out.toArray⟩
  unfold ksk_tail
  try dsimp only
  rw[hout];refine wpAny_bind (listUpdate_at B5.1 rfl ?_ (by rw[List.size_toArray,List.length_map,sizeLine_eq];lia) (Nat.zero_le _))
  refine wpAny_bind (wpAny_letGo ?_);refine wpAny_bind (seqEpoch_at rG rfl ?_);refine wpAny_bind (listUpdate_at rG rfl ?_ (Nat.zero_le _) (by show out.toArray.size<=_;rw[List.size_toArray,sizeLine_eq];lia))
  rw[hf];simp only[bne_self_eq_false,Bool.false_eq_true,if_false];have J1:=I.je (t':=s.toks) (h':=s.heap.update kS (Obj.mapSeq fun _=>(#[]:Array Value))) (pb:=pins) oK (.head _) (fun c u ne e=>(s1.2 c ne).trans e) (fun p hp=>.inr ⟨.tail _ hp,pK p hp⟩)
  have J2:=Inv.Qt I0 e0 J1 hD;have J3:=J2.write (x:=D) (e:=D) (o:=.lst (ns'.map V.int)) (t':=s.toks) (h':=(s.heap.update kS (Obj.mapSeq fun _=>(#[]:Array Value))).update D (Obj.mapSeq fun _=>out.toArray)) (by rw[ae];trivial) (.inl rfl) (fun b u nb eb=>(s2.2 b nb).trans eb) ⟨_,hc2⟩
   ⟨by rw[List.length_map,hp.length_eq,sizeLine_eq];lia,out,c2,hv,hc2⟩
  exact wpAny_pure (fin _ ns' hp hs J3)
 by_cases h2:2<=ns.length
 ·have kv:∀ i,i<its.length->wN s.heap ((ds.map Value.ref).getD i Value.none) (kf (ns.getD i 0)):=fun i hi=>by
   have e1:ds[i]?=some (ds[i]'(by lia)):=List.getElem?_eq_getElem _
   have e2:ns[i]?=some (ns[i]'(by lia)):=List.getElem?_eq_getElem _
   have hd:=hk i _ _ e1 e2;obtain⟨ts,rt,⟨o,eo,hc,n,hdt⟩,_⟩:=I.tuple (aV.of hd);have g1:(ds.map Value.ref).getD i Value.none = .ref (ds[i]'(by lia)):=by rw[List.getD_eq_getElem?_getD,List.getElem?_map,e1];rfl
   have g2:ns.getD i 0=ns[i]'(by lia):=by rw[List.getD_eq_getElem?_getD,e2];rfl
   rw[g1,g2]
   match ts,rt with
   | [_,_],.cons ⟨t,rfl⟩ (.cons ⟨u,rfl⟩ .nil)=>exact⟨_,o,t,u,n,rfl,eo,hc,hdt⟩
  have kz:∀ i,i<its.length->La (kf (ns.getD i 0)):=fun i hi=>by
   have e2:ns[i]?=some (ns[i]'(by lia)):=List.getElem?_eq_getElem _
   rw[List.getD_eq_getElem?_getD,e2];exact hok _ (List.getElem_mem _)
  have hlk:(ds.map Value.ref).length=its.length:=by rw[List.length_map];lia
  have hn2 : ¬ its.toArray.size<2:=by rw[List.size_toArray];lia
  unfold ksk_end
  try dsimp only
  rw[if_neg Bool.false_ne_true,if_neg hn2,if_neg hn2,if_neg Bool.false_ne_true];refine wpAny_bind (wm (by rw[List.length_map];lia) (fun v hv=>?_) ?_)
  ·obtain⟨i,hi,rfl⟩:=List.mem_iff_getElem.mp hv;have:=(kv i (by lia)).pair
   rw[List.getD_eq_getElem?_getD,List.getElem?_eq_getElem hi]at this;exact this
  refine wpAny_bind (wpAny_mono (kat_run (Q:=fun st' s'=>s' = s/\∃ p:Array Nat,cO its.length p/\Up (fun i=>kx (kf (ns.getD i 0))) p its.length/\(arrOf st').map (·.2)=(p.toList.map fun i=>its.getD i Value.none).toArray/\failedOf st' = none) (G:=fun p s'=>s' = s/\cO its.length p/\Up (fun i=>kx (kf (ns.getD i 0))) p its.length)
   hlk (by lia) (by lia) (fun p st' s' a1 a2 a3 a4=>⟨a4.1,p,a4.2.1,a4.2.2,kat_snds hlk a2,a3⟩) ?_) ?_ fun _ _ x=>x)
  ·exact xY (r:=fun i=>kx (kf (ns.getD i 0))) (n:=its.length) (wO kz kv) (DG (by lia)) fun hg=>⟨rfl,hg,DL (by lia)⟩
  ·rintro⟨⟨⟩,st'⟩ s' ⟨rfl,p,hg,hu,har,hf⟩
   try dsimp only
   have hpl:p.toList.length=its.length:=by have:=hg.length_eq;rw[List.length_range]at this;exact this
   refine tail st' (p.toList.map fun i=>ns.getD i 0) _ har (by rw[List.length_map];lia) hf ?_ ?_ ?_
   ·have h1:=List.Perm.map (fun i=>ns.getD i 0) hg
    have h3:(List.range its.length).map (fun i=>ns.getD i 0)=ns:=by
     rw[hl];refine List.ext_getElem (by simp) fun i h1 h2=>?_
     simp[List.getD_eq_getElem?_getD,List.getElem?_eq_getElem h2]
    rw[h3]at h1;exact h1
   ·rw[List.pairwise_map,List.pairwise_iff_getElem];intro i j hi hj hij;have:=hu.le (Nat.le_of_lt hij) (by lia)
    have ga:∀ i (hi:i<p.toList.length),p.getD i 0=p.toList[i]:=fun i hi=>by
     rw[Array.getD_eq_getD_getElem?,<-Array.getElem?_toList,List.getElem?_eq_getElem hi];rfl
    unfold Kr at this;rw[ga i hi,ga j hj]at this;exact this
   ·have:∀ l:List Nat,(∀ i∈l,i<ns.length)->Vals ((l.map fun i=>ns.getD i 0).map V.int) (l.map fun i=>its.getD i Value.none):=fun l=>by
     induction l with
     | nil=>exact fun _=>.nil
     | cons i l ih =>
       intro h;refine .cons ?_ (ih fun j hj=>h j (List.mem_cons_of_mem _ hj))
       have hi:=h i List.mem_cons_self;have h1:(ns.map V.int)[i]?=some (.int (ns.getD i 0)):=by
        rw[List.getElem?_map,List.getD_eq_getElem?_getD,List.getElem?_eq_getElem hi];rfl
       obtain⟨u,hu,ru⟩:=rv.get h1;have gu:its.getD i Value.none=u:=by rw[List.getD_eq_getElem?_getD,hu];rfl
       show RelV (V.int (ns.getD i 0)) (its.getD i Value.none);rw[gu];exact ru
    refine this _ fun i hi=>?_
    have:=List.mem_range.mp (hg.mem_iff.mp hi)
    lia
 ·have hn2:its.toArray.size<2:=by rw[List.size_toArray];lia
  unfold ksk_end
  try dsimp only
  rw[if_neg Bool.false_ne_true,if_pos hn2,if_pos hn2,if_neg Bool.false_ne_true];refine wpAny_bind (wpAny_pure ?_);refine wpAny_bind (m:=pure ((),SortSt.mk' general' (((ds.map Value.ref).toArray).zip its.toArray) #[] 7 none)) (wpAny_pure ?_);refine tail _ ns its ?_ (by lia) rfl (List.Perm.refl _) ?_ rv
  ·show Array.map (fun x:Keyed=>x.snd) (((ds.map Value.ref).toArray).zip its.toArray)=its.toArray
   apply Array.toList_inj.mp;simp;exact List.map_snd_zip (by rw[List.length_map];lia)
  ·match ns,h2 with
   | [],_=>exact .nil
   | [x],_=>exact List.pairwise_singleton _ _
   | _::_::_,h2=>exact absurd (by simp:2<=_) h2
end
section
variable {X:Cx}{params:Arguments}{body e:Expr}{scope:Scope}{lp p pos kp:Pos}{frees:List Str}{js:List Nat}{x:Str}{ta:TA}{te:TE}{c0 P:Addr}{k:Nat}
theorem IE(hr:eM (k+3) X.A)(T:c6 X scope [x] frees js)(hx:scope.names.lookup x=some .local)(hg:Gl X "sorted")(hm:X.mg "sorted"=none)(hcode:X.env.code = .ref c0)(hK:PySem.W.codeHdIn X.K c0 P=true)(ha:PA X [e] ta)
 (he:∀ f c s H,eM k (tX X ([x]++frees) scope f c X.A.in1.in1 s H).A->PE (tX X ([x]++frees) scope f c X.A.in1.in1 s H) body te)
 (hb:∀ c ctv u,bindArgs (zY X params body scope c ctv) ⟨[u],[]⟩=pure [(x,u)]:=by intro _ _ _;rfl) (hco:scope.isCoroutine=false:=by rfl) (hgen:scope.isGenerator=false:=by rfl)
 (hdef:defaultsOf params X.env=([],[]):=by rfl)
 (hs:backTo pos (starEach [e] X.env)=(false,eval e X.env)::backTo pos (starEach [] X.env):=by rfl) (hs2:(backTo pos (starEach [e] X.env)).any (·.1)=false:=by rfl) :
 PE X (.Call (.Name "sorted" p) [e] [⟨some (Str.ofString "key"),.Lambda params body scope lp,kp⟩] pos) (NG P (X.env.qual ++ "<lambda>") lp ta te js):=by
 intro pins s σ H Q I h;refine wpAny_Call_Name_kw (jr I hg hm x6 (callWith_kw (cT (ha pos pins s σ H _ I h) fun us s1 hq=>?_) hs hs2 rfl rfl))
 obtain⟨vs,H1,I1,r1,a,ns,kf,rfl,hda,h64,hok,hP,hturn,Nt⟩:=hq;obtain⟨u,rfl,rx⟩:=vals1 r1;cases rx;refine kws_cons (zZ I1 T hcode hK hP hdef fun f c oc ctv s2 hc z4 hoc J=>kws_nil ?_)
 show wpAny _ X.A (call (.builtin "sorted") [.ref a] [(Str.ofString "key",.ref f)]) _ _ s2;have hla:=r9 (oc:=oc) hP hc hda (by intro y z;cases z) (by intro y z;cases z)
 have Nu:ff H1 P c oc (X.env.qual ++ "<lambda>") lp P=some (.iY (dY (X.env.qual ++ "<lambda>") lp++mY lp c)):=ae;have K6:ff H1 P c oc (X.env.qual ++ "<lambda>") lp c=some (.jR oc (.own P)):=by unfold ff;rw[aj z4,ae]
 have L3:∀ b,ff H1 P c oc (X.env.qual ++ "<lambda>") lp b=none->H1 b=none:=fun b hb=>by
  have bP:b≠P:=fun z=>by rw[z,Nu]at hb;cases hb
  have bc:b≠c:=fun z=>by rw[z,K6]at hb;cases hb
  unfold ff at hb
  rwa [aj bP,aj bc]at hb
 have Vm:∀ b u,H1 b=some u->(∀ y,u≠.own y)->(∀ qs,u≠.iY qs)->ff H1 P c oc (X.env.qual ++ "<lambda>") lp b=some u:=fun b u eb n1 n2=>r9 hP hc eb n1 n2
 generalize Yc:ff H1 P c oc (X.env.qual ++ "<lambda>") lp=HL at J hla Nu K6 L3 Vm;obtain⟨its,rv,⟨o,n,ho,hcl,hdt,hd⟩,hz⟩:=J.list (aL.of hla);have hl:=rv.length;rw[List.length_map]at hl;have hsl:its.length<=sizeLine:=dl (Nat.ble_eq.mpr (by lia))
 refine call_function_entry_kw kind_sorted plain_sorted entry_sorted (ksk_s1 _ _) ?_;unfold Builtin.«sorted»;refine wpAny_bind (m:=checkCount "sorted" 1 1 _) (wpAny_pure ?_);refine wpAny_bind (wpAny_collect_seq a (T:="list") (.inl rfl) ho hcl hd (fun h1 hk=>?_) (by rw[List.size_toArray];exact hsl))
 have J1:=J.kept (t':=s2.toks) hk;have hfr:HL h1.objs.size=none:=J1.hok.fresh (Nat.le_refl _);refine wpAny_bind (wpAny_newList ?_ (by simpa using hsl))
 have e0:its.toArray.toList=its:=by simp
 rw[e0];have A8:(h1.push (seqObj "list" its.toArray 0)).get? h1.objs.size=some (seqObj "list" its.toArray 0):=Heap.get?_push_size _ rfl;have J2:Inv X ((f,dF X params body scope c ctv)::pins) σ (upd HL h1.objs.size (.lst (ns.map V.int))) { s2 with heap:=h1.push (seqObj "list" its.toArray 0)}:=by
  refine J1.laid (t':=s2.toks) (fun b o hb=>?_) (Nat.le_refl _) ⟨?_,its,0,rv,A8⟩
  ·rw[Heap.get?_push_ne _ _ _ (Nat.ne_of_lt (Heap.lt_size hb))];exact hb
  ·rw[List.length_map,hl];exact hsl
 generalize hDd:h1.objs.size=D at hfr A8 J2;refine wpAny_bind (wpAny_holding (wpAny_call_entry_kw slot_list_sort ⟨_,A8,rfl⟩ entry_list_sort ?body (ksk_l1 _ _)));show wpAny (model X.prog X.w) X.A.in1.in1 (Builtin.«list.sort» ⟨[.ref D],[(Str.ofString "key",.ref f)]⟩) _ _ _;rw[ksk_t1];generalize h1.push (seqObj "list" its.toArray 0)=h2 at A8 J2;have s1':=Heap.SameBut.update h2 D (Obj.mapSeq fun _=>(#[]:Array Value))
 obtain⟨e1,JB⟩:∃ e1,(h2.update D (Obj.mapSeq fun _=>(#[]:Array Value))).get? D=some (seqObj "list" #[] e1):=⟨_,get?_update_seq A8 fun _=>#[]⟩
 unfold ksk_tree;refine wpAny_bind (listItems_at A8 rfl ?_);refine wpAny_bind (listUpdate_at A8 rfl ?_ (by rw[List.size_toArray];exact hsl) (Nat.zero_le _))
 refine wpAny_bind (seqEpoch_at JB rfl ?_);refine wpAny_bind (wpAny_newTuple ?_ (by show its.toArray.toList.length<=_;rw[e0];exact hsl))
 refine wpAny_bind (wpAny_newList ?_ (Nat.zero_le _));refine wpAny_holding ?_;have J3:=J2.write (x:=D) (e:=D) (o:=.lst []) (t':=s2.toks) (h':=h2.update D (Obj.mapSeq fun _=>(#[]:Array Value))) (by rw[ae];trivial) (.inl rfl) (fun b u nb eb=>(s1'.2 b nb).trans eb) ⟨_,JB⟩ ⟨Nat.zero_le _,[],e1,.nil,JB⟩
 have J4:=J3.Lb (a:=D) ae JB;generalize Kh:upd (upd (upd HL D (.lst (ns.map V.int))) D (.lst [])) D (.jR (seqObj "list" #[] e1) (.lst []))=H2 at J4;have at2:∀ b u,HL b=some u->H2 b=some u:=fun b u eb=>by
  have nb:b≠D:=fun z=>by rw[z,hfr]at eb;cases eb
  rw[<-Kh,aj nb,aj nb,aj nb];exact eb
 have iS:H2 D=some (.jR (seqObj "list" #[] e1) (.lst [])):=by rw[<-Kh,ae]
 generalize h2.update D (Obj.mapSeq fun _=>(#[]:Array Value))=h3 at J3 J4
 rw[e0];have hkk:∀ b u,h3.get? b=some u->((h3.push (seqObj "tuple" its.toArray 0)).push (seqObj "list" #[] 0)).get? b=some u:=fun b u eb=>Heap.get?_push_of_some _ (Heap.get?_push_of_some _ eb)
 have hS:(h3.push (seqObj "tuple" its.toArray 0)).objs.size=h3.objs.size+1:=size_push' ..;have oK:=J4.Ih (b:=(h3.push (seqObj "tuple" its.toArray 0)).objs.size) (by show h3.objs.size<=_;rw[hS];exact Nat.le_succ _)
 have gK:((h3.push (seqObj "tuple" its.toArray 0)).push (seqObj "list" #[] 0)).get? (h3.push (seqObj "tuple" its.toArray 0)).objs.size=some (seqObj "list" #[] 0):=Heap.get?_push_size _ rfl;have Yd:H2 (h3.push (seqObj "tuple" its.toArray 0)).objs.size=none:=J4.hok.fresh (by show h3.objs.size<=_;rw[hS];exact Nat.le_succ _)
 have K7:∀ q∈(f,dF X params body scope c ctv)::pins,q.1<h3.objs.size:=fun q hq=>Heap.lt_size (J4.pin q (List.mem_append_right _ hq)).1
 have J5:Inv X (((h3.push (seqObj "tuple" its.toArray 0)).objs.size,seqObj "list" #[] 0)::(f,dF X params body scope c ctv)::pins) σ H2 { s2 with heap:=(h3.push (seqObj "tuple" its.toArray 0)).push (seqObj "list" #[] 0)}:=by
  have K:=J4.kept (t':=s2.toks) hkk;refine K.fC fun q hq=>?_
  rcases List.mem_cons.mp hq with rfl|hq
  ·exact⟨gK,Yd,oK.2.1,oK.2.2.1,fun v z=>by cases z⟩
  ·exact K.pin q (List.mem_append_right _ hq)
 have pK:∀ q∈(f,dF X params body scope c ctv)::pins,q.1≠(h3.push (seqObj "tuple" its.toArray 0)).objs.size:=fun q hq=>by
  have:=K7 q hq;rw[hS];exact Nat.ne_of_lt (Nat.lt_succ_of_lt this)
 have Vn:its.toArray.size=its.length:=List.size_toArray ..;show wpAny (model X.prog X.w) X.A.in1.in1 (ksk_rest D (.ref f) false its.toArray e1 (.ref (h3.push (seqObj "tuple" its.toArray 0)).objs.size)) _ _ { s2 with heap:=(h3.push (seqObj "tuple" its.toArray 0)).push (seqObj "list" #[] 0)}
 generalize (h3.push (seqObj "tuple" its.toArray 0)).objs.size=kS at oK J5 pK;generalize (h3.push (seqObj "tuple" its.toArray 0)).push (seqObj "list" #[] 0)=h4 at J5;unfold ksk_rest;refine wpAny_bind (wpAny_rule ?_);rw[List.forIn_toArray];refine wpAny_bind (ksk_fold (fun i s'=>∃ H3 ds en,aq H2 H3/\Inv X ((kS,seqObj "list" ((ds.map Value.ref).toArray) en)::(f,dF X params body scope c ctv)::pins) σ H3 s'/\ds.length=i/\∀(j:Nat) d n,ds[j]?=some d->ns[j]?=some n->H3 d=some (.tup [.int (kf n).1,.int (kf n).2]))
  its 0 _ ⟨H2,[],0,aq.refl _,J5,rfl,fun j d n z=>by cases z⟩ ?_ ?_)
 ·rintro j y s' hy ⟨H3,ds,en,Bb,I3,hdl,hkeys⟩;rw[Nat.zero_add]at hdl ⊢;have hj:j<its.length:=(List.getElem?_eq_some_iff.mp hy).1;have Vo:ns[j]?=some (ns[j]'(by lia)):=List.getElem?_eq_getElem _
  obtain⟨uu,hu,ru⟩:=rv.get (show(ns.map V.int)[j]?=some (.int (ns[j]'(by lia))) by rw[List.getElem?_map,Vo];rfl)
  rw[hy]at hu;cases hu;obtain⟨hct,_⟩:=(show bf X.prog X.w H3 s'.heap c (.jR oc (.own P)) from I3.hok c _ (Bb _ _ (at2 _ _ K6)))
  have hroom:X.A.in1.in1.depth<recursionLimit:=((hr.in1).in1).depth;refine wpAny_bind (wpAny_attempt (wpAny_mono (z7 (v:=.int (ns[j]'(by lia))) I3 T hx I3.ok.frames rfl hroom (List.Mem.tail _ (.head _)) (hoc.rec hct) (hb c ctv _) hco hgen (he f c s' H3 (((hr.in1).in1).deeper _)) ru
   (hturn H3 (fun b u eb n1 n2=>Bb _ _ (at2 _ _ (Vm b u eb n1 n2))) _ (List.getElem_mem _))) (fun v s3 hv=>?_) fun _ _ z=>z))
  obtain⟨w',H4,I4,rw',Vp,d,rfl,Ye⟩:=hv;cases rw';have B5:=I4.pin (kS,_) (List.mem_append_right _ (.head _));have sb:=Heap.SameBut.update s3.heap kS (Obj.mapSeq (·.push (.ref d)));have ea:((ds.map Value.ref).toArray).push (.ref d)=((ds++[d]).map Value.ref).toArray:=by simp
  obtain⟨c2,hc2⟩:∃ c2,(s3.heap.update kS (Obj.mapSeq (·.push (.ref d)))).get? kS=some (seqObj "list" (((ds++[d]).map Value.ref).toArray) c2):=⟨_,by rw[<-ea];exact get?_update_seq B5.1 (·.push (.ref d))⟩
  try dsimp only
  refine wpAny_bind (listUpdate_at B5.1 rfl ?_ (by rw[List.size_toArray,List.length_map,sizeLine_eq];lia) (Nat.le_trans (Nat.le_of_eq (Array.size_push ..)) (by rw[List.size_toArray,List.length_map,sizeLine_eq];lia)))
  refine wpAny_pure ⟨rfl,H4,ds++[d],c2,fun b u z=>Vp _ _ (Bb _ _ z),?_,by rw[List.length_append,List.length_singleton,hdl],fun i d' n' e1 e2=>?_⟩
  ·exact I4.je (t':=s3.toks) oK (.head _) (fun b u nb eb=>(sb.2 b nb).trans eb) fun q hq=>by
    rcases List.mem_cons.mp hq with rfl|hq
    ·exact .inl ⟨rfl,hc2,fun v z=>by cases z⟩
    ·exact .inr ⟨.tail _ hq,pK q hq⟩
  ·by_cases hi:i<ds.length
   ·rw[List.getElem?_append_left hi]at e1;exact Vp _ _ (hkeys i d' n' e1 e2)
   ·rw[List.getElem?_append_right (by lia)]at e1
    have hi2:i=j:=by
     have:=(List.getElem?_eq_some_iff.mp e1).1;rw[List.length_singleton]at this
     lia
    subst hi2;rw[hdl,Nat.sub_self]at e1;have e1:d=d':=by simpa using e1
    rw[Vo]at e2;cases e2;rw[<-e1];exact Ye
 ·rintro s' ⟨H3,ds,en,Bb,I3,hdl,hkeys⟩;rw[Nat.zero_add]at hdl;have B5:=I3.pin (kS,_) (List.mem_append_right _ (.head _))
  try dsimp only
  refine wpAny_bind (listItems_at B5.1 rfl ?_);refine EW I3 oK pK (Bb _ _ iS) rv h64 (by lia) hkeys hok J3 ae fun s5 ns' hp TU I5=>⟨_,rfl,wpAny_pure ⟨_,rfl,?_⟩⟩
  have I6:Inv X pins σ (upd (upd H3 D (.lst [])) D (.lst (ns'.map V.int))) s5:=I5.fC fun q hq=>I5.pin q (List.mem_append_right _ (.tail _ hq))
  have nD:∀ b u,HL b=some u->b≠D:=fun b u eb z=>by rw[z,hfr]at eb;cases eb
  have TV:∀ b u,HL b=some u->upd (upd H3 D (.lst [])) D (.lst (ns'.map V.int)) b=some u:=fun b u eb=>by
   rw[aj (nD b u eb),aj (nD b u eb)];exact Bb _ _ (at2 _ _ eb)
  have I7:=z5 I1 hP hc z4 hoc I6 (TV _ _ Nu) (TV _ _ K6);refine⟨.ref D,_,I7,rfl,Nt D ns' _ (L3 D hfr) (z6 hP hc z4 (oc:=oc) fun b u eb=>TV b u (by rw[<-Yc];exact eb)) ?_ hp TU⟩
  unfold given;rw[aj (fun z=>nD _ _ Nu z.symm),aj (fun z=>nD _ _ K6 z.symm),ae]
end
section
variable {X:Cx}{pins:aQ}{σ:St}{H:Hp}{s:Shared}
theorem Ae{a:Addr}{ps:List (Addr×Int×Int)}{its:List Value}{E:dh}{P:PySem.Fin->Shared->Prop}{A:Around}(I:Inv X pins σ (upd H a (.lst (ps.map fun q=>V.ref q.1))) s)(ha:H a=none)(ho:s.heap.get? a=some (seqObj "list" its.toArray 0))(rv:Vals (ps.map fun q=>V.ref q.1) its)
 (hp:∀ q∈ps,H q.1=some (.tup [.int q.2.1,.int q.2.2])) (hok:∀ q∈ps,La q.2) (h2:2<=ps.length) (hn:ps.length<64)
 (k:∀(h' : Heap) (c:Nat) (ps' : List (Addr×Int×Int)) (out:List Value),ps'.Perm ps->ps'.Pairwise (fun x y=>kx x.2<=kx y.2)->Vals (ps'.map fun q=>V.ref q.1) out->h'.get? a=some (listOf out.toArray c)->(∀ m,s.heap.Ns X.env.locals m->h'.Ns X.env.locals m)->(∀ b o,b≠X.env.locals->b≠a->s.heap.get? b=some o->h'.get? b=some o)->P (PySem.Fin.done (PySem.Flow.ret PySem.Value.none)) { s with heap:=h'}) :
 wpAny (model X.prog X.w) A (PySem.Builtin.«list.sort» { pos:=[PySem.Value.ref a]}) P E s:=by
 have hl:=rv.length;rw[List.length_map]at hl;obtain⟨m,F⟩:=I.fr;have hne:a≠X.env.locals:=fun z=>by
  have:=I.free;rw[<-z,ae]at this;cases this
 have hb:X.base.get? a=none:=by
  cases e:X.base.get? a with
  | none=>rfl
  | some o =>
    have:=(I.bs a o e).2;rw[ae]at this;cases this
 have N:News X.base X.env.locals s.heap (rest X.base s.heap X.env.locals a):=fun p hp=>Gm p (List.mem_filter.mp hp).1
 have at_:∀ i,i<ps.length->its.getD i Value.none = .ref (ps.getD i (0,0,0)).1/\ps.getD i (0,0,0)∈ps:=fun i hi=>by
  have h1:(ps.map fun q=>V.ref q.1)[i]?=some (.ref (ps.getD i (0,0,0)).1):=by
   rw[List.getElem?_map,List.getD_eq_getElem?_getD,List.getElem?_eq_getElem hi];rfl
  obtain⟨u,hu,ru⟩:=rv.get h1;refine⟨?_,?_⟩
  ·rw[List.getD_eq_getElem?_getD,hu];exact ru
  ·rw[List.getD_eq_getElem?_getD,List.getElem?_eq_getElem hi];exact List.getElem_mem hi
 refine kat_list_sort F N ho hne hb CQ (by lia) (by lia) fun e1 h' F' N'=>?_
 have kept:=nO (d:=a) I.bk F' fun p hp=>N' p (List.mem_cons_of_mem _ hp)
 have pv:∀ q∈ps,wN h' (.ref q.1) q.2:=fun q hq=>by
  have hH:=hp q hq;have ne1:q.1≠a:=fun z=>by
   rw[z,ha]at hH;cases hH
  have Vq:upd H a (.lst (ps.map fun q=>V.ref q.1)) q.1=some (.tup [.int q.2.1,.int q.2.2]):=by rw[aj ne1];exact hH
  have ne2:q.1≠X.env.locals:=fun z=>by
   have:=I.free;rw[<-z,Vq]at this;cases this
  obtain⟨ts,rt,⟨o,e,hc,n,hd⟩,_⟩:=I.tuple (aV.of Vq)
  match ts,rt with
  | [_,_],.cons ⟨t,rfl⟩ (.cons ⟨u,rfl⟩ .nil)=>exact⟨q.1,o,t,u,n,rfl,kept _ _ ne2 ne1 e,hc,hd⟩
 have Vr:∀ i,i<its.length->wN h' (its.getD i Value.none) (ps.getD i (0,0,0)).2:=fun i hi=>by
  obtain⟨e,hm⟩:=at_ i (by lia)
  rw[e];exact pv _ hm
 refine wm (by lia) (fun v hv=>?_) (xY (r:=fun i=>kx (ps.getD i (0,0,0)).2) (n:=its.length) (wO (fun i hi=>hok _ (at_ i (by lia)).2) Vr) (DG (by lia)) (fun Ow=>?_))
 ·obtain⟨i,hi,rfl⟩:=List.mem_iff_getElem.mp hv;have:=(Vr i hi).pair;rw[List.getD_eq_getElem?_getD,List.getElem?_eq_getElem hi]at this;exact this
 have hup:=DL (r:=fun i=>kx (ps.getD i (0,0,0)).2) (n:=its.length) (by lia)
 generalize SRun (fun i=>kx (ps.getD i (0,0,0)).2) (kas_sort its.length)=p' at Ow hup ⊢
 refine KasFin.intro F' N' (UpdF.head CQ) fun h'' c Vs Vt=>?_
 have Qu:∀ b o,b≠X.env.locals->b≠a->s.heap.get? b=some o->h''.get? b=some o:=nO (d:=a) I.bk Vs fun p hp=>Vt p (List.mem_cons_of_mem _ hp)
 have DM:(p'.toList.map fun i=>ps.getD i (0,0,0)).Perm ps:=by
  have h1:=List.Perm.map (fun i=>ps.getD i (0,0,0)) Ow
  have h2:(List.range its.length).map (fun i=>ps.getD i (0,0,0))=ps:=by
   rw[<-hl];refine List.ext_getElem (by simp) fun i h1 h2=>?_
   simp[List.getD_eq_getElem?_getD,List.getElem?_eq_getElem h2]
  rw[h2]at h1;exact h1
 have hpl:p'.toList.length=its.length:=by have:=Ow.length_eq;rw[List.length_range]at this;exact this
 have NH:(p'.toList.map fun i=>ps.getD i (0,0,0)).Pairwise (fun x y=>kx x.2<=kx y.2):=by
  rw[List.pairwise_map,List.pairwise_iff_getElem];intro i j hi hj hij;have:=hup.le (Nat.le_of_lt hij) (by lia)
  have ga:∀ i (hi:i<p'.toList.length),p'.getD i 0=p'.toList[i]:=fun i hi=>by
   rw[Array.getD_eq_getD_getElem?,<-Array.getElem?_toList,List.getElem?_eq_getElem hi];rfl
  unfold Kr at this;rw[ga i hi,ga j hj]at this;exact this
 refine k h'' c _ _ DM NH ?_ (Vt _ List.mem_cons_self).1 (fun m' hm'=>?_) Qu
 ·have:∀ l:List Nat,(∀ i∈l,i<ps.length)->Vals ((l.map fun i=>ps.getD i (0,0,0)).map fun q=>V.ref q.1) (l.map fun i=>its.getD i Value.none):=fun l=>by
   induction l with
   | nil=>exact fun _=>.nil
   | cons i l ih =>
     intro h;refine .cons ?_ (ih fun j hj=>h j (List.mem_cons_of_mem _ hj))
     exact(at_ i (h i List.mem_cons_self)).1
  refine this _ fun i hi=>?_
  have:=List.mem_range.mp (Ow.mem_iff.mp hi)
  lia
 ·rw[Nh hm' F.ns];exact Vs.ns
end
section
variable {X:Cx}
theorem IF(K:bJ)(hK:X.K=K:=by rfl):fg X (.builtin "sorted") (fun xs H Q=>∃(p:Addr) (ps:List (Addr×Int×Int)),xs=[.ref p]/\aL K H p (ps.map fun q=>V.ref q.1)/\(∀ q∈ps,H q.1=some (.tup [.int q.2.1,.int q.2.2]))/\(∀ q∈ps,La q.2)/\ps.length<64/\
 ∀(l:Addr) (ps' : List (Addr×Int×Int)),H l=none->ps'.Perm ps->ps'.Pairwise (fun x y=>kx x.2<=kx y.2)->Q (.ref l) (upd H l (.lst (ps'.map fun q=>V.ref q.1)))):=by
 subst hK;intro pins s σ H xs us Q I r h;obtain⟨p,ps,rfl,hq,hp,hok,hn,q⟩:=h;obtain⟨u,rfl,rx⟩:=vals1 r;cases rx;obtain⟨its,rv,⟨o,n,ho,hc,hdt,hd⟩,hz⟩:=I.list hq;have hl:=rv.length;rw[List.length_map]at hl;have hsl:its.length<=sizeLine:=dl (Nat.ble_eq.mpr (by lia))
 refine Calls.call_function_entry kind_sorted plain_sorted entry_sorted (args_sorted1 _) ?_;unfold Builtin.«sorted»;refine wpAny_bind (m:=checkCount "sorted" 1 1 _) (wpAny_pure ?_);refine wpAny_bind (wpAny_collect_seq p (T:="list") (.inl rfl) ho hc hd (fun h1 hk=>?_) (by rw[List.size_toArray];exact hsl))
 have I1:=I.kept (t':=s.toks) hk;have hfr:H h1.objs.size=none:=I1.hok.fresh (Nat.le_refl _);refine wpAny_bind (wpAny_newList ?_ (by simpa using hsl))
 have A8:(h1.push (seqObj "list" its.toArray.toList.toArray 0)).get? h1.objs.size=some (seqObj "list" its.toArray.toList.toArray 0):=Heap.get?_push_size _ rfl;have e0:its.toArray.toList=its:=by simp
 rw[e0]at A8;have I2:Inv X pins σ (upd H h1.objs.size (.lst (ps.map fun q=>V.ref q.1))) { s with heap:=h1.push (seqObj "list" its.toArray 0)}:=by
  refine I1.laid (t':=s.toks) (fun b o hb=>?_) (Nat.le_refl _) ⟨?_,its,0,rv,A8⟩
  ·rw[Heap.get?_push_ne _ _ _ (Nat.ne_of_lt (Heap.lt_size hb))];exact hb
  ·rw[List.length_map,hl];exact hsl
 rw[e0];refine wpAny_bind (wpAny_holding (wpAny_call_entry slot_list_sort ⟨_,A8,rfl⟩ entry_list_sort (?_) (args_list_sort _)));have Qv:∀ ps' : List (Addr×Int×Int),ps'.Perm ps->(ps'.map fun q=>V.ref q.1).length<=sizeLine:=fun ps' Ow=>by
  rw[List.length_map,Ow.length_eq,hl];exact hsl
 have kp:∀ b u,h1.get? b=some u->(h1.push (seqObj "list" its.toArray 0)).get? b=some u:=fun b u e=>by
  rw[Heap.get?_push_ne _ _ _ (Nat.ne_of_lt (Heap.lt_size e))];exact e
 by_cases h2:2<=ps.length
 ·refine Ae I2 hfr A8 rv hp hok h2 hn fun h' c ps' out DM NH Yg hget hns Qw=>⟨_,rfl,wpAny_pure ⟨_,rfl,?_⟩⟩
  refine⟨.ref h1.objs.size,_,I1.Qh (t':=s.toks) (o:=.lst (ps'.map fun q=>V.ref q.1)) (fun b u hb e=>Qw b u hb (Nat.ne_of_lt (Heap.lt_size e)) (kp b u e)) (fun m hm=>hns m ?_) (Nat.le_refl _) ⟨Qv _ DM,out,c,Yg,hget⟩,rfl,q _ ps' hfr DM NH⟩
  obtain⟨o',es,ep,e,z⟩:=hm;exact⟨o',es,ep,kp _ _ e,z⟩
 ·have few:ps.Pairwise (fun x y=>kx x.2<=kx y.2):=by
   match ps,h2 with
   | [],_=>exact .nil
   | [x],_=>exact List.pairwise_singleton _ _
   | _::_::_,h2=>exact absurd (by simp:2<=_) h2
  refine HK A8 (by lia) ⟨_,rfl,wpAny_pure ⟨_,rfl,?_⟩⟩
  obtain⟨e,he⟩:=sortedHeap_at (out:=its.toArray) A8;refine⟨.ref h1.objs.size,_,I1.laid (t':=s.toks) (o:=.lst (ps.map fun q=>V.ref q.1)) (fun b o hb=>?_) (Nat.le_refl _) ⟨Qv ps (List.Perm.refl _),its,e,rv,he⟩,rfl,q _ ps hfr (List.Perm.refl _) few⟩
  have hlt:=Heap.lt_size hb;show(sortedHeap (h1.push (seqObj "list" its.toArray 0)) h1.objs.size its its.toArray).get? b=some o;rw[sortedHeap_old (Nat.ne_of_lt hlt) (by rw[size_push'];exact Nat.lt_succ_of_lt hlt)]
  exact kp b o hb
end
end L2
namespace RM
section
variable {N:Net}{L:Nat->Int}
theorem Af(q m m' : Nat):N.par q (m^^^m')=(N.par q m^^N.par q m'):=by
 have e:∀ a b:Nat,N.par a b=N.par b a:=fun a b=>bR fun k _=>Bool.and_comm _ _
 rw[e,mw,e m,e m']
theorem oN{f:Nat->Bool}:∀{n i:Nat},i<n->(∀ k,k<n->k≠i->f k=false)->bM f n=f i
 | 0,i,h,_=>absurd h (Nat.not_lt_zero _)
 | n+1,i,h,hz=>by
   show(bM f n^^f n)=f i
   by_cases e:i=n
   ·subst e;rw[iq fun k hk=>hz k (by lia) (by lia),Bool.false_xor]
   ·rw[oN (show i<n by lia) fun k hk ne=>hz k (by lia) ne,hz n (by lia) (fun z=>e z.symm),Bool.xor_false]
theorem wQ{f:Nat->Bool}:∀{n:Nat},bM f n=true->∃ i,i<n/\f i=true
 | 0,h=>by cases h
 | n+1,h=>by
   have h:(bM f n^^f n)=true:=h;cases hf:f n with
   | true=>exact⟨n,by lia,hf⟩
   | false =>
     rw[hf,Bool.xor_false]at h;obtain⟨i,h1,h2⟩:=wQ h;exact⟨i,by lia,h2⟩
theorem ug(f:Nat->Bool):∀ n,bM f (n+1)=(f 0^^bM (fun i=>f (i+1)) n)
 | 0=>by
   show(false^^f 0)=(f 0^^false);rw[Bool.false_xor,Bool.xor_false]
 | n+1=>by
   show(bM f (n+1)^^f (n+1))=(f 0^^(bM (fun i=>f (i+1)) n^^f (n+1)))
   rw[ug f n,Bool.xor_assoc]
theorem lG(m:Nat):∀(B:List Nat) (z:Nat),N.par (comb B z) m=bM (fun i=>z.testBit i&&N.par (B.getD i 0) m) B.length
 | [],z=>jK m
 | b::B,z=>by
   show N.par ((if z.testBit 0=true then b else 0)^^^comb B (z/2)) m=bM _ (B.length+1)
   rw[mw,lG m B (z/2),ug];have e1:N.par (if z.testBit 0=true then b else 0) m=(z.testBit 0&&N.par b m):=by
    cases z.testBit 0 with
    | true=>simp
    | false=>simp[jK]
   rw[e1];have e2:bM (fun i=>(z/2).testBit i&&N.par (B.getD i 0) m) B.length=bM (fun i=>z.testBit (i+1)&&N.par ((b::B).getD (i+1) 0) m) B.length:=bR fun i _=>by
    rw[Nat.testBit_succ];rfl
   rw[e2];rfl
def len(N:Net)(L:Nat->Int)(r:Nat):Int:=lsum L (fun k=>r.testBit k) N.n
structure DP(N:Net)(L:Nat->Int)(bs us:List Nat):Prop where
 lens:bs.length=us.length
 ring:∀ b∈bs,N.Ring b/\b<2^N.n
 own:∀(i b w:Nat),bs[i]?=some b->us[i]?=some w->N.par b w=true/\∀ r,N.Ring r->r<2^N.n->N.par r w=true->len N L b<=len N L r
 HY:∀(i j b w:Nat),i<j->bs[i]?=some b->us[j]?=some w->N.par b w=false
theorem DP.start:DP N L [] []:=⟨rfl,fun b h=>(List.not_mem_nil h).elim,fun i b w h=>(by simp at h),fun i j b w _ h=>(by simp at h)⟩
theorem DP.snoc{bs us:List Nat}{b w:Nat}(h:DP N L bs us)(hr:N.Ring b)(hl:b<2^N.n)(ho:N.par b w=true)(hm:∀ r,N.Ring r->r<2^N.n->N.par r w=true->len N L b<=len N L r)(he:∀ b'∈bs,N.par b' w=false):DP N L (bs++[b]) (us++[w]):=by
 have at_:∀{l:List Nat} {x i y:Nat},(l++[x])[i]?=some y->(i<l.length/\l[i]?=some y)\/(i=l.length/\y=x):=fun {l x i y} e=>by
  by_cases hi:i<l.length
  ·rw[List.getElem?_append_left hi]at e;exact .inl ⟨hi,e⟩
  ·have h2:=(List.getElem?_eq_some_iff.mp e).1;rw[List.length_append,List.length_singleton]at h2;have h3:i=l.length:=by lia
   rw[List.getElem?_append_right (by lia),h3,Nat.sub_self]at e
   exact .inr ⟨h3,(Option.some.inj e).symm⟩
 refine⟨by rw[List.length_append,List.length_append,h.lens];rfl,fun b' hb=>?_,fun i b' w' h1 h2=>?_,fun i j b' w' hij h1 h2=>?_⟩
 ·rcases List.mem_append.mp hb with z|z
  ·exact h.ring b' z
  ·rw[List.mem_singleton.mp z];exact⟨hr,hl⟩
 ·have hl:=h.lens;rcases at_ h1 with⟨l1,e1⟩|⟨l1,e1⟩<;>rcases at_ h2 with⟨l2,e2⟩|⟨l2,e2⟩
  ·exact h.own i b' w' e1 e2
  ·lia
  ·lia
  ·rw[e1,e2];exact⟨ho,hm⟩
 ·have hl:=h.lens;rcases at_ h1 with⟨l1,e1⟩|⟨l1,e1⟩<;>rcases at_ h2 with⟨l2,e2⟩|⟨l2,e2⟩
  ·exact h.HY i j b' w' hij e1 e2
  ·rw[e2];exact he b' (List.mem_of_getElem? e1)
  ·lia
  ·lia
section
variable {bs us:List Nat}
theorem DP.at(h:DP N L bs us){i:Nat}(hi:i<bs.length):∃ w,us[i]?=some w/\bs[i]?=some (bs.getD i 0):=by
 have h1:i<us.length:=by rw[<-h.lens];exact hi
 exact⟨us[i],List.getElem?_eq_getElem h1,by rw[List.getD_eq_getElem?_getD,List.getElem?_eq_getElem hi];rfl⟩
theorem x8{f:Nat->Prop}:∀{n i:Nat},i<n->f i->∃ l,l<n/\f l/\∀ j,l<j->j<n->¬ f j
 | 0,i,h,_=>absurd h (Nat.not_lt_zero _)
 | n+1,i,h,hf=>by
   by_cases hn:f n
   ·exact⟨n,by lia,hn,fun j h1 h2=>by lia⟩
   ·have hi:i<n:=by
     rcases Nat.lt_or_ge i n with z|z
     ·exact z
     ·have e:i=n:=by lia
      rw[e]at hf;exact absurd hf hn
    obtain⟨l,h1,h2,h3⟩:=x8 hi hf;refine⟨l,by lia,h2,fun j h4 h5=>?_⟩
    by_cases e:j=n
    ·rw[e];exact hn
    ·exact h3 j h4 (by lia)
theorem DP.parts(h:DP N L bs us){z:Nat}(hr:N.Ring (comb bs z))(hl:comb bs z<2^N.n):∀ i,i<bs.length->z.testBit i=true->len N L (bs.getD i 0)<=len N L (comb bs z):=by
 intro i hi hz;apply Classical.byContradiction;intro hc;obtain⟨l,h1,⟨h2,h3⟩,h4⟩:=x8 (f:=fun i=>z.testBit i=true/\¬ len N L (bs.getD i 0)<=len N L (comb bs z)) hi ⟨hz,hc⟩
 obtain⟨w,hw,hb⟩:=h.at h1;obtain⟨o1,o2⟩:=h.own l _ w hb hw;have hp:=lG (N:=N) w bs z
 by_cases hx:∃ j,l<j/\j<bs.length/\z.testBit j=true/\N.par (bs.getD j 0) w=true
 ·obtain⟨j,j1,j2,j3,j4⟩:=hx;obtain⟨_,_,Qx⟩:=h.at j2;obtain⟨rj,lj⟩:=h.ring _ (List.mem_of_getElem? Qx);have k1:=o2 _ rj lj j4;have k2:len N L (bs.getD j 0)<=len N L (comb bs z):=Classical.byContradiction fun hn=>h4 j j1 j2 ⟨j3,hn⟩
  lia
 ·rw[oN (i:=l) h1 (fun j hj ne=>?_),h2,o1]at hp
  ·exact h3 (o2 _ hr hl hp)
  ·cases TX:z.testBit j with
   | false=>rfl
   | true =>
     rcases Nat.lt_or_ge j l with hlt|hge
     ·obtain⟨_,_,Qx⟩:=h.at hj;rw[h.HY j l _ w hlt Qx hw];rfl
     ·cases Yh:N.par (bs.getD j 0) w with
      | false=>rfl
      | true=>exact absurd ⟨j,by lia,hj,TX,Yh⟩ hx
theorem DP.ind(h:DP N L bs us):wF bs:=by
 intro z hz hc;apply Classical.byContradiction;intro hne;obtain⟨i,hi⟩:=Nat.exists_testBit_of_ne_zero hne;have Yi:=ny hz hi;obtain⟨l,h1,h2,h4⟩:=x8 (f:=fun i=>z.testBit i=true) Yi hi
 obtain⟨w,hw,hb⟩:=h.at h1;obtain⟨o1,_⟩:=h.own l _ w hb hw;have hp:=lG (N:=N) w bs z;rw[hc,jK,oN (i:=l) h1 (fun j hj ne=>?_),h2,o1]at hp
 ·cases hp
 ·cases TX:z.testBit j with
  | false=>rfl
  | true =>
    have hlt:j<l:=by
     rcases Nat.lt_or_ge j l with z|z
     ·exact z
     ·exact absurd TX (h4 j (by lia) hj)
    obtain⟨_,_,Qx⟩:=h.at hj;rw[h.HY j l _ w hlt Qx hw];rfl
end
theorem Base.span{rs:List Nat}(h:Base N rs){e:Nat}(he:N.bS e)(hl:e<2^N.n):∃ z,z<2^rs.length/\comb rs z=e:=by
 apply oH;apply Classical.byContradiction;intro hn;have h1:wF (rs++[e]):=lC.mpr ⟨h.ind,hn⟩;have h2:=HX (N:=N) h1 (fun b hb=>by
  rcases List.mem_append.mp hb with z|z
  ·exact⟨(h.ring b z).1.2.1,(h.ring b z).2⟩
  ·rw[List.mem_singleton.mp z];exact⟨he,hl⟩)
 rw[List.length_append,List.length_singleton,h.len]at h2
 lia
def LB(N:Net)(L:Nat->Int)(rs:List Nat):Prop:=Base N rs/\∀ r m,N.Ring r->r<2^N.n->N.par r m=true->∃ b∈rs,N.par b m=true/\len N L b<=len N L r
theorem LB.perm{rs rs' : List Nat}(h:LB N L rs)(p:rs'.Perm rs):LB N L rs':=⟨h.1.perm p,fun r m h1 h2 h3=>let⟨b,hb,q⟩:=h.2 r m h1 h2 h3;⟨b,p.mem_iff.mpr hb,q⟩⟩
theorem DP.least{bs us:List Nat}(h:DP N L bs us)(hl:bs.length=N.ay.length):LB N L bs:=by
 have bb:Base N bs:=⟨hl,h.ring,h.ind⟩;refine⟨bb,fun r m hr hlt ho=>?_⟩
 obtain⟨z,hz,rfl⟩:=bb.span hr.2.1 hlt;rw[lG]at ho;obtain⟨i,hi,h1⟩:=wQ ho;have h1:=Bool.and_eq_true_iff.mp h1;obtain⟨_,_,hb⟩:=h.at hi;exact⟨_,List.mem_of_getElem? hb,h1.2,h.parts hr hlt i hi h1.1⟩
structure Wt(N:Net)(bs ws cs:List Nat):Prop where
 lens:ws.length=cs.length
 sum:bs.length+ws.length=N.ay.length
 ch:∀ c∈cs,c<N.n/\N.iW c=false
 lt:∀ w∈ws,w<2^N.n
 bits:∀ w∈ws,∀ k,w.testBit k=true->N.iW k=false
 own:∀(i j w c:Nat),ws[i]?=some w->cs[j]?=some c->w.testBit c=decide (i=j)
 fZ:∀ w∈ws,∀ b∈bs,N.par b w=false
theorem Wt.odd{bs ws cs:List Nat}{w:Nat}(h:Wt N bs (w::ws) cs):∃ r,N.Ring r/\r<2^N.n/\N.par r w=true:=by
 have hl:=h.lens
 match cs,hl,h with
 | c::cs,hl,h =>
   obtain⟨c1,c2⟩:=h.ch c List.mem_cons_self;refine⟨N.ring c,mz c1 c2,jX c1,?_⟩;have e:N.par (N.ring c) w=((N.ring c).testBit c&&w.testBit c):=oN (f:=fun k=>(N.ring c).testBit k&&w.testBit k) c1 fun k hk ne=>by
    cases hw:w.testBit k with
    | false=>exact Bool.and_false _
    | true =>
      have:=dM c2 (h.bits w List.mem_cons_self k hw);rw[this,decide_eq_false (fun z=>ne z.symm)]
      rfl
   rw[e,ou c2,h.own 0 0 w c rfl rfl];rfl
theorem Wt.next{bs ws cs:List Nat}{w b:Nat}(h:Wt N bs (w::ws) cs)(ho:N.par b w=true):∃ c cs',cs=c::cs'/\Wt N (bs++[b]) (ws.map fun v=>if N.par b v=true then v^^^w else v) cs':=by
 have hl:=h.lens
 match cs,hl,h with
 | c::cs,hl,h =>
   refine⟨c,cs,rfl,?_⟩;have hw:=h.lt w List.mem_cons_self;have hv:∀ v∈ws,v∈w::ws:=fun v z=>List.mem_cons_of_mem _ z
   refine⟨by rw[List.length_map];simpa using hl,?_,fun d hd=>h.ch d (List.mem_cons_of_mem _ hd),fun v' HJ=>?_,fun v' HJ k hk=>?_,fun i j v' d h1 h2=>?_,fun v' HJ b' hb'=>?_⟩
   ·have:=h.sum;rw[List.length_cons]at this;rw[List.length_append,List.length_singleton,List.length_map]
    lia
   ·obtain⟨v,m,rfl⟩:=List.mem_map.mp HJ
    split
    ·exact Nat.xor_lt_two_pow (h.lt v (hv v m)) hw
    ·exact h.lt v (hv v m)
   ·obtain⟨v,m,rfl⟩:=List.mem_map.mp HJ
    split at hk
    ·rw[Nat.testBit_xor]at hk;cases h1:v.testBit k with
     | true=>exact h.bits v (hv v m) k h1
     | false =>
       rw[h1,Bool.false_xor]at hk;exact h.bits w List.mem_cons_self k hk
    ·exact h.bits v (hv v m) k hk
   ·rw[List.getElem?_map]at h1;obtain⟨v,LG,rfl⟩:=Option.map_eq_some_iff.mp h1;have e1:=h.own (i+1) (j+1) v d (by simpa using LG) (by simpa using h2)
    have e2:=h.own 0 (j+1) w d rfl (by simpa using h2)
    have e3:decide (i+1=j+1)=decide (i=j):=decide_eq_decide.mpr (by lia)
    rw[e3]at e1
    split
    ·rw[Nat.testBit_xor,e1,e2];simp
    ·exact e1
   ·obtain⟨v,m,rfl⟩:=List.mem_map.mp HJ;rcases List.mem_append.mp hb' with z|z
    ·have z1:=h.fZ v (hv v m) b' z;have z2:=h.fZ w List.mem_cons_self b' z
     split
     ·rw[Af,z1,z2];rfl
     ·exact z1
    ·rw[List.mem_singleton.mp z]
     split
     ·rename_i hp
      rw[Af,hp,ho];rfl
     ·rename_i hp
      cases hq:N.par b v with
      | false=>rfl
      | true=>exact absurd hq hp
theorem Wt.start(nd:N.ay.Nodup):Wt N [] (N.ay.map fun c=>2^c) N.ay:=by
 refine⟨List.length_map ..,by rw[List.length_map];simp,fun c hc=>aR.mp hc,fun w hw=>?_,fun w hw k hk=>?_,fun i j w c h1 h2=>?_,fun w _ b hb=>by cases hb⟩
 ·obtain⟨c,hc,rfl⟩:=List.mem_map.mp hw;exact Nat.pow_lt_pow_right (by decide) (aR.mp hc).1
 ·obtain⟨c,hc,rfl⟩:=List.mem_map.mp hw;rw[Nat.testBit_two_pow]at hk;rw[<-of_decide_eq_true hk];exact(aR.mp hc).2
 ·rw[List.getElem?_map]at h1;obtain⟨d,hd,rfl⟩:=Option.map_eq_some_iff.mp h1;rw[Nat.testBit_two_pow];refine decide_eq_decide.mpr ⟨fun z=>?_,fun z=>?_⟩
  ·subst z;obtain⟨a1,a2⟩:=List.getElem?_eq_some_iff.mp hd;obtain⟨b1,b2⟩:=List.getElem?_eq_some_iff.mp h2;exact(List.getElem_inj nd).mp (a2.trans b2.symm)
  ·subst z;rw[hd]at h2;exact Option.some.inj h2
inductive NI(N:Net)(L:Nat->Int)(RW:List Nat):List Nat->List Nat->Prop
 | start:NI N L RW [] RW
 | step {bs ws:List Nat} {w e:Nat} {z:Int} (h:NI N L RW bs (w::ws)) (lo:Lo N L w z e):NI N L RW (bs++[e]) (ws.map fun v=>if N.par e v=true then v^^^w else v)
end
def gV(B:List Nat):Nat->List Row3
 | 0=>[]
 | i+1=>if(b9 (gV B i) (B.getD i 0) 0).1=0 then gV B i else uZ (gV B i) ((b9 (gV B i) (B.getD i 0) 0).1.log2,(b9 (gV B i) (B.getD i 0) 0).1,(b9 (gV B i) (B.getD i 0) 0).2^^^2^i)
theorem B6{B:List Nat}{i b:Nat}{rows:List Row3}(e:rows=gV B i)(hb:B[i]?=some b)(h:(b9 rows b 0).1≠0):uZ rows ((b9 rows b 0).1.log2,(b9 rows b 0).1,(b9 rows b 0).2^^^2^i)=gV B (i+1):=by
 subst e;have eb:B.getD i 0=b:=by rw[List.getD_eq_getElem?_getD,hb];rfl
 show _=if _ then _ else _
 rw[eb,if_neg h]
theorem Ag{B:List Nat}{i b:Nat}{rows:List Row3}(e:rows=gV B i)(hb:B[i]?=some b)(h:(b9 rows b 0).1=0):rows=gV B (i+1):=by
 subst e;have eb:B.getD i 0=b:=by rw[List.getD_eq_getElem?_getD,hb];rfl
 show _=if _ then _ else _
 rw[eb,if_pos h]
theorem x9{A B:List Nat}(hi:wF B)(h:∀ b∈B,Sp A b):B.length<=A.length:=by
 have hs:∀ z,∃ y,y<2^A.length/\comb A y=comb B z:=fun z=>oH ((mC B z).mono h)
 refine r6 (f:=fun z=>Classical.choose (hs z)) (fun z _=>(Classical.choose_spec (hs z)).1) fun z y hz hy e=>tS B hi hz hy ?_
 have e:Classical.choose (hs z)=Classical.choose (hs y):=e;rw[<-(Classical.choose_spec (hs z)).2,<-(Classical.choose_spec (hs y)).2,e]
theorem IG{B:List Nat}(h:wF B)(i:Nat):wF (B.take i):=by
 have h:=(xT B).mp h;refine(xT _).mpr fun j b hj=>?_
 rw[List.getElem?_take]at hj
 split at hj
 ·rename_i hji
  have:=h j b hj
  rwa [List.take_take,Nat.min_eq_left (Nat.le_of_lt hji)]
 ·cases hj
theorem Lc(B:List Nat):∃ rows,Rw B rows:=by
 suffices h:∀ i,∃ rows,Rw (B.take i) rows by
  obtain⟨rows,hr⟩:=h B.length;rw[List.take_length]at hr;exact⟨rows,hr⟩
 intro i
 induction i with
 | zero=>exact⟨[],by rw[List.take_zero];exact .start⟩
 | succ i ih =>
   obtain⟨rows,hr⟩:=ih;cases hb:B[i]? with
   | none=>exact⟨rows,by rw[List.take_add_one,hb,Option.toList_none,List.append_nil];exact hr⟩
   | some b =>
     rw[List.take_add_one,hb,Option.toList_some]
     by_cases h0:(b9 rows b 0).1=0
     ·exact⟨_,hr.skip ((hr.iw b 0).mp h0)⟩
     ·exact⟨_,hr.put h0⟩
section
variable {N:Net}{L:Nat->Int}
theorem LB.parts{rs:List Nat}(h:LB N L rs){r:Nat}(hr:N.Ring r)(hl:r<2^N.n):Sp (rs.filter fun b=>decide (len N L b<=len N L r)) r:=by
 obtain⟨z,hz,rfl⟩:=h.1.span hr.2.1 hl;obtain⟨rows,hw⟩:=Lc rs;have key:∀ i b,rs[i]?=some b->z.testBit i=true->len N L b<=len N L (comb rs z):=fun i b hb hi=>by
  have mk:∀ j c,rs[j]?=some c->N.par c (Ring.orM (gD rows i))=decide (i=j):=fun j c hc=>(hw.marks h.1.ind (fun b hb=>(h.1.ring b hb).2) hc).1
  have xN:=(List.getElem?_eq_some_iff.mp hb).1;have e:N.par (comb rs z) (Ring.orM (gD rows i))=true:=by
   rw[lG,oN xN fun k hk hne=>?_]
   ·rw[hi,Bool.true_and,List.getD_eq_getElem?_getD,hb];show N.par b _=true;rw[mk i b hb];exact decide_eq_true rfl
   ·have hc:rs[k]?=some rs[k]:=List.getElem?_eq_getElem hk;rw[List.getD_eq_getElem?_getD,hc];show(_&&N.par rs[k] _)=false;rw[mk k _ hc,decide_eq_false (fun z=>hne z.symm),Bool.and_false]
  obtain⟨c,hc,h1,h2⟩:=h.2 _ _ hr hl e;obtain⟨j,hj⟩:=List.getElem?_of_mem hc;rw[mk j c hj]at h1;have h1:=of_decide_eq_true h1;subst h1;rw[hb]at hj;rw[Option.some.inj hj];exact h2
 generalize hx:len N L (comb rs z)=x at key ⊢;clear hx hr hl hw h
 suffices hh:∀ i,Sp (rs.filter fun b=>decide (len N L b<=x)) (comb (rs.take i) z) by
  have:=hh rs.length
  rwa [List.take_length]at this
 intro i
 induction i with
 | zero=>rw[List.take_zero];exact .zero
 | succ i ih =>
   cases hb:rs[i]? with
   | none=>rw[List.take_add_one,hb,Option.toList_none,List.append_nil];exact ih
   | some b =>
     rw[List.take_add_one,hb,Option.toList_some,gf];have hl:(rs.take i).length=i:=List.length_take_of_le (Nat.le_of_lt (List.getElem?_eq_some_iff.mp hb).1);rw[hl]
     split
     ·rename_i hi
      exact ih.xor (.mem (List.mem_filter.mpr ⟨List.mem_of_getElem? hb,decide_eq_true (key i b hb hi)⟩))
     ·rw[Nat.xor_zero];exact ih
theorem Ah{A B:List Nat}{f:Nat->Int}(ha:A.Pairwise fun x y=>f x<=f y)(hb:B.Pairwise fun x y=>f x<=f y)(hi:wF B)(h:∀ b∈B,Sp (A.filter fun c=>decide (f c<=f b)) b):
 ∀(i a b:Nat),A[i]?=some a->B[i]?=some b->f a<=f b:=by
 intro i a b hA hB;apply Classical.byContradiction;intro hn;have hlt:f b<f a:=Int.not_le.mp hn;have mono:∀{C:List Nat} {i j x y:Nat},C.Pairwise (fun x y=>f x<=f y)->C[i]?=some x->C[j]?=some y->i<=j->f x<=f y:=fun {C i j x y} hp h1 h2 hij=>by
  obtain⟨l1,e1⟩:=List.getElem?_eq_some_iff.mp h1;obtain⟨l2,e2⟩:=List.getElem?_eq_some_iff.mp h2;rcases Nat.lt_or_eq_of_le hij with z|z
  ·rw[<-e1,<-e2];exact List.pairwise_iff_getElem.mp hp i j l1 l2 z
  ·subst z;rw[h1]at h2;rw[Option.some.inj h2];exact Int.le_refl _
 have xN:=(List.getElem?_eq_some_iff.mp hB).1;have e:=x9 (A:=A.take i) (IG hi (i+1)) fun c hc=>by
  obtain⟨j,hj⟩:=List.getElem?_of_mem hc;rw[List.getElem?_take]at hj
  split at hj
  ·rename_i hji
   refine(h c (List.mem_of_getElem? hj)).mono fun d hd=>?_
   obtain⟨hd,LI⟩:=List.mem_filter.mp hd;have LI:=of_decide_eq_true LI;have hcb:=mono hb hj hB (by lia)
   obtain⟨k,hk⟩:=List.getElem?_of_mem hd;refine .mem ?_;have hki:k<i:=by
    apply Classical.byContradiction;intro hge;have:=mono ha hA hk (by lia)
    lia
   exact List.mem_of_getElem? (i:=k) (by rw[List.getElem?_take,if_pos hki];exact hk)
  ·cases hj
 rw[List.length_take,List.length_take]at e
 lia
theorem II{A B:List Nat}{f:Nat->Int}(hl:A.length=B.length)(h:∀(i a b:Nat),A[i]?=some a->B[i]?=some b->f a<=f b)(h' : ∀(i a b:Nat),B[i]?=some a->A[i]?=some b->f a<=f b):A.map f=B.map f:=by
 refine List.ext_getElem (by rw[List.length_map,List.length_map,hl]) fun i a b=>?_
 rw[List.length_map]at a b;rw[List.getElem_map,List.getElem_map];exact Int.le_antisymm (h i _ _ (List.getElem?_eq_getElem a) (List.getElem?_eq_getElem b)) (h' i _ _ (List.getElem?_eq_getElem b) (List.getElem?_eq_getElem a))
end
section
variable {N:Net}
theorem Ld(m t:Nat):∀{n:Nat},t<n->m.testBit t=true->cnt (fun k=>m.testBit k && !decide (k=t)) n+1=cnt (fun k=>m.testBit k) n:=by
 intro n
 induction n with
 | zero=>exact fun h=>absurd h (Nat.not_lt_zero _)
 | succ n ih =>
   intro h hb;show cnt _ n+(if(m.testBit n && !decide (n=t))=true then 1 else 0)+1=cnt _ n+(if m.testBit n=true then 1 else 0)
   by_cases e:n=t
   ·subst e;rw[hb,decide_eq_true rfl];have:cnt (fun k=>m.testBit k && !decide (k=n)) n=cnt (fun k=>m.testBit k) n:=dW fun k hk=>by rw[decide_eq_false (by lia),Bool.not_false,Bool.and_true]
    rw[this];rfl
   ·have:=ih (by lia) hb
    rw[decide_eq_false e,Bool.not_false,Bool.and_true]
    lia
theorem B7{m:Nat}(hm:m<2^N.n)(r:N.Ring m):cnt (fun k=>m.testBit k) N.n+N.ay.length<=N.n+1:=by
 obtain⟨t,ht⟩:∃ t,m.testBit t=true:=by
  apply Classical.byContradiction;intro hn;exact r.1 (Nat.eq_of_testBit_eq fun k=>by
   rw[Nat.zero_testBit];cases h:m.testBit k with
   | false=>rfl
   | true=>exact absurd ⟨k,h⟩ hn)
 have LW:=bO hm ht;have h:=KZ (N:=N) (ks:=(List.range N.n).filter fun k=>!(m.testBit k && !decide (k=t))) fun q hq ev hz=>by
  have sub:∀ k,q.testBit k=true->m.testBit k=true/\k≠t:=fun k hk=>by
   have hkn:=bO hq hk;apply Classical.byContradiction;intro hn;have:=hz k (List.mem_filter.mpr ⟨List.mem_range.mpr hkn,by
    cases h1:m.testBit k with
    | false=>rfl
    | true =>
      by_cases e:k=t
      ·rw[decide_eq_true e];rfl
      ·exact absurd ⟨h1,e⟩ hn⟩)
   rw[this]at hk;cases hk
  rcases r.2.2 q (fun k hk=>(sub k hk).1) ev with e|e
  ·exact e
  ·exact absurd rfl (sub t (by rw[e];exact ht)).2
 rw[fY]at h;have h1:=i0 (fun k=>m.testBit k && !decide (k=t)) N.n
 have h2:=Ld m t LW ht
 lia
def Ai:Nat->Nat->Nat
 | 0,_=>0
 | n+1,z=>z%2+Ai n (z/2)
theorem uh{m:Nat}:∀ cs:List Nat,Ai cs.length (code m cs)=(cs.filter fun c=>m.testBit c).length
 | []=>rfl
 | c::cs=>by
   have ih:=uh (m:=m) cs;unfold code;show((if m.testBit c=true then 1 else 0)+2*code m cs)%2+Ai cs.length (((if m.testBit c=true then 1 else 0)+2*code m cs)/2)=_
   cases h:m.testBit c with
   | true =>
     rw[if_pos rfl,List.filter_cons,if_pos h,List.length_cons,<-ih];have e1:(1+2*code m cs)%2=1:=by lia
     have e2:(1+2*code m cs)/2=code m cs:=by lia
     rw[e1,e2,Nat.add_comm]
   | false =>
     rw[if_neg Bool.false_ne_true,List.filter_cons,if_neg (by rw[h];decide),<-ih]
     have e1:(0+2*code m cs)%2=0:=by lia
     have e2:(0+2*code m cs)/2=code m cs:=by lia
     rw[e1,e2,Nat.zero_add]
theorem EX{r f:Nat}(h:r+f<=9)(hr:7<=r):((List.range (2^r)).filter fun z=>decide (Ai r z<=f+1)&&decide (z≠0)).length<64:=by
 have h1:r=7\/r=8\/r=9:=by lia
 rcases h1 with rfl|rfl|rfl
 ·have hf:f=0\/f=1\/f=2:=by lia
  rcases hf with rfl|rfl|rfl<;>decide +kernel
 ·have hf:f=0\/f=1:=by lia
  rcases hf with rfl|rfl<;>decide +kernel
 ·have hf:f=0:=by lia
  rcases hf with rfl
  decide +kernel
theorem um(hn:N.n<=9){l:List Nat}(nd:l.Nodup)(h:∀ m∈l,m<2^N.n/\N.Ring m):l.length<64:=by
 by_cases h6:N.ay.length<=6
 ·exact Nat.lt_of_lt_of_le (EH nd h) (Nat.pow_le_pow_right (n:=2) (by decide) h6)
 have cl:N.ay.length<=N.n:=by
  have h1:N.ay.length<=(List.range N.n).length:=List.length_filter_le ..
  rwa [List.length_range]at h1
 have inj:∀ m q,m<2^N.n->q<2^N.n->N.bS m->N.bS q->code m N.ay=code q N.ay->m=q:=fun m q hm hq em eq e=>gJ hm hq em eq fun c hc hf=>code_inj e c (aR.mpr ⟨hc,hf⟩)
 have Tt:(l.map fun m=>code m N.ay).Nodup:=by
  refine List.Pairwise.map _ (fun a b (hab:a≠b/\a∈l/\b∈l)=>?_) ?_ (R:=fun a b=>a≠b/\a∈l/\b∈l)
  ·obtain⟨h1,h2⟩:=h a hab.2.1;obtain⟨h3,h4⟩:=h b hab.2.2;exact fun e=>hab.1 (inj a b h1 h3 h2.2.1 h4.2.1 e)
  ·exact List.Pairwise.imp_of_mem (fun {a b} ha hb hne=>⟨hne,ha,hb⟩) nd
 have z0:∀ cs,code 0 cs=0:=fun cs=>by
  induction cs with
  | nil=>rfl
  | cons c cs ih =>
    unfold code;rw[Nat.zero_testBit,ih,if_neg Bool.false_ne_true]
 have:=pV (L:=(List.range (2^N.ay.length)).filter fun z=>decide (Ai N.ay.length z<=(N.n-N.ay.length)+1)&&decide (z≠0)) Tt fun x hx=>by
  obtain⟨m,hm,rfl⟩:=List.mem_map.mp hx;obtain⟨h1,h2⟩:=h m hm;refine List.mem_filter.mpr ⟨List.mem_range.mpr (xP _ _),Bool.and_eq_true_iff.mpr ⟨decide_eq_true ?_,decide_eq_true fun e=>h2.1 (inj m 0 h1 (Nat.two_pow_pos _) h2.2.1 bS.zero (by rw[e,z0]))⟩⟩
  rw[uh];have h3:=B7 h1 h2;have h4:(N.ay.filter fun c=>m.testBit c).length<=cnt (fun k=>m.testBit k) N.n:=by
   unfold Net.ay;rw[List.filter_filter,fY];exact xH fun k _ h=>(Bool.and_eq_true_iff.mp h).1
  lia
 rw[List.length_map]at this;exact Nat.lt_of_le_of_lt this (EX (by lia) (by lia))
end
inductive sj:List Nat->List Nat->Prop
 | nil:sj [] []
 | skip {B C:List Nat} {b:Nat} (h:sj B C) (hs:Sp B b):sj (B++[b]) C
 | put {B C:List Nat} {b:Nat} (h:sj B C) (hs : ¬ Sp B b):sj (B++[b]) (C++[b])
theorem oO{B B' : List Nat}{b b' : Nat}(h:B++[b]=B'++[b']):B=B'/\b=b':=by
 have:=List.append_inj' h rfl;exact⟨this.1,by simpa using this.2⟩
theorem sj.uniq{B C:List Nat}(h:sj B C):∀{B' C' : List Nat},sj B' C'->B=B'->C=C':=by
 induction h with
 | nil =>
   intro B' C' h' e;cases h' with
   | nil=>rfl
   | skip _ _=>exact absurd e (by simp)
   | put _ _=>exact absurd e (by simp)
 | skip h hs ih =>
   intro B' C' h' e;cases h' with
   | nil=>exact absurd e (by simp)
   | skip h' hs'=>obtain⟨e1,e2⟩:=oO e;exact ih h' e1
   | put h' hs'=>obtain⟨e1,e2⟩:=oO e;subst e1;subst e2;exact absurd hs hs'
 | put h hs ih =>
   intro B' C' h' e;cases h' with
   | nil=>exact absurd e (by simp)
   | skip h' hs'=>obtain⟨e1,e2⟩:=oO e;subst e1;subst e2;exact absurd hs' hs
   | put h' hs'=>obtain⟨e1,e2⟩:=oO e;subst e2;rw[ih h' e1]
theorem sj.sub{B C:List Nat}(h:sj B C):C.Sublist B:=by
 induction h with
 | nil=>exact .slnil
 | skip h hs ih=>exact ih.trans (List.sublist_append_left _ _)
 | put h hs ih=>exact List.Sublist.append ih (List.Sublist.refl _)
theorem sj.sp{B C:List Nat}(h:sj B C):∀ x,Sp C x↔Sp B x:=by
 induction h with
 | nil=>exact fun _=>Iff.rfl
 | skip h hs ih =>
   intro x;rw[ih];refine⟨fun z=>z.mono fun c hc=>.mem (List.mem_append_left _ hc),fun z=>z.mono fun c hc=>?_⟩
   rcases List.mem_append.mp hc with hc|hc
   ·exact .mem hc
   ·rw[List.mem_singleton.mp hc];exact hs
 | put h hs ih =>
   intro x;refine⟨fun z=>z.mono fun c hc=>?_,fun z=>z.mono fun c hc=>?_⟩
   ·rcases List.mem_append.mp hc with hc|hc
    ·exact((ih c).mp (.mem hc)).mono fun d hd=>.mem (List.mem_append_left _ hd)
    ·exact .mem (List.mem_append_right _ hc)
   ·rcases List.mem_append.mp hc with hc|hc
    ·exact((ih c).mpr (.mem hc)).mono fun d hd=>.mem (List.mem_append_left _ hd)
    ·exact .mem (List.mem_append_right _ hc)
theorem sj.ind{B C:List Nat}(h:sj B C):wF C:=by
 induction h with
 | nil=>exact(xT _).mpr fun i b hb=>by simp at hb
 | skip h hs ih=>exact ih
 | put h hs ih=>exact lC.mpr ⟨ih,fun z=>hs ((h.sp _).mp z)⟩
theorem sj.parts{f:Nat->Int}{B C:List Nat}(h:sj B C):B.Pairwise (fun x y=>f x<=f y)->∀ b∈B,Sp (C.filter fun c=>decide (f c<=f b)) b:=by
 have all:∀{B C:List Nat} {b:Nat},sj B C->(∀ c∈B,f c<=f b)->C.filter (fun c=>decide (f c<=f b))=C:=fun {B C b} h hb=>by
  refine List.filter_eq_self.mpr fun c hc=>decide_eq_true (hb c (h.sub.mem hc))
 induction h with
 | nil=>exact fun _ b hb=>by cases hb
 | @skip B C b h hs ih =>
   intro pw x hx;obtain⟨p1,_,p2⟩:=List.pairwise_append.mp pw;rcases List.mem_append.mp hx with hx|hx
   ·exact ih p1 x hx
   ·rw[List.mem_singleton.mp hx,all h fun c hc=>p2 c hc b (by simp)]
    exact(h.sp _).mpr hs
 | @put B C b h hs ih =>
   intro pw x hx;obtain⟨p1,_,p2⟩:=List.pairwise_append.mp pw;rcases List.mem_append.mp hx with hx|hx
   ·refine(ih p1 x hx).mono fun c hc=>.mem ?_
    rw[List.filter_append];exact List.mem_append_left _ hc
   ·rw[List.mem_singleton.mp hx];refine .mem (List.mem_filter.mpr ⟨List.mem_append_right _ (by simp),decide_eq_true (Int.le_refl _)⟩)
section
variable {N:Net}
def uo(N:Net)(j:Nat):List Nat:=(List.range (2^j)).map fun z=>N.cQ z N.ay 0
theorem IJ:uo N 0=[0]:=by
 unfold uo;show[N.cQ 0 N.ay 0]=[0];rw[KY]
theorem NJ{j c:Nat}(h:N.ay[j]?=some c):N.cQ (2^j) N.ay 0=N.ring c:=by
 have hc:=aR.mp (List.mem_of_getElem? h);have e1:=fG (N:=N) (z:=2^j);have hr:=mz hc.1 hc.2;have hl:N.ring c<2^N.n:=bZ fun k hk=>by
  rcases iL hk with z|z
  ·rw[z];exact hc.1
  ·exact z.1
 refine gJ e1.2 hl e1.1 hr.2.1 fun d hd hf=>?_
 obtain⟨i,hi⟩:=tN hd hf;rw[jY hi,dM hc.2 hf,Nat.testBit_two_pow];refine decide_eq_decide.mpr ⟨fun e=>?_,fun e=>?_⟩
 ·subst e;rw[h]at hi;exact Option.some.inj hi
 ·subst e;obtain⟨a1,a2⟩:=List.getElem?_eq_some_iff.mp h;obtain⟨b1,b2⟩:=List.getElem?_eq_some_iff.mp hi;exact(List.getElem_inj my).mp (a2.trans b2.symm)
theorem IK{j c:Nat}(h:N.ay[j]?=some c):uo N (j+1)=uo N j++(uo N j).map fun e=>e^^^N.ring c:=by
 unfold uo;have e:(2:Nat)^(j+1)=2^j+2^j:=by rw[Nat.pow_succ];lia
 rw[e,List.range_add,List.map_append,List.map_map,List.map_map]
 congr 1
 refine List.map_congr_left fun z hz=>?_
 have hz:=List.mem_range.mp hz;show N.cQ (2^j+z) N.ay 0=N.cQ z N.ay 0^^^N.ring c;rw[<-NJ h,<-BP]
 congr 1
 have e0:=Nat.two_pow_add_eq_or_of_lt hz 1;rw[Nat.mul_one]at e0;rw[Nat.xor_comm,e0];refine Nat.eq_of_testBit_eq fun i=>?_
 rw[Nat.testBit_or,Nat.testBit_xor,Nat.testBit_two_pow]
 by_cases hi:j=i
 ·subst hi;rw[Nat.testBit_lt_two_pow hz,decide_eq_true rfl];rfl
 ·rw[decide_eq_false hi,Bool.false_or,Bool.false_xor]
theorem DN{m:Nat}:m∈uo N N.ay.length↔N.bS m/\m<2^N.n:=by
 unfold uo;rw[List.mem_map]
 constructor
 ·rintro⟨z,_,rfl⟩;exact fG
 ·rintro⟨h1,h2⟩;obtain⟨z,hz,e⟩:=Nj h2 h1;exact⟨z,List.mem_range.mpr hz,e⟩
theorem EY:(uo N N.ay.length).Nodup:=by
 unfold uo;refine List.pairwise_map.mpr (List.Pairwise.imp_of_mem (fun {z y} hz hy h e=>?_) List.pairwise_lt_range)
 have:=xS h (List.mem_range.mp hy)
 lia
theorem EZ(h:0<N.n):N.ay.length<N.n:=by
 have h0:N.iW 0=true:=by
  have e:decide (N.dI 0 (N.a 0)=N.dI 0 (N.b 0))=false:=decide_eq_false (N.ne 0 h);show(!decide (N.dI 0 (N.a 0)=N.dI 0 (N.b 0)))=true;rw[e];rfl
 have h1:N.ay.length<(List.range N.n).length:=List.length_filter_lt_length_iff_exists.mpr ⟨0,List.mem_range.mpr h,by rw[h0];decide⟩
 rwa [List.length_range]at h1
theorem sj.base{l C:List Nat}(h:sj l C)(hl:∀ r,r∈l↔r<2^N.n/\N.Ring r):Base N C:=by
 have hc:∀ c∈C,N.Ring c/\c<2^N.n:=fun c hc=>((hl c).mp (h.sub.mem hc)).symm
 refine⟨Nat.le_antisymm (HX h.ind fun b hb=>⟨(hc b hb).1.2.1,(hc b hb).2⟩) ?_,hc,h.ind⟩
 have hs:∀ z,∃ y,y<2^C.length/\comb C y=N.cQ z N.ay 0:=fun z=>by
  refine oH ((h.sp _).mpr ?_);have ev:=fG (N:=N) (z:=z);rw[<-EK ev.2 ev.1];have go:∀ ks:List Nat,(∀ k∈ks,k<N.n/\N.iW k=false)->Sp l (Ring.xorL (ks.map N.ring)):=fun ks=>by
   induction ks with
   | nil=>exact fun _=>.zero
   | cons k ks ih =>
     intro hk;rw[List.map_cons,Ring.xorL_cons,Nat.xor_comm];have h1:=hk k List.mem_cons_self;refine(ih fun j hj=>hk j (List.mem_cons_of_mem _ hj)).xor (.mem ((hl _).mpr ⟨?_,mz h1.1 h1.2⟩))
     exact bZ fun j hj=>by
      rcases iL hj with z|z
      ·rw[z];exact h1.1
      ·exact z.1
  exact go _ fun k hk=>aR.mp (List.mem_filter.mp hk).1
 refine r6 (f:=fun z=>Classical.choose (hs z)) (fun z _=>(Classical.choose_spec (hs z)).1) fun z y hz hy e=>?_
 have e:Classical.choose (hs z)=Classical.choose (hs y):=e;have e2:N.cQ z N.ay 0=N.cQ y N.ay 0:=by rw[<-(Classical.choose_spec (hs z)).2,<-(Classical.choose_spec (hs y)).2,e]
 rcases Nat.lt_trichotomy z y with h|h|h
 ·have:=xS h hy;lia
 ·exact h
 ·have:=xS h hz;lia
end
end RM
namespace L2
open PySem
theorem gh{lo:Int}{n:Nat}{g:TG}{tb:TS}{D:Ends}{σ:St}{H:Hp}(Pv:Nat->St->Hp->Prop)(h0:Pv 0 σ H)
 (hs:∀ i,let D' : Ends:={ D with nx:=Pv (i+1),ct:=Pv (i+1),bk:=D.nx};∀ σ H,i<n->Pv i σ H->g (.int (lo+i)) σ H fun σ2 H2=>tb D' σ2 H2) (hd:∀ σ H,Pv n σ H->D.nx σ H) :
 ∃ W:Nat->Nat->St->Hp->Prop,(∃ m,W 0 m σ H)/\∀ i m σ H,W i m σ H->
   ((Gu lo n).stop i H/\D.nx σ H)\/((Gu lo n).go i H/\∃ N:St->Hp->Prop,(∀ σ' H',N σ' H'->∃ m',m'<m/\W (i+1) m' σ' H')/\∀ x H',(Gu lo n).JA i H x H'->g x σ H' fun σ2 H2=>tb { D with nx:=N,ct:=N,bk:=D.nx} σ2 H2) :=
 D7 Pv h0 (fun i σ H hi p=>hs i σ H hi p) hd
theorem dm{K:bJ}{a:Addr}{xs:List V}{g:TG}{tb:TS}{D:Ends}{σ:St}{H:Hp}(Pv:Nat->St->Hp->Prop)(h0:Pv 0 σ H)(hl:∀ i σ H,i<=xs.length->Pv i σ H->aL K H a xs)
 (hs:∀ i x,let D' : Ends:={ D with nx:=Pv (i+1),ct:=Pv (i+1),bk:=D.nx};∀ σ H,xs[i]?=some x->Pv i σ H->g x σ H fun σ2 H2=>tb D' σ2 H2) (hd:∀ σ H,Pv xs.length σ H->D.nx σ H) :
 ∃ W:Nat->Nat->St->Hp->Prop,(∃ m,W 0 m σ H)/\∀ i m σ H,W i m σ H->
   ((JS K a).stop i H/\D.nx σ H)\/((JS K a).go i H/\∃ N:St->Hp->Prop,(∀ σ' H',N σ' H'->∃ m',m'<m/\W (i+1) m' σ' H')/\∀ x H',(JS K a).JA i H x H'->g x σ H' fun σ2 H2=>tb { D with nx:=N,ct:=N,bk:=D.nx} σ2 H2) :=
 sF Pv h0 hl (fun i x σ H hi p=>hs i x σ H hi p) hd
theorem Gf{X:Cx}{e:Expr}{T:String}{r:V->List V->Hp->VK->Prop}{to:TE}{t:TA}(K:bJ)(p:PE X e (SN X.K T r to t))(h:X.K=K:=by rfl):PE X e (SN K T r to t):=by subst h;exact p
theorem cy{K:bJ}{H:Hp}{a:Addr}{xs:List V}{k:Int}{v:V}{R:V->Prop}(hs:aV K H a xs)(ha:Gb xs k=some v)(q:R v):∃ p ys k' w,V.ref a = .ref p/\V.int k = .int k'/\aV K H p ys/\Gb ys k' = some w/\R w:=⟨a,xs,k,v,rfl,rfl,hs,ha,q⟩
theorem ju{K:bJ}{H:Hp}{a:Addr}{xs:List V}{k:Int}{v:V}{R:V->Prop}(hs:aL K H a xs)(ha:Gb xs k=some v)(q:R v):∃ p ys k' w,V.ref a = .ref p/\V.int k = .int k'/\aL K H p ys/\Gb ys k' = some w/\R w:=⟨a,xs,k,v,rfl,rfl,hs,ha,q⟩
theorem cj{i j:Int}{R:Int->Int->Prop}(h:R i j):∃ i' j',V.int i = .int i'/\V.int j = .int j'/\R i' j':=⟨i,j,rfl,rfl,h⟩
theorem qa{K:bJ}{H:Hp}{a:Addr}{xs:List V}{E:Addr->Prop}{R:List V->Prop}(e:E a)(h:aL K H a xs\/aV K H a xs)(q:R xs):∃ p ys,E p/\(aL K H p ys\/aV K H p ys)/\R ys:=⟨a,xs,e,h,q⟩
theorem au{α:Type}{A R:α->Prop}{x:α}(h:A x)(r:R x):∃ x,A x/\R x:=⟨x,h,r⟩
open PySem PySem.Spec PyProof.Rows
section
variable {K:bJ}{mg:kU}{x:Str}{st:Stmt}{f c0 p0:Addr}{fd:FuncData}{ps:List Str}{h:Heap}
structure Dc(K:bJ)(mg:kU)(x:Str)(f:Addr)(fd:FuncData)(ps:List Str):Prop where
 m:mg x=some (.ref f)
 k:PySem.W.keepIn K (.ref f)=true
 b:Binds K fd ps []
structure Dk(K:bJ)(x:Str)(st:Stmt)(f:Addr)(fd:FuncData):Prop where
 F:Kf K x x st f fd
 n:PySem.W.nsIn K mainGlobals x=some (some (.ref f))
structure NK(K:bJ)(x:Str)(st:Stmt)(f:Addr)(fd:FuncData)(c0 p0:Addr):Prop where
 F:BY K x x st f fd c0 p0
 n:PySem.W.nsIn K mainGlobals x=some (some (.ref f))
structure Dn(K:bJ)(mg:kU)(x:Str)(st:Stmt)(f:Addr)(fd:FuncData)(ps:List Str):Prop where
 F:Kf K x x st f fd
 c:Dc K mg x f fd ps
structure L4(K:bJ)(mg:kU)(x:Str)(st:Stmt)(f:Addr)(fd:FuncData)(ps:List Str)(c0 p0:Addr):Prop where
 F:BY K x x st f fd c0 p0
 c:Dc K mg x f fd ps
theorem dk{oc:Value}{od an:Option Addr}{osl:Array (Option Value)}{kV doc pm cdv ct:Value}(a:PySem.W.nsIn K mainGlobals x=some (some (.ref f)))
 (l:K.lookup f=some ⟨oc,od,.func (PySem.W.fnOf x x (dG st) (bV st) (ah st) .none kV doc pm an cdv ct),osl⟩) (c:PySem.W.codeIn K cdv x=true) (k:PySem.W.keepIn K (.ref f)=true) :
 Dk K x st f (PySem.W.fnOf x x (dG st) (bV st) (ah st) .none kV doc pm an cdv ct):=⟨MG l c k,a⟩
theorem Yj{oc:Value}{od an:Option Addr}{osl:Array (Option Value)}{kV doc pm ct:Value}(a:PySem.W.nsIn K mainGlobals x=some (some (.ref f)))
 (l:K.lookup f=some ⟨oc,od,.func (PySem.W.fnOf x x (dG st) (bV st) (ah st) .none kV doc pm an (.ref c0) ct),osl⟩) (c:PySem.W.codeIn K (.ref c0) x=true) (k:PySem.W.keepIn K (.ref f)=true) (d:PySem.W.codeHdIn K c0 p0=true) :
 NK K x st f (PySem.W.fnOf x x (dG st) (bV st) (ah st) .none kV doc pm an (.ref c0) ct) c0 p0:=⟨K9 l c k d,a⟩
structure Ng(K:bJ)(x:Str):Prop where
 n:PySem.W.nsIn K mainGlobals x=some none
def Bn(x:Str)(st:Stmt)(ps:List Str)(us:List Value):Prop:=∀(kV doc pm:Value) (an:Option Addr) (cdv ct:Value),bindArgs (PySem.W.fnOf x x (dG st) (bV st) (ah st) .none kV doc pm an cdv ct) ⟨us,[]⟩=pure (ps.zip us)
theorem L5(h:∀ us:List Value,us.length=ps.length->Bn x st ps us)(kV doc pm:Value)(an:Option Addr)(cdv ct:Value)(us:List Value)(hl:us.length=ps.length):
 bindArgs (PySem.W.fnOf x x (dG st) (bV st) (ah st) .none kV doc pm an cdv ct) ⟨us,[]⟩=pure (ps.zip us):=h us hl kV doc pm an cdv ct
theorem Dk.dn(X:K.In h)(G:h.Ns mainGlobals mg)(D:Dk K x st f fd)(hb:∀ us:List Value,us.length=ps.length->Bn x st ps us):Dn K mg x st f fd ps:=⟨D.F,PySem.W.mg_of X G D.n,D.F.kp,D.F.binds (L5 hb)⟩
theorem NK.dn(X:K.In h)(G:h.Ns mainGlobals mg)(D:NK K x st f fd c0 p0)(hb:∀ us:List Value,us.length=ps.length->Bn x st ps us):L4 K mg x st f fd ps c0 p0:=⟨D.F,PySem.W.mg_of X G D.n,D.F.kp,D.F.binds (L5 hb)⟩
theorem Yk{y:Str}(h:∀ a,Bn x st [y] [a])(us:List Value)(hl:us.length=[y].length):Bn x st [y] us:=by obtain⟨_,rfl⟩:=S8 us hl;exact h _
theorem Vu{y z:Str}(h:∀ a b,Bn x st [y,z] [a,b])(us:List Value)(hl:us.length=[y,z].length):Bn x st [y,z] us:=by obtain⟨_,_,rfl⟩:=S9 us hl;exact h _ _
theorem Vv{y z u:Str}(h:∀ a b c,Bn x st [y,z,u] [a,b,c])(us:List Value)(hl:us.length=[y,z,u].length):Bn x st [y,z,u] us:=by obtain⟨_,_,_,rfl⟩:=Tc us hl;exact h _ _ _
theorem wR{y:Str}(X:K.In h)(G:h.Ns mainGlobals mg)(D:Dk K x st f fd)(e:∀ a,Bn x st [y] [a]:=by intros;exact fun _ _ _ _ _ _=>rfl):Dn K mg x st f fd [y]:=D.dn X G (Yk e)
theorem m7{y z:Str}(X:K.In h)(G:h.Ns mainGlobals mg)(D:Dk K x st f fd)(e:∀ a b,Bn x st [y,z] [a,b]:=by intros;exact fun _ _ _ _ _ _=>rfl):Dn K mg x st f fd [y,z]:=D.dn X G (Vu e)
theorem RX{y z u:Str}(X:K.In h)(G:h.Ns mainGlobals mg)(D:Dk K x st f fd)(e:∀ a b c,Bn x st [y,z,u] [a,b,c]:=by intros;exact fun _ _ _ _ _ _=>rfl):Dn K mg x st f fd [y,z,u]:=D.dn X G (Vv e)
theorem Yl{y z:Str}(X:K.In h)(G:h.Ns mainGlobals mg)(D:NK K x st f fd c0 p0)(e:∀ a b,Bn x st [y,z] [a,b]:=by intros;exact fun _ _ _ _ _ _=>rfl):L4 K mg x st f fd [y,z] c0 p0:=D.dn X G (Vu e)
theorem Ym{y z u:Str}(X:K.In h)(G:h.Ns mainGlobals mg)(D:NK K x st f fd c0 p0)(e:∀ a b c,Bn x st [y,z,u] [a,b,c]:=by intros;exact fun _ _ _ _ _ _=>rfl):L4 K mg x st f fd [y,z,u] c0 p0:=D.dn X G (Vv e)
theorem Dn.ok{P:Program}{w:World}{base:Heap}{N:List Str}{k:Nat}{sp:Sp}(D:Dn K mg x st f fd ps)(S:aE N ps (ah st))
 (hbody:∀(cdv:Value) (A:Around) (outer:List Env) (s:Shared) (H:Hp) (vs:List V) (Q:VK) (E:XK),eM k (A.deeper (envOfC x (ah st) s.heap.objs.size f cdv))->sp vs H Q E->
  ∃ t,vE (rB C8 P w K mg base N x (ah st) f cdv A outer s H E).A9 (bV st) t/\t { nx:=fun _ H'=>Q .dR H',rt:=Q} (start N vs) H)
 (len:∀ vs H Q E,sp vs H Q E->vs.length=ps.length:=by
  intro vs H Q E h
  first
  | (obtain⟨_,rfl,_⟩:=h;rfl)
  | (obtain⟨_,_,rfl,_⟩:=h;rfl)
  | (obtain⟨_,_,_,rfl,_⟩:=h;rfl)
  | (obtain⟨_,_,_,_,rfl,_⟩:=h;rfl)
  | (obtain⟨_,_,_,_,_,rfl,_⟩:=h;rfl)
  | (obtain⟨_,_,_,_,_,_,rfl,_⟩:=h;rfl)
  | (obtain⟨_,_,_,_,_,_,_,rfl,_⟩:=h;rfl)
  | (obtain⟨_,_,_,_,_,_,_,_,rfl,_⟩:=h;rfl)
  | (obtain⟨_,_,_,_,_,_,_,_,_,rfl,_⟩:=h;rfl)):k6 P w K mg base C8 (k+1) f fd ps sp:=D.F.ok S len hbody
theorem L4.ok{P:Program}{w:World}{base:Heap}{N:List Str}{k:Nat}{sp:Sp}(D:L4 K mg x st f fd ps c0 p0)(S:aE N ps (ah st))
 (hbody:∀(A:Around) (outer:List Env) (s:Shared) (H:Hp) (vs:List V) (Q:VK) (E:XK),eM k (A.deeper (envOfC x (ah st) s.heap.objs.size f (.ref c0)))->sp vs H Q E->
  ∃ t,vE (rB C8 P w K mg base N x (ah st) f (.ref c0) A outer s H E).A9 (bV st) t/\t { nx:=fun _ H'=>Q .dR H',rt:=Q} (start N vs) H)
 (len:∀ vs H Q E,sp vs H Q E->vs.length=ps.length:=by
  intro vs H Q E h
  first
  | (obtain⟨_,rfl,_⟩:=h;rfl)
  | (obtain⟨_,_,rfl,_⟩:=h;rfl)
  | (obtain⟨_,_,_,rfl,_⟩:=h;rfl)
  | (obtain⟨_,_,_,_,rfl,_⟩:=h;rfl)
  | (obtain⟨_,_,_,_,_,rfl,_⟩:=h;rfl)
  | (obtain⟨_,_,_,_,_,_,rfl,_⟩:=h;rfl)
  | (obtain⟨_,_,_,_,_,_,_,rfl,_⟩:=h;rfl)
  | (obtain⟨_,_,_,_,_,_,_,_,rfl,_⟩:=h;rfl)
  | (obtain⟨_,_,_,_,_,_,_,_,_,rfl,_⟩:=h;rfl)):k6 P w K mg base C8 (k+1) f fd ps sp:=D.F.ok S len hbody
theorem Dn.Bv{P:Program}{w:World}{base:Heap}{N:List Str}{k:Nat}{sp:Sp}(D:Dn K mg x st f fd ps)(S:aE N ps (ah st))
 (hbody:∀(cdv:Value) (A:Around) (outer:List Env) (s:Shared) (H:Hp) (vs:List V) (Q:VK) (E:XK),eM k (A.deeper (envOfC x (ah st) s.heap.objs.size f cdv))->sp vs H Q E->
  ∃ t,vE (rB (GW P w) P w K mg base N x (ah st) f cdv A outer s H E) (bV st) t/\t { nx:=fun _ H'=>Q .dR H',rt:=Q} (start N vs) H)
 (len:∀ vs H Q E,sp vs H Q E->vs.length=ps.length:=by
  intro vs H Q E h
  first
  | (obtain⟨_,rfl,_⟩:=h;rfl)
  | (obtain⟨_,_,rfl,_⟩:=h;rfl)
  | (obtain⟨_,_,_,rfl,_⟩:=h;rfl)
  | (obtain⟨_,_,_,_,rfl,_⟩:=h;rfl)
  | (obtain⟨_,_,_,_,_,rfl,_⟩:=h;rfl)
  | (obtain⟨_,_,_,_,_,_,rfl,_⟩:=h;rfl)
  | (obtain⟨_,_,_,_,_,_,_,rfl,_⟩:=h;rfl)
  | (obtain⟨_,_,_,_,_,_,_,_,rfl,_⟩:=h;rfl)
  | (obtain⟨_,_,_,_,_,_,_,_,_,rfl,_⟩:=h;rfl)):k6 P w K mg base (GW P w) (k+1) f fd ps sp:=D.F.Bv S len hbody
theorem NL{y:Str}(D:Dk K x st f fd)(e:∀ a,Bn x st [y] [a]:=by intros;exact fun _ _ _ _ _ _=>rfl)(s:Shared)(v:Value):BindsTo s fd ⟨[v],[]⟩ [(y,v)]:=by
 obtain⟨oc,od,kV,doc,pm,an,cdv,ct,osl,rfl,lk,hcd⟩:=D.F.ex;exact .of_eq (e v kV doc pm an cdv ct)
end
section
variable {X:Cx}
theorem aI{CX:F9}{k r:Nat}{f:Addr}{fd:FuncData}{ps:List Str}{sp:Sp}{x:Str}{E:XK}{e:Expr}{es:List Expr}{t:TA}{p pos:Pos}
 (F:k6 X.prog X.w X.K X.mg X.base CX k f fd ps sp) (hr:eM r X.A) (D:Dc X.K X.mg x f fd ps) (hx:Passes CX X E) (ha:PA X (e::es) t) (hk:k<=r:=by decide) (hg:Gl X x:=by rfl)
 (hdb:(x==("__debug__":Str))=false:=by decide) (he:starEach (e::es) X.env=(false,eval e X.env)::starEach es X.env:=by rfl) (hpl:(backTo pos (starEach es X.env)).any (·.1)=false:=by rfl) :
 PE X (.Call (.Name x p) (e::es) [] pos) (LD sp [] E t):=JY F (hr.mono hk) hg D.m D.k D.b .nil hx ha hdb he hpl
theorem aG{a b:Expr}{ta tb:TE}{pos:Pos}{r:R2}(hr:Oj X r)(ha:PE X a ta)(hb:PE X b tb)(hs:C7 b:=by exact fun _ _=>rfl):PE X (.Subscript a b pos) (Pd r ta tb):=Po hr ha hb hs
theorem br{x:Str}{pos:Pos}(i:Nat)(hN:X.N.Nodup)(hi:X.N[i]?=some x:=by exact rfl)(hx:Loc X.env.scope x:=by exact Or.inl rfl)(hf:X.fn x=true\/X.env.scope.names.lookup x=some .local:=by first | exact .inl rfl | exact .inr rfl | assumption):PG X (.Name x pos) (Gs i):=xj hN hi hx hf
theorem Yn:jT X (compareOp .Is) (fun x y H Q=>∃ a b,x = .bl a/\y = .bl b/\Q (.bl (a==b)) H):=by
 intro pins s σ H x y v u Q I rx ry h;obtain⟨a,b,rfl,rfl,q⟩:=h;cases rx;cases ry;refine wpAny_is_plain rfl ⟨.bl _,H,I,?_,q⟩;cases a<;>cases b<;>rfl
end
end L2
set_option maxHeartbeats 4000000
namespace K34
open PySem L2 Ring
local macro_rules | `(tactic| trivial)=>`(tactic| exact⟨rfl,rfl,rfl,by decide +kernel,rfl,by decide +kernel,by decide +kernel⟩)
def top(i:Nat):Stmt:=PySem.Challenge.pw_ringbase_k34_first_bases.main.body.getD i (.Pass ⟨0,0,0,0⟩)
section
variable {gQ g8 iX mH wU Gg L6 Ox Oz RY Qy Qz QA QB QC QD:TS}{jQ OA:TT}{nL Vw:TI}{nM Vx:TG}{D:Ends}{σ:St}{H:Hp}
abbrev qb:Stmt:=top 7
theorem B8:aE ["tie_set","tie"] ["tie_set","tie"] (ah qb):=by trivial
abbrev mJ:Stmt:=top 8
theorem B9:aE ["tie_set"] ["tie_set"] (ah mJ):=by trivial
abbrev uq:Stmt:=top 9
theorem mK:aE ["web","ties","found","tie"] ["web","ties"] (ah uq):=by trivial
theorem wW(h:let cE:=gQ;let cR:=g8;let dZ:=iX;let fR:=(az (cH jQ dZ bE) cR);let iT:=(az (dS nL nM fR) cE);(az mH iT) D σ H):(az mH (az (dS nL nM (az (cH jQ iX bE) g8)) gQ)) D σ H:=h
abbrev nA:Stmt:=top 10
theorem Aj:aE ["web"] ["web"] (ah nA):=by trivial
abbrev ur:Stmt:=top 11
theorem E1:aE ["web","number"] ["web","number"] (ah ur):=by trivial
abbrev lH:Stmt:=top 12
theorem yb:aE ["web","tie_set"] ["web","tie_set"] (ah lH):=by trivial
theorem oQ(h:let cE:=gQ;(cH jQ cE bE) D σ H):(cH jQ gQ bE) D σ H:=h
abbrev hU:Stmt:=top 13
theorem u4:aE ["web","tie_set"] ["web","tie_set"] (ah hU):=by trivial
theorem gE(h:let cE:=gQ;(az g8 cE) D σ H):(az g8 gQ) D σ H:=h
abbrev jf:Stmt:=top 14
theorem yc:aE ["web","tie_set"] ["web","tie_set"] (ah jf):=by trivial
abbrev ia:Stmt:=top 15
theorem eU:aE ["web","tie_set","ends","one","other","length"] ["web","tie_set"] (ah ia):=by trivial
theorem m8(h:let cE:=gQ;let cR:=g8;let dZ:=(az iX cR);let fR:=(az (dS nL nM dZ) cE);(az mH fR) D σ H):(az mH (az (dS nL nM (az iX g8)) gQ)) D σ H:=h
abbrev ee:Stmt:=top 16
theorem fJ:aE ["leasts","one","other","low","high"] ["leasts","one","other"] (ah ee):=by trivial
theorem jg(h:let cE:=gQ;let cR:=(az g8 cE);(az iX cR) D σ H):(az iX (az g8 gQ)) D σ H:=h
abbrev oR:Stmt:=top 17
theorem fq:aE ["web","tie_set","leasts","one","other","length","found","start"] ["web","tie_set"] (ah oR):=by trivial
theorem E2(h:let cE:=gQ;let cR:=g8;let dZ:=(cH jQ cR bE);let fR:=(az (dS nL nM dZ) cE);let iT:=(az iX fR);let uv:=mH;let Ak:=(az (dS Vw Vx uv) iT);(az wU Ak) D σ H):(az wU (az (dS Vw Vx mH) (az iX (az (dS nL nM (cH jQ g8 bE)) gQ)))) D σ H:=h
abbrev Ca:Stmt:=top 18
theorem Le:aE ["web"] ["web"] (ah Ca):=by trivial
abbrev qf:Stmt:=top 20
theorem Cb:aE ["web","tie_set"] ["web","tie_set"] (ah qf):=by trivial
abbrev eX:Stmt:=top 21
theorem aY:aE ["web","leasts","trails","tie","one","other","bridge","moved"] ["web"] (ah eX):=by trivial
theorem qg(h:let cE:=gQ;let cR:=g8;let dZ:=(az iX cR);let fR:=(az mH dZ);let iT:=(az wU fR);let uv:=(cH jQ iT bE);let Ak:=(az Gg uv);let L7:=(az L6 Ak);let L8:=(az (dS nL nM L7) cE);let Ma:=(az Ox L8);(az Oz Ma) D σ H):(az Oz (az Ox (az (dS nL nM (az L6 (az Gg (cH jQ (az wU (az mH (az iX g8))) bE)))) gQ))) D σ H:=h
abbrev uw:Stmt:=top 22
theorem mL:aE ["web","found","trail"] ["web"] (ah uw):=by trivial
theorem E3(h:let cE:=gQ;let cR:=g8;let dZ:=(az (dS nL nM cR) cE);(az iX dZ) D σ H):(az iX (az (dS nL nM g8) gQ)) D σ H:=h
abbrev ux:Stmt:=top 23
theorem E4:aE ["web"] ["web"] (ah ux):=by trivial
abbrev jv:Stmt:=top 24
theorem lJ:aE ["web","trails","chord","tie"] ["web","trails","chord"] (ah jv):=by trivial
abbrev j6:Stmt:=top 25
theorem u6:aE ["web","tie"] ["web","tie"] (ah j6):=by trivial
theorem gF(h:let cE:=gQ;let cR:=g8;(az (cH jQ cR bE) cE) D σ H):(az (cH jQ g8 bE) gQ) D σ H:=h
abbrev mO:Stmt:=top 27
theorem uy:aE ["web","tie_set","touched"] ["web","tie_set"] (ah mO):=by trivial
theorem Cc(h:let cE:=gQ;let cR:=(az g8 cE);let dZ:=iX;(az (cH jQ dZ bE) cR) D σ H):(az (cH jQ iX bE) (az g8 gQ)) D σ H:=h
abbrev gi:Stmt:=top 28
theorem oU:aE ["web","number"] ["web","number"] (ah gi):=by trivial
abbrev jh:Stmt:=top 29
theorem yd:aE ["web","rings"] ["web","rings"] (ah jh):=by trivial
def cX:Pos:=⟨95,29,95,70⟩
abbrev uz:Stmt:=top 31
theorem E5:aE ["one","other"] ["one","other"] (ah uz):=by trivial
abbrev jw:Stmt:=top 32
theorem uA:aE ["tie_set","marks"] ["tie_set","marks"] (ah jw):=by trivial
abbrev qh:Stmt:=top 33
theorem j7:aE ["web","side","ahead","point"] ["web","side"] (ah qh):=by trivial
abbrev oW:Stmt:=top 34
theorem E6:aE ["web","side"] ["web","side"] (ah oW):=by trivial
abbrev mP:Stmt:=top 35
theorem j8:aE ["web","tie_set","trails","side","amiss"] ["web","tie_set"] (ah mP):=by trivial
theorem Cd(h:let cE:=gQ;let cR:=g8;let dZ:=(az (cH jQ cR bE) cE);let fR:=(az iX dZ);let iT:=(az mH fR);let uv:=(az wU iT);(az Gg uv) D σ H):(az Gg (az wU (az mH (az iX (az (cH jQ g8 bE) gQ))))) D σ H:=h
abbrev eg:Stmt:=top 37
theorem cF:aE ["web","marks","steps","tie","ends","turn"] ["web","marks"] (ah eg):=by trivial
theorem oX(h:let cE:=gQ;let cR:=g8;let dZ:=(az iX cR);let fR:=(az mH dZ);let iT:=(az (dS nL nM fR) cE);(az wU iT) D σ H):(az wU (az (dS nL nM (az mH (az iX g8))) gQ)) D σ H:=h
abbrev fK:Stmt:=top 38
theorem bA:aE ["web","marks","start","steps","found","waiting","nearest","way","tie","point","turn","part","further"] ["web","marks","start"] (ah fK):=by trivial
theorem u9(h:let cE:=gQ;let cR:=g8;let dZ:=(cH OA cR bE);let fR:=(az iX dZ);let iT:=(az mH fR);let uv:=(dS nL nM iT);let Ak:=(az wU uv);let L7:=(az Gg Ak);let L8:=(az L6 L7);let Ma:=(az (sE jQ L8) cE);let IL:=(az Ox Ma);let E7:=(az Oz IL);(az RY E7) D σ H):(az RY (az Oz (az Ox (az (sE jQ (az L6 (az Gg (az wU (dS nL nM (az mH (az iX (cH OA g8 bE)))))))) gQ)))) D σ H:=h
def cI:Pos:=⟨133,35,133,63⟩
abbrev gW:Stmt:=top 39
theorem qi:aE ["way"] ["way"] (ah gW):=by trivial
abbrev ez:Stmt:=top 40
theorem oY:aE ["ways"] ["ways"] (ah ez):=by trivial
abbrev eA:Stmt:=top 42
theorem oZ:aE ["web","marks"] ["web","marks"] (ah eA):=by trivial
abbrev eY:Stmt:=top 43
theorem qj:aE ["ways"] ["ways"] (ah eY):=by trivial
abbrev ji:Stmt:=top 44
theorem j9:aE ["web","marks","ways","rounds"] ["web","marks"] (ah ji):=by trivial
theorem ye(h:let cE:=gQ;let cR:=g8;let dZ:=(az (cH jQ cR bE) cE);let fR:=(az iX dZ);let iT:=(az mH fR);(az wU iT) D σ H):(az wU (az mH (az iX (az (cH jQ g8 bE) gQ)))) D σ H:=h
abbrev qk:Stmt:=top 46
theorem dO:aE ["rows","tie_set","left","used","lead","row","places"] ["rows","tie_set"] (ah qk):=by trivial
theorem Ce(h:let cE:=gQ;let cR:=g8;let dZ:=(az iX cR);let fR:=(cH jQ dZ bE);let iT:=(az (dS nL nM fR) cE);let uv:=(az mH iT);(az wU uv) D σ H):(az wU (az mH (az (dS nL nM (cH jQ (az iX g8) bE)) gQ))) D σ H:=h
abbrev nB:Stmt:=top 47
theorem lK:aE ["rows","added","found","old"] ["rows","added"] (ah nB):=by trivial
theorem Al(h:let cE:=gQ;let cR:=g8;let dZ:=iX;let fR:=(cH jQ cR dZ);let iT:=(az (dS nL nM fR) cE);(az mH iT) D σ H):(az mH (az (dS nL nM (cH jQ g8 iX)) gQ)) D σ H:=h
abbrev ql:Stmt:=top 48
theorem gj:aE ["sets","rows","place","tie_set","rest"] ["sets"] (ah ql):=by trivial
theorem Cf(h:let cE:=gQ;let cR:=g8;let dZ:=(cH jQ cR bE);let fR:=(az iX dZ);let iT:=(az (dS nL nM fR) cE);(az mH iT) D σ H):(az mH (az (dS nL nM (az iX (cH jQ g8 bE))) gQ)) D σ H:=h
abbrev mQ:Stmt:=top 49
theorem Cg:aE ["web","rings"] ["web","rings"] (ah mQ):=by trivial
abbrev eV:Stmt:=top 50
theorem cP:aE ["web","waiting","found","marks","ring"] ["web"] (ah eV):=by trivial
theorem uB(h:let cE:=gQ;let cR:=g8;let dZ:=(az iX cR);let fR:=(az mH dZ);let iT:=(az wU fR);let uv:=(az (sE jQ iT) cE);let Ak:=(az Gg uv);(az L6 Ak) D σ H):(az L6 (az Gg (az (sE jQ (az wU (az mH (az iX g8)))) gQ))) D σ H:=h
abbrev mR:Stmt:=top 51
theorem Ci:aE ["web"] ["web"] (ah mR):=by trivial
abbrev kc:Stmt:=top 54
theorem vc:aE ["web"] ["web"] (ah kc):=by trivial
abbrev jj:Stmt:=top 55
theorem fL:aE ["web","found","chord","ring"] ["web"] (ah jj):=by trivial
abbrev jk:Stmt:=top 56
theorem yf:aE ["web"] ["web"] (ah jk):=by trivial
abbrev kg:Stmt:=top 57
theorem jx:aE ["web","taken","ring"] ["web"] (ah kg):=by trivial
theorem m9(h:let cE:=gQ;let cR:=g8;let dZ:=(cH jQ cR bE);let fR:=(az (dS nL nM dZ) cE);(az iX fR) D σ H):(az iX (az (dS nL nM (cH jQ g8 bE)) gQ)) D σ H:=h
abbrev jy:Stmt:=top 59
theorem uC:aE ["script","k"] ["script","k"] (ah jy):=by trivial
abbrev lM:Stmt:=top 60
theorem kh:aE ["cell","k","near","stir"] ["cell","k"] (ah lM):=by trivial
abbrev ki:Stmt:=top 61
theorem vd:aE ["cell","way"] ["cell","way"] (ah ki):=by trivial
theorem ve(h:let cE:=gQ;let cR:=g8;let dZ:=(az (cH jQ cR bE) cE);let fR:=iX;(az (cH OA fR bE) dZ) D σ H):(az (cH OA iX bE) (az (cH jQ g8 bE) gQ)) D σ H:=h
abbrev qm:Stmt:=top 62
theorem kj:aE ["cell","points","way","one","other"] ["cell","points","way"] (ah qm):=by trivial
theorem Cj(h:let cE:=gQ;let cR:=(az g8 cE);let dZ:=(az iX cR);(az mH dZ) D σ H):(az mH (az iX (az g8 gQ))) D σ H:=h
abbrev gm:Stmt:=top 63
theorem bC:aE ["script","most","ranked","head","points","way","cells","ties","marks","free","cell","tie","joined","old"] ["script","most","ranked"] (ah gm):=by trivial
theorem Ck(h:let cE:=gQ;let cR:=g8;let dZ:=(az iX cR);let fR:=(az mH dZ);let iT:=(az wU fR);let uv:=(cH jQ iT bE);let Ak:=(az Gg uv);let L7:=(az L6 Ak);let L8:=(az (dS nL nM L7) cE);let Ma:=(az Ox L8);let IL:=(az Oz Ma);let E7:=(az RY IL);let QE:=Qy;let QF:=(az Qz QE);let QG:=(az (cH OA QF bE) E7);let QH:=(az QA QG);let QI:=(az QB QH);let QJ:=(az QC QI);(az QD QJ) D σ H):(az QD (az QC (az QB (az QA (az (cH OA (az Qz Qy) bE) (az RY (az Oz (az Ox (az (dS nL nM (az L6 (az Gg (cH jQ (az wU (az mH (az iX g8))) bE)))) gQ))))))))) D σ H:=h
abbrev lN:Stmt:=top 64
theorem yg:aE ["found"] ["found"] (ah lN):=by trivial
abbrev ko:Stmt:=top 65
theorem jz:aE ["web","some","counts","k"] ["web","some"] (ah ko):=by trivial
theorem nc(h:let cE:=gQ;let cR:=g8;let dZ:=(az iX cR);let fR:=(cH jQ dZ bE);let iT:=(az (dS nL nM fR) cE);(az mH iT) D σ H):(az mH (az (dS nL nM (cH jQ (az iX g8) bE)) gQ)) D σ H:=h
abbrev fM:Stmt:=top 66
theorem eW:aE ["web","some","marks","k","old"] ["web","some"] (ah fM):=by trivial
abbrev kq:Stmt:=top 68
theorem Am:aE ["web","some"] ["web","some"] (ah kq):=by trivial
abbrev iU:Stmt:=top 69
theorem rq:aE ["web","some","counts"] ["web","some"] (ah iU):=by trivial
theorem An(h:let cE:=gQ;let cR:=g8;let dZ:=(az (cH jQ cR bE) cE);(az iX dZ) D σ H):(az iX (az (cH jQ g8 bE) gQ)) D σ H:=h
abbrev kr:Stmt:=top 70
theorem Ao:aE ["web","some"] ["web","some"] (ah kr):=by trivial
abbrev lO:Stmt:=top 72
theorem ku:aE ["kept","some","one"] ["kept","some"] (ah lO):=by trivial
theorem yh(h:let cE:=gQ;let cR:=(az g8 cE);let dZ:=iX;let fR:=(az (cH jQ dZ bE) cR);let iT:=mH;(az (dS nL nM iT) fR) D σ H):(az (dS nL nM mH) (az (cH jQ iX bE) (az g8 gQ))) D σ H:=h
abbrev ic:Stmt:=top 73
theorem ng:aE ["sets","kept"] ["sets"] (ah ic):=by trivial
abbrev eZ:Stmt:=top 74
theorem gn:aE ["web","found","some"] ["web"] (ah eZ):=by trivial
abbrev Aq:Stmt:=top 75
theorem uD:aE ["script","web","due","turn","found"] ["script"] (ah Aq):=by trivial
theorem NO(h:let cE:=gQ;let cR:=g8;let dZ:=iX;let fR:=(az (cH jQ dZ bE) cR);let iT:=(az mH fR);let uv:=(az (dS nL nM iT) cE);let Ak:=(az wU uv);(az Gg Ak) D σ H):(az Gg (az wU (az (dS nL nM (az mH (az (cH jQ iX bE) g8))) gQ))) D σ H:=h
end
set_option genInjectivity false
set_option genSizeOf false
structure TY where
 E8:Addr
 E9:FuncData
 Fb:Addr
 Fc:FuncData
 IM:Addr
 IP:FuncData
 Cm:Addr
 Cn:FuncData
 IQ:Addr
 IS:FuncData
 Ar:Addr
 As:FuncData
 yi:Addr
 yj:FuncData
 Au:Addr
 Av:FuncData
 yk:Addr
 yl:FuncData
 qo:Addr
 qp:FuncData
 IT:Addr
 IU:FuncData
 NP:Addr
 NQ:FuncData
 Fd:Addr
 Fe:FuncData
 rH:Addr
 rJ:FuncData
 IV:Addr
 IW:FuncData
 IX:Addr
 IY:FuncData
 vf:Addr
 vg:FuncData
 ym:Addr
 yn:FuncData
 Ff:Addr
 Fg:FuncData
 qt:Addr
 qu:FuncData
 Aw:Addr
 Ax:FuncData
 IZ:Addr
 Ja:FuncData
 vh:Addr
 vj:FuncData
 Fi:Addr
 Fj:FuncData
 Jb:Addr
 Jc:FuncData
 Fl:Addr
 Fo:FuncData
 qv:Addr
 qw:FuncData
 yo:Addr
 yp:FuncData
 rK:Addr
 rL:FuncData
 qx:Addr
 qy:FuncData
 qz:Addr
 qA:FuncData
 rM:Addr
 rN:FuncData
 Ay:Addr
 Az:FuncData
 Fp:Addr
 Fq:FuncData
 Co:Addr
 Cp:FuncData
 Ft:Addr
 Fv:FuncData
 Fw:Addr
 Fy:FuncData
 vm:Addr
 vn:FuncData
 Fz:Addr
 FA:FuncData
 yq:Addr
 yr:FuncData
 AA:Addr
 AB:FuncData
 AD:Addr
 AE:FuncData
 yt:Addr
 yu:FuncData
 vo:Addr
 vp:FuncData
 AF:Addr
 AG:FuncData
 yv:Addr
 yw:FuncData
 FD:Addr
 FE:FuncData
 FF:Addr
 FG:FuncData
 AH:Addr
 AI:FuncData
 yx:Addr
 yy:FuncData
 yz:Addr
 yC:FuncData
 Cq:Addr
 Cr:FuncData
 Cs:Addr
 Ct:FuncData
 Cu:Addr
 Cv:FuncData
 AJ:Addr
 AK:FuncData
 yD:Addr
 yE:FuncData
 rO:Addr
 rP:FuncData
 QK:Addr
 QL:FuncData
 dP:Addr
 Cw:Addr
 qB:Addr
 jN:Addr
 AL:Addr
 dQ:Addr
 yF:Addr
 cY:Addr
structure Txt(P:Program)(w:World)(base:Heap)(K:bJ)(mg:kU)(a:TY):Prop where
 iz:Dn K mg "has_tie" qb a.E8 a.E9 ["tie_set","tie"]
 gp:Dn K mg "ties_in" mJ a.Fb a.Fc ["tie_set"]
 uE:Dn K mg "set_of" uq a.IM a.IP ["web","ties"]
 iV:Dn K mg "all_ties" nA a.Cm a.Cn ["web"]
 o4:Dn K mg "is_set" ur a.IQ a.IS ["web","number"]
 gO:Dn K mg "check_set" lH a.Ar a.As ["web","tie_set"]
 fN:Dn K mg "triples_in" hU a.yi a.yj ["web","tie_set"]
 jl:Dn K mg "length_of" jf a.Au a.Av ["web","tie_set"]
 kA:Dn K mg "odd_points" ia a.yk a.yl ["web","tie_set"]
 eB:Dn K mg "drawn_together" ee a.qo a.qp ["leasts","one","other"]
 o5:Dn K mg "pieces" oR a.IT a.IU ["web","tie_set"]
 yG:Dn K mg "rank" Ca a.NP a.NQ ["web"]
 qC:Dn K mg "is_even" qf a.Fd a.Fe ["web","tie_set"]
 c9:Dn K mg "forest_trails" eX a.rH a.rJ ["web"]
 uF:Dn K mg "forest" uw a.IV a.IW ["web"]
 lP:Dn K mg "chords" ux a.IX a.IY ["web"]
 jA:Dn K mg "ring_closed" jv a.vf a.vg ["web","trails","chord"]
 ie:Dn K mg "chord_ring" j6 a.ym a.yn ["web","tie"]
 mS:Dn K mg "is_ring" mO a.Ff a.Fg ["web","tie_set"]
 gq:Dn K mg "is_ring_number" gi a.qt a.qu ["web","number"]
 gP:L4 K mg "by_length" jh a.Aw a.Ax ["web","rings"] a.AL a.dQ
 uG:Dn K mg "common" uz a.IZ a.Ja ["one","other"]
 gG:Dn K mg "bears_oddly" jw a.vh a.vj ["tie_set","marks"]
 qD:Dn K mg "is_side" qh a.Fi a.Fj ["web","side"]
 uH:Dn K mg "cut_of" oW a.Jb a.Jc ["web","side"]
 qF:Dn K mg "side_of" mP a.Fl a.Fo ["web","tie_set"]
 gr:Dn K mg "steps_by_point" eg a.qv a.qw ["web","marks"]
 ig:L4 K mg "least_ways" fK a.yo a.yp ["web","marks","start"] a.yF a.cY
 e7:Dn K mg "length_of_way" gW a.rK a.rL ["way"]
 gv:Dn K mg "worths_of_ways" ez a.qx a.qy ["ways"]
 gw:Dn K mg "all_least_ways" eA a.qz a.qA ["web","marks"]
 gX:Dn K mg "worths_of_all" eY a.rM a.rN ["ways"]
 lQ:Dn K mg "least_odd" ji a.Ay a.Az ["web","marks"]
 mT:Dn K mg "reduced" qk a.Fp a.Fq ["rows","tie_set"]
 nC:Dn K mg "with_row" nB a.Co a.Cp ["rows","added"]
 mU:Dn K mg "rows_of" ql a.Ft a.Fv ["sets"]
 qG:Dn K mg "is_base" mQ a.Fw a.Fy ["web","rings"]
 jB:Dn K mg "least_rings" eV a.vm a.vn ["web"]
 qH:Dn K mg "lengths" mR a.Fz a.FA ["web"]
 kB:Dn K mg "check_rank" kc a.yq a.yr ["web"]
 lR:Dn K mg "even_sets" jj a.AA a.AB ["web"]
 lS:Dn K mg "all_rings" jk a.AD a.AE ["web"]
 kC:Dn K mg "first_base" kg a.yt a.yu ["web"]
 jC:Dn K mg "_law_cell_at" jy a.vo a.vp ["script","k"]
 jm:Dn K mg "_law_mixed" lM a.AF a.AG ["cell","k"]
 kD:Dn K mg "_law_length" ki a.yv a.yw ["cell","way"]
 qI:Dn K mg "_law_tie" qm a.FD a.FE ["cell","points","way"]
 qJ:Dn K mg "_law_web" gm a.FF a.FG ["script","most","ranked"]
 lT:Dn K mg "_law_whole" lN a.AH a.AI ["found"]
 ik:Dn K mg "_law_counts" ko a.yx a.yy ["web","some"]
 kE:Dn K mg "_law_pieces" fM a.yz a.yC ["web","some"]
 nE:Dn K mg "_law_even" kq a.Cq a.Cr ["web","some"]
 nF:Dn K mg "_law_ring" iU a.Cs a.Ct ["web","some"]
 kF:Dn K mg "_law_long" kr a.Cu a.Cv ["web","some"]
 lU:Dn K mg "_law_added" lO a.AJ a.AK ["kept","some"]
 kG:Dn K mg "_law_chosen" ic a.yD a.yE ["sets"]
 gY:Dn K mg "_law_all_rings" eZ a.rO a.rP ["web"]
 Mb:Dn K mg "law" Aq a.QK a.QL ["script"]
 Lf:mg "ValueError"=none
 QM:mg "all"=none
 NR:mg "bool"=none
 jn:mg "enumerate"=none
 DO:mg "int"=none
 kH:mg "isinstance"=none
 dc:mg "len"=none
 Cy:mg "list"=none
 Mc:mg "max"=none
 DQ:mg "min"=none
 bW:mg "range"=none
 QN:mg "set"=none
 AM:mg "sorted"=none
 Me:mg "sum"=none
 yH:mg "tuple"=none
 QO:mg "zip"=none
 AN:∃ t,mg "MOST_RANK"=some (.int 8 t)
 QS:mg "BadSet"=some (.ref a.dP)
 NS:mg "BadPoint"=some (.ref a.Cw)
 OB:mg "NoChord"=some (.ref a.qB)
 OD:mg "TooMany"=some (.ref a.jN)
 Jd:∀ h:Heap,K.In h->h.Ns mainGlobals mg->PyProof.Rows.OwnCls "BadSet" a.dP [.type "ValueError",.type "Exception",.type "BaseException",.type "object"] "ValueError.__new__" mg h
 FH:∀ h:Heap,K.In h->h.Ns mainGlobals mg->PyProof.Rows.OwnCls "NoChord" a.qB [.type "ValueError",.type "Exception",.type "BaseException",.type "object"] "ValueError.__new__" mg h
 FI:∀ h:Heap,K.In h->h.Ns mainGlobals mg->PyProof.Rows.OwnCls "TooMany" a.jN [.type "ValueError",.type "Exception",.type "BaseException",.type "object"] "ValueError.__new__" mg h
section
variable {P:Program}{w:World}{K:bJ}{mg:kU}{base:Heap}{a:TY}{x:Str}{st:Stmt}{f c0 p0:Addr}{fd:FuncData}{ps:List Str}
abbrev Ok(_:Txt P w base K mg a)(_:Dn K mg x st f fd ps)(k:Nat)(sp:Sp):=k6 P w K mg base C8 k f fd ps sp
abbrev FJ(_:Txt P w base K mg a)(_:Dn K mg x st f fd ps)(k:Nat)(sp:Sp):=k6 P w K mg base (GW P w) k f fd ps sp
abbrev Vy(_:Txt P w base K mg a)(_:L4 K mg x st f fd ps c0 p0)(k:Nat)(sp:Sp):=k6 P w K mg base C8 k f fd ps sp
end
def Cz:Sp:=fun vs H Q _=>∃(S:Int) (k:Nat),vs=[.int S,.int (k:Int)]/\Q (.bl (bit S k)) H
def CA:Sp:=fun vs H Q _=>∃ m:Nat,vs=[.int (m:Int)]/\Builtin.Int.intBits (m:Int)<=1000/\∀ D H',H D=none->aq H H'->H' D=some (.lst (aA (bu (m:Int))))->Q (.ref D) H'
def AO:Sp:=fun vs H Q _=>∃ w p ts,vs=[.ref w]/\bg H w p ts/\Kv p ts/\Q (.int (2^ts.length-1)) H
def FL:Sp:=fun vs H Q _=>∃ w p ts S,vs=[.ref w,.int S]/\bg H w p ts/\Kv p ts/\Q (.bl (decide (0<=S/\S<2^ts.length))) H
def o6(ts:List c5)(S:Int)(bad:Prop)(R:Nat->Prop):Prop:=(∃ m:Nat,S=(m:Int)/\m<2^ts.length/\R m)\/((S<0\/2^ts.length<=S)/\bad)
def yI(C:Addr):Sp:=fun vs H Q E=>∃ w p ts S,vs=[.ref w,.int S]/\bg H w p ts/\Kv p ts/\o6 ts S (E (.ref C) none H) fun _=>Q .dR H
def vq(C:Addr):Sp:=fun vs H Q E=>∃ w p ts S,vs=[.ref w,.int S]/\bg H w p ts/\Kv p ts/\o6 ts S (E (.ref C) none H) fun m =>
 ∀ D ys H',H D=none->aq H H'->H' D=some (.lst ys)->Paired (TupAt H') ys ((bu (m:Int)).map (bN ts))->Q (.ref D) H'
def vt(C:Addr):Sp:=fun vs H Q E=>∃ w p ts S,vs=[.ref w,.int S]/\bg H w p ts/\Kv p ts/\o6 ts S (∀ H',aq H H'->E (.ref C) none H') fun m =>
 ∀ D H',aq H H'->H' D=some (.lst (aA (sP p ts (m:Int))))->Q (.ref D) H'
def CB(C:Addr):Sp:=fun vs H Q E=>∃ w p ts S,vs=[.ref w,.int S]/\bg H w p ts/\Kv p ts/\o6 ts S (∀ H',aq H H'->E (.ref C) none H') fun m=>∀ H',aq H H'->Q (.bl (decide (sP p ts (m:Int)=[]))) H'
section
variable {P:Program}{w:World}{K:bJ}{mg:kU}{base:Heap}{a:TY}(T:Txt P w base K mg a)
theorem cB:Ok T T.iz 1 Cz:=by
 refine T.iz.ok B8 fun cdv A outer s H vs Q E hr h=>?_
 ·obtain⟨S,k,rfl,q⟩:=h;refine⟨_,(av (aH (cD eI (aK Gw (aK xn (pv 0) (pv 1)) ai) ai (aN _)))),?_⟩;refine(au rfl (au rfl (cj ⟨(by lia),cj ⟨rfl,?_⟩⟩)))
  rw[Int.toNat_natCast,MZ];exact q
theorem bU:Ok T T.gp 2 CA:=by
 have cB:=cB T;refine T.gp.ok B9 fun cdv A outer s H vs Q E hr h=>?_
 ·obtain⟨m,rfl,hm,k⟩:=h;refine⟨_,(av (aH (bj (own:=["tie"]) (frees:=["tie_set"]) (js:=[0]) (aB (ah mJ) ["tie_set"]) rfl (bF (by rfl) T.bW (aa (GJ PySem.F.plainAttrs_int PyProof.Rows.slot_int_bit_length PyProof.Rows.type_int_bit_length De (pv 0)) af)) (fun _ _ _ _=>(br 0 (show(["tie","tie_set"]:List Str).Nodup by decide +kernel))) (fun _ _ _ _=>(dU (dJ (aI cB hr T.iz.c aP (aa (pv 1) (aa (pv 0) af)))))) (fun _ _ _ _=>(pv 0))))),?_⟩
  refine(au rfl ⟨rfl,au rfl ⟨rfl,au rfl ⟨(by lia),(by lia),fun D hD=>bX (lo:=0) (m:=Builtin.Int.intBits (m:Int)) (mX (bit (m:Int)) H D) (.start hD) (fun i acc H2 _ p=>p.len) (dl (Nat.ble_eq.mpr hm)) ?_ ?_⟩⟩⟩)
  ·intro i acc H2 hi p;rw[Int.zero_add];refine⟨rfl,au rfl (au rfl ⟨(m:Int),i,rfl,au rfl (?_)⟩)⟩;cases hb:bit (m:Int) i with
   | true=>exact(au rfl (p.yes hD (aq.refl _) hb))
   | false=>exact p.no (aq.refl _) hb
  ·intro acc H2 p;exact k D H2 hD p.1 (by rw[p.2.1,p.2.2];rfl)
theorem cZ:Ok T T.iV 1 AO:=by
 refine T.iV.ok Aj fun cdv A outer s H vs Q E hr h=>?_
 ·obtain⟨wb,p,ts,rfl,hw,W,q⟩:=h;refine⟨_,(av (aH (aK pC (aK kZ ai (aM (iH K) (by rfl) T.dc PySem.boot_len (aa (aG (cu K) (pv 0) ai) af))) ai))),?_⟩
  obtain⟨b,xs,h1,h2,h3⟩:=hw.ex;have hl:=h3.length;have wl:=W.len;refine(au rfl (cy (aV.of h1) (ao (j:=1) rfl) (qa rfl (.inr (aV.of h2)) (cj ⟨⟨by lia,by lia,by decide⟩,cj (?_)⟩))))
  rw[Int.toNat_natCast,hl,Int.one_mul];exact q
theorem jO:Ok T T.o4 2 FL:=by
 have cZ:=cZ T;refine T.o4.ok E1 fun cdv A outer s H vs Q E hr h=>?_
 ·obtain⟨wb,p,ts,S,rfl,hw,W,q⟩:=h;refine⟨_,(av (aH (sC (cD GA (pv 1) ai (aN _)) (sA (cD Gz (pv 1) (aI cZ hr T.iV.c aP (aa (pv 0) af)) (aN _)))))),?_⟩;refine(au rfl (cj (au rfl (k8 (fun hlt=>?_) (fun hlt=>?_)))))
  ·have hlt:0<=S:=of_decide_eq_true hlt;refine(au rfl (au rfl ⟨wb,p,ts,rfl,hw,W,_,_,rfl,rfl,?_⟩));have e:decide (S<=2^ts.length-1)=decide (0<=S/\S<2^ts.length):=decide_eq_decide.mpr ⟨fun z=>⟨hlt,by lia⟩,fun z=>by lia⟩
   rw[<-e]at q;exact q
  ·have hlt : ¬ 0<=S:=fun z=>hlt (decide_eq_true z)
   rw[decide_eq_false (fun z=>hlt z.1)]at q
   exact q
theorem cG:FJ T T.gO 3 (yI a.dP):=by
 have jO:=jO T;refine T.gO.Bv yb fun cdv A outer s H vs Q E hr h=>?_
 ·obtain⟨wb,p,ts,S,rfl,hw,W,q⟩:=h;refine⟨_,(av (cJ (pA (dJ (aI jO hr T.o4.c aP (aa (pv 0) (aa (pv 1) af))))) (av (sO eO.S6 rfl (by rfl) T.Jd PySem.F.excBase_ValueError (aa pe af))) bh)),?_⟩
  refine oQ ?_;intro cE;refine(au rfl (au rfl ⟨wb,p,ts,S,rfl,hw,W,?_⟩));have h2:((2:Int)^ts.length)=((2^ts.length:Nat):Int):=by simp
  rcases q with⟨m,rfl,hm,q⟩|⟨hS,q⟩
  ·rw[decide_eq_true ⟨by lia,by lia⟩]
   exact(au rfl (fQ q))
  ·rw[decide_eq_false (by lia)]
   exact(au rfl (fV ⟨dl rfl,q⟩))
theorem cf:FJ T T.fN 4 (vq a.dP):=by
 have cG:=cG T;have bU:=bU T;refine T.fN.Bv u4 fun cdv A outer s H vs Q E hr h=>?_
 ·obtain⟨wb,p,ts,S,rfl,hw,W,q⟩:=h;refine⟨_,(ak (cK (aI cG hr T.gO.c eO.passes (aa (pv 0) (aa (pv 1) af))))
   (av (aH (bj (own:=["tie"]) (frees:=["web"]) (js:=[0]) (aB (ah hU) ["web","tie_set"]) rfl (mW K (aI bU hr T.gp.c aP (aa (pv 1) af))) (fun _ _ _ _=>(br 0 (show(["tie","web"]:List Str).Nodup by decide +kernel))) (fun _ _ _ _=>bK) (fun _ _ _ _=>(aG (cu K) (aG (cu K) (pv 1) ai) (pv 0))))))),?_⟩
  refine gE ?_;intro cE;refine(au rfl (au rfl ⟨wb,p,ts,S,rfl,hw,W,?_⟩));rcases q with⟨m,rfl,hm,q⟩|⟨hS,q⟩
  ·refine .inl ⟨m,rfl,hm,?_⟩;have wl:=W.len;have hb:Builtin.Int.intBits (m:Int)<=ts.length:=bits_le hm;refine(au rfl ⟨m,rfl,by lia,fun L H1 _ s1 hL=>⟨L,rfl,⟨_,aL.of hL⟩,fun D hD=>?_⟩⟩)
   obtain⟨b,xs,h1,h2,h3⟩:=(hw.same s1).ex;have yJ:=h3.length;refine aX (xs:=aA (bu (m:Int))) (fun i acc H2=>aq H1 H2/\H2 D=some (.lst acc)/\Paired (TupAt H2) acc (((bu (m:Int)).take i).map (bN ts))/\acc.length=i) ⟨aq.new hD,ae,.nil,rfl⟩ ?_ ?_ ?_ ?_
   ·rintro i acc H2 _ ⟨s2,hd,pr,hac⟩;exact⟨aL.of (s2 _ _ hL),hd,Nat.le_of_eq hac⟩
   ·rw[aC];refine dl (Nat.ble_eq.mpr (Nat.le_trans (List.length_filter_le _ _) ?_));rw[List.length_range]
    lia
   ·rintro i x acc H2 hx ⟨s2,hd,pr,hac⟩;obtain⟨k,hk,rfl⟩:=cg hx;have l6:k<ts.length:=rS hm (List.mem_of_getElem? hk);have hkx:k<xs.length:=by lia
    obtain⟨t,ht,c,hc,hct⟩:=Paired.sN h3 (i:=k) (x:=xs[k]) (by simp[hkx])
    have Qg:bN ts k=t:=by
     unfold bN;rw[List.getD_eq_getElem?_getD,ht];rfl
    refine⟨rfl,au rfl (cy (aV.of (s2 _ _ h1)) (ao (j:=1) rfl) (au rfl (cy (v:=xs[k]) (aV.of (s2 _ _ h2)) (ao (j:=k) (by simp[hkx])) (?_))))⟩
    rw[hc];refine⟨hd,s2.put hD,ae,?_,by rw[List.length_append,List.length_singleton,hac]⟩
    rw[List.take_add_one,hk,List.map_append];refine Paired.snoc (Paired.imp' (fun _ _ z=>z.tups (dH.put hd)) pr) ?_
    rw[Qg];exact⟨c,rfl,dH.put hd _ _ (s2 _ _ hct)⟩
   ·rintro acc H2 ⟨s2,hd,pr,hac⟩;rw[aC,List.take_length]at pr;exact q D acc H2 (s1.free hD) (s1.trans s2) hd pr
  ·exact .inr ⟨hS,q⟩
theorem kI:FJ T T.kA 5 (vt a.dP):=by
 have cf:=cf T;refine T.kA.Bv eU fun cdv A outer s H vs Q E hr h=>?_
 ·obtain⟨wb,p,ts,S,rfl,hw,W,q⟩:=h;refine⟨_,(ak (aF (i:=2) eU.nd rfl (Or.inr rfl) (aK Br (dD (aa ai af)) (aG (cu K) (pv 0) ai)))
   (ak (rR rfl (mW K (aI cf hr T.fN.c eO.passes (aa (pv 0) (aa (pv 1) af)))) (Kn K (n:=3) rfl (aZ (br 3 eU.nd) (aZ (br 4 eU.nd) (aZ (br 5 eU.nd) gC))))
   (ak (CU (pv 2) (pv 3) (getL K) ai CV set_list)
   (av (CU (pv 2) (pv 4) (getL K) ai CV set_list))))
   (av (aH (bj (own:=["point"]) (frees:=["ends"]) (js:=[2]) (aB (ah ia) ["web","tie_set","ends","one","other","length"]) rfl (bF (by rfl) T.bW (aa (aG (cu K) (pv 0) ai) af)) (fun _ _ _ _=>(br 0 (show(["point","ends"]:List Str).Nodup by decide +kernel))) (fun _ _ _ _=>(dU (aO eI (aK dB (aG (jH K) (pv 1) (pv 0)) ai) ai (aN _)))) (fun _ _ _ _=>(pv 0))))))),?_⟩
  refine m8 ?_;intro cE cR dZ fR;obtain⟨b,xs,h1,h2,h3⟩:=id hw.ex;have wp:=W.U7;refine⟨dl rfl,fun l0 C9=>?_⟩
  have s0:aq H (upd H l0 (.lst [.int 0])):=aq.new C9;refine(au rfl (cy (aV.of (s0 _ _ h1)) (ao (j:=0) rfl) ⟨l0,(p:Int),au rfl ⟨rfl,ae,by lia,by lia,(by rw[Int.toNat_natCast];show 1*p<=sizeLine;exact dl (Nat.ble_eq.mpr (by lia))),fun e he=>?_⟩⟩))
  have s1:=s0.trans (aq.new (o:=.lst (List.replicate (p:Int).toNat [V.int 0]).flatten) he);have RZ:upd (upd H l0 (.lst [.int 0])) e (.lst (List.replicate (p:Int).toNat [V.int 0]).flatten) e=some (.lst (k9 (List.replicate p 0))):=by
   rw[ae,Int.toNat_natCast,G7]
  generalize upd (upd H l0 (.lst [.int 0])) e (.lst (List.replicate (p:Int).toNat [V.int 0]).flatten)=H1 at s1 RZ;have QT:H e=none:=s0.free he;refine(au rfl (au rfl ⟨wb,p,ts,S,rfl,hw.same s1,W,?_⟩));rcases q with⟨m,rfl,hm,q⟩|⟨hS,q⟩
  ·refine .inl ⟨m,rfl,hm,fun L ys H2 TZ s2 hL pr=>⟨L,rfl,⟨_,aL.of hL⟩,?_⟩⟩
   have s12:=s1.trans s2;have heL:e≠L:=aW RZ TZ;have QU:ys.length<=24:=by
    rw[pr.length,List.length_map];have hb:Builtin.Int.intBits (m:Int)<=ts.length:=bits_le hm;have wl:=W.len;have:=List.length_filter_le (bit (m:Int)) (List.range (Builtin.Int.intBits (m:Int)));rw[List.length_range]at this;exact Nat.le_trans this (by lia)
   refine dm (K:=K) (a:=L) (xs:=ys) (fun i σ H3=>∃ v1 v2 v3,σ=[some (.ref wb),some (.int (m:Int)),some (.ref e),v1,v2,v3]/\(∀ x o,H2 x=some o->x≠e->H3 x=some o)/\H3 e=some (.lst (k9 ((((bu (m:Int)).map (bN ts)).take i).foldl stepT (List.replicate p 0)))))
    ⟨none,none,none,rfl,fun _ _ z _=>z,s2 _ _ RZ⟩ (fun i σ H3 _ ⟨_,_,_,_,z,_⟩=>aL.of (z _ _ hL (Ne.symm heL))) ?_ ?_
   ·rintro i y D' σ H3 hi ⟨v1,v2,v3,rfl,z3,FN⟩;obtain⟨t,ht,c,rfl,hc⟩:=Paired.sN pr hi;have hce:c≠e:=aS hc (s2 _ _ RZ) (by intro z;cases z)
    have hc3:=z3 _ _ hc hce;have Yo:t∈ts:=by
     obtain⟨k,hk,rfl⟩:=List.mem_map.mp (List.mem_of_getElem? ht);unfold bN;have l6:=rS hm hk;rw[List.getD_eq_getElem?_getD];simp[l6]
    obtain⟨a0,a1,b0,b1⟩:=W.U6.ends t Yo;obtain⟨t1,t2,t3⟩:=t;dsimp only at a0 a1 b0 b1;obtain⟨j1,rfl⟩:=Int.eq_ofNat_of_zero_le a0;obtain⟨j2,rfl⟩:=Int.eq_ofNat_of_zero_le b0;generalize hE:(((bu (m:Int)).map (bN ts)).take i).foldl stepT (List.replicate p 0)=EE at FN;have Vz:EE.length=p:=by rw[<-hE,pJ,List.length_replicate]
    have VA:j1<EE.length:=by lia
    have JF:j2<(bump EE (j1:Int)).length:=by rw[jJ];lia
    refine⟨c,_,rfl,aV.of hc3,rfl,_,_,rfl,_,_,rfl,_,_,rfl,rfl,?_⟩;refine(au rfl (au rfl ⟨e,_,j1,_,rfl,rfl,aL.of FN,pL VA,_,_,rfl,rfl,e,_,_,j1,rfl,rfl,FN,n6 (by rw[k9,List.length_map];exact VA),?_⟩))
    rw[sR];refine(au rfl (au rfl ⟨e,_,j2,_,rfl,rfl,aL.of ae,pL JF,_,_,rfl,rfl,e,_,_,j2,rfl,rfl,ae,n6 (by rw[k9,List.length_map];exact JF),?_⟩))
    rw[sR];refine⟨_,_,_,rfl,fun x o z hx=>by rw[aj hx,aj hx];exact z3 x o z hx,?_⟩
    rw[ae,List.take_add_one,ht,List.foldl_append,hE];rfl
   ·rintro σ H3 ⟨v1,v2,v3,rfl,z3,FN⟩;have hwe:wb≠e:=aW h1 QT;have qK:aq H H3:=fun x o z=>z3 x o (s12 x o z) (aW z QT)
    have hE:H3 e=some (.lst (k9 (jt p ts (m:Int)))):=by
     rw[FN,List.take_of_length_le (by rw[<-pr.length];exact Nat.le_refl _),vO hm]
    have Vz:(jt p ts (m:Int)).length=p:=by rw[vO hm,pJ,List.length_replicate]
    refine(au rfl (cy (aV.of (qK _ _ h1)) (ao (j:=0) rfl) (au rfl ⟨(by lia),(by lia),fun D hD=>bX (lo:=0) (m:=p) (mX (fun i=>decide ((jt p ts (m:Int)).getD i 0%2=1)) H3 D) (.start hD) (fun i acc H4 _ p=>p.len) (dl (Nat.ble_eq.mpr (by lia))) ?_ ?_⟩)))
    ·intro i acc H4 hi pk;rw[Int.zero_add];refine⟨rfl,au rfl (au rfl (ju (aL.of (pk.1 _ _ hE)) (ao (j:=i) (pL (by rw[Vz];exact hi))) (cj ⟨(nk rfl),rfl,au rfl (?_)⟩)))⟩
     rw[Kx];cases hb:decide ((jt p ts (m:Int)).getD i 0%2=1) with
     | true=>exact(au rfl (pk.yes hD (aq.refl _) hb))
     | false=>exact pk.no (aq.refl _) hb
    ·intro acc H4 pk;exact q D H4 (qK.trans pk.1) (by rw[pk.2.1,pk.2.2];rfl)
  ·exact .inr ⟨hS,q _ s1⟩
theorem qL:FJ T T.qC 6 (CB a.dP):=by
 have kI:=kI T;refine T.qC.Bv Cb fun cdv A outer s H vs Q E hr h=>?_
 ·obtain⟨wb,p,ts,S,rfl,hw,W,q⟩:=h;refine⟨_,(av (aH (cD (Bt K hr.units) (aI kI hr T.kA.c eO.passes (aa (pv 0) (aa (pv 1) af))) (dD af) (aN _)))),?_⟩;refine(au rfl (au rfl ⟨wb,p,ts,S,rfl,hw,W,?_⟩));rcases q with⟨m,rfl,hm,q⟩|⟨hS,q⟩
  ·refine .inl ⟨m,rfl,hm,fun D H1 s1 hD=>⟨dl rfl,fun l hl=>?_⟩⟩
   have s2:aq H1 (upd H1 l (.lst [])):=aq.new hl;refine⟨_,_,.lst (aL.of (s2 _ _ hD)) (zp _),.lst (aL.of ae) .nil,zu _,rfl,?_⟩;rw[Kw];exact q _ (s1.trans s2)
  ·exact .inr ⟨hS,q⟩
def Je:Sp:=fun vs H Q _=>∃(l:Addr) (L:Nat->Nat) (p u v:Nat),vs=[.ref l,.int (u:Int),.int (v:Int)]/\H l=some (.lst (b7 L p))/\p<=10/\u<p/\v<p/\
 ∀ D H',H D=none->aq H H'->H' D=some (.lst (b7 (RM.join L u v) p))->Q (.ref D) H'
def FO(C:Addr):Sp:=fun vs H Q E=>∃ w p ts,∃ g:aD p ts,∃ S,vs=[.ref w,.int S]/\bg H w p ts/\o6 ts S (∀ H',aq H H'->E (.ref C) none H') fun m =>
 ∀ D ys H',H D=none->aq H H'->H' D=some (.lst ys)->Paired (LQ D H H') ys ((dX (bI p ts g m) p).map (pieceOf (bI p ts g m) p))->Q (.ref D) H'
def Lg:Sp:=fun vs H Q _=>∃ w p ts,∃ g:aD p ts,vs=[.ref w]/\bg H w p ts/\∀ H',aq H H'->Q (.int (g.N.ay.length:Int)) H'
theorem ck:Ok T T.eB 1 Je:=by
 refine T.eB.ok fJ fun cdv A outer s H vs Q E hr h=>?_
 ·obtain⟨l,L,p,u,v,rfl,hl,hp,hu,hv,q⟩:=h;refine⟨_,(ak (aF (i:=3) fJ.nd rfl (Or.inr rfl) (aM (vH rfl) (by rfl) T.DQ PyProof.Rows.boot_min (aa (aG (jH K) (pv 0) (pv 1)) (aa (aG (jH K) (pv 0) (pv 2)) af))))
   (ak (aF (i:=4) fJ.nd rfl (Or.inr rfl) (aM (vG rfl) (by rfl) T.Mc PyProof.Rows.boot_max (aa (aG (jH K) (pv 0) (pv 1)) (aa (aG (jH K) (pv 0) (pv 2)) af))))
   (av (aH (bj (own:=["least"]) (frees:=["low","high"]) (js:=[3,4]) (aB (ah ee) ["leasts","one","other","low","high"]) rfl (mW K (pv 0)) (fun _ _ _ _=>(br 0 (show(["least","low","high"]:List Str).Nodup by decide +kernel))) (fun _ _ _ _=>bK) (fun _ _ _ _=>(kY (aO eI (pv 0) (pv 2) (aN _)) (pv 1) (pv 0)))))))),?_⟩
  refine jg ?_;intro cE cR;refine(au rfl (au rfl (ju (aL.of hl) (ao (j:=u) (bH hu)) (au rfl (au rfl (ju (aL.of hl) (ao (j:=v) (bH hv)) ⟨_,_,rfl,?_⟩))))));refine(au rfl (au rfl (ju (aL.of hl) (ao (j:=u) (bH hu)) (au rfl (au rfl (ju (aL.of hl) (ao (j:=v) (bH hv)) ⟨_,_,rfl,?_⟩))))));refine(au rfl ⟨l,rfl,⟨_,aL.of hl⟩,fun D hD=>aX (xs:=b7 L p) (sX (RM.join L u v) H D) (.start hD) (fun i acc H2 _ pd=>⟨aL.of (pd.1 _ _ hl),pd.len⟩) (by rw[bL];exact dl (Nat.ble_eq.mpr (by lia))) ?_ ?_⟩)
  ·intro i x acc H2 hx pd;obtain⟨hi,rfl⟩:=i8 hx;refine⟨rfl,au rfl (au rfl ⟨rfl,au rfl (?_)⟩)⟩;rw[Dr,i9]
   by_cases hm:L i=max (L u) (L v)
   ·rw[decide_eq_true hm];refine fV (au rfl (pd.next hD (aq.refl _) ?_));rw[Dq];unfold RM.join;rw[if_pos hm]
   ·rw[decide_eq_false hm];refine fQ (au rfl (pd.next hD (aq.refl _) ?_));unfold RM.join;rw[if_neg hm]
  ·intro acc H2 pd;rw[bL]at pd;exact q D H2 hD pd.1 (by rw[pd.2.1,pd.2.2])
theorem jP:FJ T T.o5 5 (FO a.dP):=by
 have cf:=cf T;have ck:=ck T;refine T.o5.Bv fq fun cdv A outer s H vs Q E hr h=>?_
 ·obtain⟨wb,p,ts,g,S,rfl,hw,q⟩:=h;refine⟨_,(ak (aF (i:=2) fq.nd rfl (Or.inr rfl) (cL (LO rfl) (by rfl) T.Cy PyProof.Rows.boot_list (aa (cL zk (by rfl) T.bW PyProof.Rows.boot_range (aa (aG (cu K) (pv 0) ai) af)) af)))
   (ak (rR rfl (mW K (aI cf hr T.fN.c eO.passes (aa (pv 0) (aa (pv 1) af)))) (Kn K (n:=3) rfl (aZ (br 3 fq.nd) (aZ (br 4 fq.nd) (aZ (br 5 fq.nd) gC))))
   (av (aF (i:=2) fq.nd rfl (Or.inr rfl) (aI ck hr T.eB.c aP (aa (pv 2) (aa (pv 3) (aa (pv 4) af)))))))
   (ak (aF (i:=6) fq.nd rfl (Or.inl rfl) (dD af))
   (ak (rR rfl (bF (by rfl) T.bW (aa (aG (cu K) (pv 0) ai) af)) (xj (i:=7) fq.nd rfl (Or.inr rfl))
   (av (cJ (aO eI (aG (jH K) (pv 2) (pv 7)) (pv 7) (aN _)) (av (cK (Gf K (kP PySem.F.plainAttrs_list PySem.F.slot_list_append PySem.F.type_list_append cA (pv 6) (aa (bj (own:=["point"]) (frees:=["leasts","start"]) (js:=[2,7]) (aB (ah oR) ["web","tie_set","leasts","one","other","length","found","start"]) rfl (bF (by rfl) T.bW (aa (aG (cu K) (pv 0) ai) af)) (fun _ _ _ _=>(br 0 (show(["point","leasts","start"]:List Str).Nodup by decide +kernel))) (fun _ _ _ _=>(dU (aO eI (aG (jH K) (pv 1) (pv 0)) (pv 2) (aN _)))) (fun _ _ _ _=>(pv 0))) af))))) bh)))
   (av (aH (pv 6))))))),?_⟩
  refine E2 ?_;intro cE cR dZ fR iT uv Ak;obtain⟨b,xs,h1,h2,h3⟩:=id hw.ex;have W:=g.G8;have wp:=W.U7;have wl:=W.len;refine(au rfl (cy (aV.of h1) (ao (j:=0) rfl) (au rfl (fun r hr=>⟨r,p,rfl,ae,by lia,fun l hl=>?_⟩))))
  have s1:aq H (upd (upd H r (.DW 0 (p:Int))) l (.lst (uW p))):=(aq.new hr).trans (aq.new hl);have hl1:upd (upd H r (.DW 0 (p:Int))) l (.lst (uW p)) l=some (.lst (b7 (fun x=>x) p)):=ae
  generalize upd (upd H r (.DW 0 (p:Int))) l (.lst (uW p))=H1 at s1 hl1;refine(au rfl (au rfl ⟨wb,p,ts,S,rfl,hw.same s1,W,?_⟩));rcases q with⟨m,rfl,hm,q⟩|⟨hS,q⟩
  ·refine .inl ⟨m,rfl,hm,fun T0 ys H2 U4 s2 hT pr=>⟨T0,rfl,⟨_,aL.of hT⟩,?_⟩⟩
   have QU:ys.length<=24:=by
    rw[pr.length,List.length_map];have hb:Builtin.Int.intBits (m:Int)<=ts.length:=bits_le hm;have:=List.length_filter_le (bit (m:Int)) (List.range (Builtin.Int.intBits (m:Int)));rw[List.length_range]at this;exact Nat.le_trans this (by lia)
   refine dm (K:=K) (a:=T0) (xs:=ys) (fun i σ H3=>∃ la v3 v4 v5,σ=[some (.ref wb),some (.int (m:Int)),some (.ref la),v3,v4,v5,none,none]/\aq H2 H3/\H3 la=some (.lst (b7 (qY p ts g ((bu (m:Int)).take i)) p)))
    ⟨l,none,none,none,rfl,aq.refl _,s2 _ _ hl1⟩ (fun i σ H3 _ ⟨_,_,_,_,_,z,_⟩=>aL.of (z _ _ hT)) ?_ ?_
   ·rintro i y D' σ H3 hi ⟨la,v3,v4,v5,rfl,s3,hla⟩;obtain⟨t,ht,c,rfl,hc⟩:=Paired.sN pr hi;have hc3:=s3 _ _ hc;rw[List.getElem?_map]at ht;obtain⟨k,hk,hkt⟩:=Option.map_eq_some_iff.mp ht;have l6:=rS hm (List.mem_of_getElem? hk);have ea:=Dl (g:=g) l6;have eb:=Dm (g:=g) l6;rw[hkt]at ea eb;have la':=g.N.al k l6;have lb':=g.N.bl k l6;refine⟨c,_,rfl,aV.of hc3,rfl,_,_,rfl,_,_,rfl,_,_,rfl,rfl,?_⟩;refine(au rfl (au rfl (au rfl ⟨la,qY p ts g ((bu (m:Int)).take i),p,g.N.a k,g.N.b k,?_,hla,wp,la',lb',fun D H4 Jf s4 hD=>?_⟩)))
    ·rw[<-ea,<-eb];rfl
    ·refine⟨D,_,_,_,rfl,s3.trans s4,?_⟩;rw[hD,List.take_add_one,hk];show _=some (HO.lst (b7 (qY p ts g ((bu (m:Int)).take i++[k])) p));rw[BA]
   ·rintro σ H3 ⟨la,v3,v4,v5,rfl,s3,hla⟩;have hys:ys.length=(bu (m:Int)).length:=by rw[pr.length,List.length_map]
    rw[hys,List.take_length,BB hm]at hla;have qK:aq H H3:=(s1.trans s2).trans s3;refine⟨dl rfl,fun D hD=>?_⟩
    have t0:sZ (bI p ts g m) p H3 D 0 (upd H3 D (.lst [])):=sZ.start hD;generalize upd H3 D (.lst [])=H4 at t0;refine(au rfl (cy (aV.of (t0.1 _ _ (qK _ _ h1))) (ao (j:=0) rfl) (au rfl ⟨(by lia),(by lia),?_⟩)))
    refine gh (lo:=0) (n:=(p:Int).toNat) (fun i σ H5=>∃ v7,σ=[some (.ref wb),some (.int (m:Int)),some (.ref la),v3,v4,v5,some (.ref D),v7]/\sZ (bI p ts g m) p H3 D i H5) ⟨none,rfl,t0⟩ ?_ ?_
    ·rintro i D' σ H5 hi ⟨v7,rfl,t5⟩;rw[Int.toNat_natCast]at hi;rw[Int.zero_add];have QV:=t5.1 _ _ hla;refine(au rfl (au rfl (ju (aL.of QV) (ao (j:=i) (bH hi)) (au rfl ⟨rfl,au rfl (?_)⟩))));rw[i9]
     by_cases hr:bI p ts g m i=i
     ·rw[decide_eq_true hr];obtain⟨ys0,QW⟩:∃ ys,H5 D=some (.lst ys):=let⟨_,ys,z,_⟩:=t5;⟨ys,z⟩;refine fV (au rfl ⟨.inl ⟨rfl,_,aL.of QW⟩,au rfl (cy (aV.of (t5.1 _ _ (qK _ _ h1))) (ao (j:=0) rfl) (au rfl ⟨(by lia),(by lia),fun B hB=>bX (lo:=0) (m:=(p:Int).toNat) (mX (fun x=>decide (bI p ts g m x=i)) H5 B) (.start hB) (fun i acc H6 _ pk=>pk.len) (dl (Nat.ble_eq.mpr (by lia))) ?_ ?_⟩))⟩)
      ·intro x acc H6 hx pk;rw[Int.toNat_natCast]at hx;rw[Int.zero_add];refine⟨rfl,au rfl (au rfl (ju (aL.of (pk.1 _ _ QV)) (ao (j:=x) (bH hx)) (au rfl ⟨rfl,au rfl (?_)⟩)))⟩;rw[i9];cases hb:decide (bI p ts g m x=i) with
       | true=>exact(au rfl (pk.yes hB (aq.refl _) hb))
       | false=>exact pk.no (aq.refl _) hb
      ·intro acc H6 pk;have Yp:H6 B=some (.lst (aA (pieceOf (bI p ts g m) p i))):=by rw[pk.2.1,pk.2.2,Int.toNat_natCast];rfl
       obtain⟨Yq,T3,hl1,t7⟩:=t5.push hD hr pk.1 hB Yp;exact⟨D,Yq,_,rfl,rfl,T3,cW (by lia),au rfl (t7)⟩
     ·rw[decide_eq_false hr];exact fQ (au rfl (t5.skip hr))
    ·rintro σ H5 ⟨v7,rfl,t5⟩;rw[Int.toNat_natCast]at t5;obtain⟨s5,Yr,QW,Ys,hl5⟩:=t5;exact(au rfl (q D Yr H5 (qK.free hD) (qK.trans s5) QW (Paired.imp' (fun _ _ ⟨e,he,hn,h0,z⟩=>⟨e,he,hn,qK.free h0,z⟩) Ys)))
  ·exact .inr ⟨hS,q _ s1⟩
theorem qM:Ok T T.yG 6 Lg:=by
 have jP:=jP T;have cZ:=cZ T;refine T.yG.ok Le fun cdv A outer s H vs Q E hr h=>?_
 ·obtain⟨wb,p,ts,g,rfl,hw,q⟩:=h;refine⟨_,(av (aH (aK eK (aK pC (aM (iH K) (by rfl) T.dc PySem.boot_len (aa (aG (cu K) (pv 0) ai) af)) (aG (cu K) (pv 0) ai)) (aM (iH K) (by rfl) T.dc PySem.boot_len (aa (aI jP hr T.o5.c qX (aa (pv 0) (aa (aI cZ hr T.iV.c aP (aa (pv 0) af)) af))) af))))),?_⟩
  obtain⟨b,xs,h1,h2,h3⟩:=id hw.ex;have yJ:=h3.length;have e2:((2:Int)^ts.length-1)=((2^ts.length-1:Nat):Int):=by
   have h:((2:Int)^ts.length)=((2^ts.length:Nat):Int):=by simp
   have:=Nat.two_pow_pos ts.length
   lia
  have hlt:2^ts.length-1<2^ts.length:=by have:=Nat.two_pow_pos ts.length;lia
  refine(au rfl (cy (aV.of h1) (ao (j:=1) rfl) (qa rfl (.inr (aV.of h2)) (au rfl (cy (aV.of h1) (ao (j:=0) rfl) (cj (?_)))))));refine(au rfl (au rfl ⟨wb,p,ts,rfl,hw,g.G8,wb,p,ts,g,_,rfl,hw,.inl ⟨2^ts.length-1,e2,hlt,fun D ys H' Jf s' hD pr=>(qa rfl (.inl (aL.of hD)) (cj (?_)))⟩⟩))
  have hv:=KC (g:=g);have hy:ys.length=(dX (bI p ts g (2^ts.length-1)) p).length:=by rw[pr.length,List.length_map]
  show Q (.int ((xs.length:Int)-(p:Int)+(ys.length:Int))) H';rw[yJ,hy,hv];exact q H' s'
def CC(C:Addr):Sp:=fun vs H Q E=>∃ w p ts,∃ g:aD p ts,∃ S,vs=[.ref w,.int S]/\bg H w p ts/\o6 ts S (∀ H',aq H H'->E (.ref C) none H') fun m=>∀ H',aq H H'->Q (.bl (kQ p ts g m)) H'
theorem iA:FJ T T.mS 7 (CC a.dP):=by
 have qL:=qL T;have jP:=jP T;have bU:=bU T;refine T.mS.Bv uy fun cdv A outer s H vs Q E hr h=>?_
 ·obtain⟨wb,p,ts,g,S,rfl,hw,q⟩:=h;refine⟨_,(ak (cJ (pA (dJ (aI qL hr T.qC.c eO.passes (aa (pv 0) (aa (pv 1) af))))) (av (aH nR)) bh)
   (ak (g9 (i:=2) uy.nd rfl rfl (own:=["piece"]) (frees:=[]) (js:=[]) (aB (ah mO) ["web","tie_set","touched"]) rfl (mW K (aI jP hr T.o5.c eO.passes (aa (pv 0) (aa (pv 1) af)))) (fun _ _ _ _=>(br 0 (show(["piece"]:List Str).Nodup by decide +kernel))) (fun _ _ _ _=>(dU (aO qV (aM (iH K) (by rfl) T.dc PySem.boot_len (aa (pv 0) af)) ai (aN _)))) (fun _ _ _ _=>(pv 0)))
   (av (aH (sC (cD eI (aM (iH K) (by rfl) T.dc PySem.boot_len (aa (pv 2) af)) ai (aN _)) (sA (cD eI (aM (iH K) (by rfl) T.dc PySem.boot_len (aa (aG (jH K) (pv 2) ai) af)) (aM (iH K) (by rfl) T.dc PySem.boot_len (aa (aI bU hr T.gp.c aP (aa (pv 1) af)) af)) (aN _)))))))),?_⟩
  refine Cc ?_;intro cE cR dZ;have W:=g.G8;have wp:=g.p2;have wl:=g.len;refine(au rfl (au rfl ⟨wb,p,ts,S,rfl,hw,W,?_⟩));rcases q with⟨m,rfl,hm,q⟩|⟨hS,q⟩
  ·refine .inl ⟨m,rfl,hm,fun H1 s1=>(au rfl (?_))⟩
   by_cases ev:sP p ts (m:Int)=[]
   ·rw[decide_eq_true ev];rw[BG ev]at q;refine fQ (au rfl (au rfl ⟨wb,p,ts,g,_,rfl,hw.same s1,.inl ⟨m,rfl,hm,fun D ys H2 Jf s2 hD pr=>⟨D,rfl,⟨_,aL.of hD⟩,fun C hC=>?_⟩⟩⟩))
    have QU:ys.length<=10:=by
     rw[pr.length,List.length_map];unfold dX;have:=List.length_filter_le (fun x=>decide (bI p ts g m x=x)) (List.range p)
     rw[List.length_range]at this;exact Nat.le_trans this wp
    refine aX (xs:=ys) (tH (fun l=>decide (1<l.length)) ((dX (bI p ts g m) p).map (pieceOf (bI p ts g m) p)) H2 C) (.start hC) (fun i acc H3 _ sf=>⟨aL.of (sf.1 _ _ hD),sf.len⟩) (cV (by lia)) ?_ ?_
    ·intro i x acc H3 hx sf;obtain⟨l,hl,b,rfl,hbn,hb0,hb⟩:=Paired.sN pr hx;refine⟨rfl,au rfl (qa rfl (.inl (aL.of (sf.1 _ _ hb))) (cj (au rfl (?_))))⟩;cases Jg:decide (1<l.length) with
     | true =>
       have e:decide ((1:Int)<((aA l).length:Int))=true:=decide_eq_true (by have:=of_decide_eq_true Jg;rw[aC];lia)
       show if decide ((1:Int)<((aA l).length:Int))=true then _ else _
       rw[e];exact fV (au rfl (sf.yes hC hl Jg ⟨b,rfl,hb⟩))
     | false =>
       have e:decide ((1:Int)<((aA l).length:Int))=false:=decide_eq_false (by have:=of_decide_eq_false Jg;rw[aC];lia)
       show if decide ((1:Int)<((aA l).length:Int))=true then _ else _
       rw[e];exact fQ (sf.no hl Jg)
    ·intro acc H3 sf;have pa:Paired (M8 H2) acc ((di (bI p ts g m) p).map (pieceOf (bI p ts g m) p)):=by
      have h:=sf.2.2;rw[pr.length,List.take_length,List.filter_map]at h;exact h
     have hal:=pa.length;rw[List.length_map]at hal;refine(au rfl (qa rfl (.inl (aL.of sf.2.1)) ⟨rfl,au rfl (?_)⟩));have qK:=(s1.trans s2).trans sf.1;have Yt:Builtin.Int.intBits (m:Int)<=ts.length:=bits_le hm;generalize di (bI p ts g m) p=tl at q pa hal;cases tl with
     | nil =>
       have hal:acc.length=0:=hal;rw[hal];exact fQ (q H3 qK)
     | cons s r =>
       cases r with
       | nil =>
         cases pa with
         | cons hy pn =>
           cases pn;obtain⟨b,rfl,hb⟩:=hy;refine fV (au rfl (ju (aL.of sf.2.1) (ao (j:=0) rfl) (qa rfl (.inl (aL.of (sf.1 _ _ hb))) (au rfl ⟨m,rfl,by lia,fun D4 H4 Yu s4 uR=>(qa rfl (.inl (aL.of uR)) ⟨rfl,?_⟩)⟩))))
           rw[aC,aC,i9];exact q H4 (qK.trans s4)
       | cons t r =>
         have hal:acc.length=r.length+2:=hal;have e:decide (V.int ((acc.length:Nat):Int)=V.int 1)=false:=decide_eq_false fun z=>by
          have:=V.int.inj z
          lia
         rw[e];exact fQ (q H3 qK)
   ·rw[decide_eq_false ev];have er:kQ p ts g m=false:=by
     unfold kQ;rw[decide_eq_false ev,Bool.false_and]
    rw[er]at q;exact fV (q H1 s1)
  ·exact .inr ⟨hS,q⟩
def o7:Sp:=fun vs H Q _=>∃ w p ts,∃ g:aD p ts,∃ S:Int,vs=[.ref w,.int S]/\bg H w p ts/\∀ H' (d:Bool),aq H H'->(d=true↔∃ m:Nat,S=(m:Int)/\m<2^ts.length/\g.N.Ring m)->Q (.bl d) H'
theorem gx:Ok T T.gq 8 o7:=by
 have jO:=jO T;have iA:=iA T;refine T.gq.ok oU fun cdv A outer s H vs Q E hr h=>?_
 ·obtain⟨wb,p,ts,g,S,rfl,hw,q⟩:=h;refine⟨_,(av (aH (sC (aI jO hr T.o4.c aP (aa (pv 0) (aa (pv 1) af))) (sA (aI iA hr T.mS.c qX (aa (pv 0) (aa (pv 1) af))))))),?_⟩;have h2n:((2:Int)^ts.length)=((2^ts.length:Nat):Int):=by simp
  refine(au rfl (au rfl ⟨wb,p,ts,S,rfl,hw,g.G8,_,rfl,?_⟩))
  by_cases hs:0<=S/\S<2^ts.length
  ·rw[decide_eq_true hs];obtain⟨m,rfl⟩:=Int.eq_ofNat_of_zero_le hs.1;have hm:m<2^ts.length:=by lia
   refine fV (au rfl (au rfl ⟨wb,p,ts,g,_,rfl,hw,.inl ⟨m,rfl,hm,fun H1 s1=>q H1 _ s1 ?_⟩⟩))
   rw[pO g hm];exact⟨fun r=>⟨m,rfl,hm,r⟩,fun⟨m',e,_,r⟩=>by
    have:m=m':=by lia
    rw[this];exact r⟩
  ·rw[decide_eq_false hs];refine fQ (q H false (aq.refl _) ⟨fun z=>(Bool.false_ne_true z).elim,fun⟨m',e,hm,_⟩=>absurd ⟨by lia,by lia⟩ hs⟩)
def FP:Sp:=fun vs H Q _=>∃ w p ts,∃ g:aD p ts,vs=[.ref w]/\bg H w p ts/\∀ D H',H D=none->aq H H'->H' D=some (.lst (b7 (g.N.trail ts.length) p))->Q (.ref D) H'
def FQ:Sp:=fun vs H Q _=>∃ w p ts,∃ g:aD p ts,vs=[.ref w]/\bg H w p ts/\∀ H',aq H H'->Q (.int ((ja p ts g:Nat):Int)) H'
def FT:Sp:=fun vs H Q _=>∃ w p ts,∃ g:aD p ts,vs=[.ref w]/\bg H w p ts/\∀ D H',H D=none->aq H H'->H' D=some (.lst (aA g.N.ay))->Q (.ref D) H'
def uI:Sp:=fun vs H Q _=>∃ w p ts,∃ g:aD p ts,∃(D:Addr) (c:Nat),vs=[.ref w,.ref D,.int (c:Int)]/\bg H w p ts/\H D=some (.lst (b7 (g.N.trail ts.length) p))/\c<ts.length/\Q (.int ((g.N.ring c:Nat):Int)) H
theorem CD{H:Hp}{xs:List V}{p:Nat}{ts:List c5}{g:aD p ts}{k:Nat}(h3:Paired (TupAt H) xs ts)(hk:k<ts.length):∃ c,xs[k]?=some (.ref c)/\H c=some (.tup [.int ((g.N.a k:Nat):Int),.int ((g.N.b k:Nat):Int),.int (bN ts k).2.2]):=by
 have hkx:k<xs.length:=by rw[h3.length];exact hk
 obtain⟨t,ht,c,hc,hct⟩:=Paired.sN h3 (i:=k) (x:=xs[k]) (by simp[hkx])
 have Qg:t=bN ts k:=by
  have z:=pM hk;rw[ht]at z;exact Option.some.inj z
 refine⟨c,by rw[<-hc];simp[hkx],?_⟩
 rw[hct,<-Dl hk,<-Dm hk,Qg];rfl
theorem bB:Ok T T.c9 2 FP:=by
 have ck:=ck T;refine T.c9.ok aY fun cdv A outer s H vs Q E hr h=>?_
 ·obtain⟨wb,p,ts,g,rfl,hw,q⟩:=h;refine⟨_,(ak (aF (i:=1) aY.nd rfl (Or.inl rfl) (cL (LO rfl) (by rfl) T.Cy PyProof.Rows.boot_list (aa (cL zk (by rfl) T.bW PyProof.Rows.boot_range (aa (aG (cu K) (pv 0) ai) af)) af)))
   (ak (aF (i:=2) aY.nd rfl (Or.inl rfl) (aK Br (dD (aa ai af)) (aG (cu K) (pv 0) ai)))
   (ak (eJ PassesOwn.never rfl (bF (by rfl) T.bW (aa (aM (iH K) (by rfl) T.dc PySem.boot_len (aa (aG (cu K) (pv 0) ai) af)) af)) (br 3 aY.nd)
   (ak (aF (i:=4) aY.nd rfl (Or.inl rfl) (aG (cu K) (aG (cu K) (aG (cu K) (pv 0) ai) (pv 3)) ai))
   (ak (aF (i:=5) aY.nd rfl (Or.inl rfl) (aG (cu K) (aG (cu K) (aG (cu K) (pv 0) ai) (pv 3)) ai))
   (av (cJ (aO C3 (aG (jH K) (pv 1) (pv 4)) (aG (jH K) (pv 1) (pv 5)) (aN _)) (ak (aF (i:=6) aY.nd rfl (Or.inr rfl) (aK fb (aK fb (aG (jH K) (pv 2) (pv 4)) (aG (jH K) (pv 2) (pv 5))) (aK kZ ai (pv 3))))
   (ak (aF (i:=7) aY.nd rfl (Or.inr rfl) (aM (vG rfl) (by rfl) T.Mc PyProof.Rows.boot_max (aa (aG (jH K) (pv 1) (pv 4)) (aa (aG (jH K) (pv 1) (pv 5)) af))))
   (ak (g9 (i:=2) aY.nd rfl rfl (own:=["trail","least"]) (frees:=["bridge","moved"]) (js:=[6,7]) (aB (ah eX) ["web","leasts","trails","tie","one","other","bridge","moved"]) rfl (MX K (by rfl) T.QO (aa (pv 2) (aa (pv 1) af))) (fun _ _ _ _=>(Kn K (n:=2) rfl (aZ (br 0 (show(["trail","least","bridge","moved"]:List Str).Nodup by decide +kernel)) (aZ (br 1 (show(["trail","least","bridge","moved"]:List Str).Nodup by decide +kernel)) gC)))) (fun _ _ _ _=>bK) (fun _ _ _ _=>(kY (aO eI (pv 1) (pv 3) (aN _)) (aK fb (pv 0) (pv 2)) (pv 0))))
   (av (aF (i:=1) aY.nd rfl (Or.inl rfl) (aI ck hr T.eB.c aP (aa (pv 1) (aa (pv 4) (aa (pv 5) af))))))))) bh)))))
   (av (aH (pv 2)))))),?_⟩
  refine qg ?_;intro cE cR dZ fR iT uv Ak L7 L8 Ma;obtain⟨bt,xs,h1,h2,h3⟩:=id hw.ex;have wp:=g.p2;have wl:=g.len;have yJ:=h3.length;refine(au rfl (cy (aV.of h1) (ao (j:=0) rfl) (au rfl (fun r hr=>⟨r,p,rfl,ae,by lia,fun l hl=>?_⟩))))
  have s1:aq H (upd (upd H r (.DW 0 (p:Int))) l (.lst (uW p))):=(aq.new hr).trans (aq.new hl);have hl1:upd (upd H r (.DW 0 (p:Int))) l (.lst (uW p)) l=some (.lst (b7 (g.N.dI 0) p)):=ae;generalize upd (upd H r (.DW 0 (p:Int))) l (.lst (uW p))=H1 at s1 hl1;refine⟨dl rfl,fun l0 C9=>?_⟩
  have s0:aq H1 (upd H1 l0 (.lst [.int 0])):=aq.new C9;refine(au rfl (cy (aV.of (s0 _ _ (s1 _ _ h1))) (ao (j:=0) rfl) ⟨l0,(p:Int),au rfl ⟨rfl,ae,by lia,by lia,(by rw[Int.toNat_natCast];show 1*p<=sizeLine;exact dl (Nat.ble_eq.mpr (by lia))),fun e he=>?_⟩⟩))
  have s2:=s0.trans (aq.new (o:=.lst (List.replicate (p:Int).toNat [V.int 0]).flatten) he);have Ks:upd (upd H1 l0 (.lst [.int 0])) e (.lst (List.replicate (p:Int).toNat [V.int 0]).flatten) e=some (.lst (b7 (g.N.trail 0) p)):=by
   rw[ae,Int.toNat_natCast,zB];rfl
  generalize upd (upd H1 l0 (.lst [.int 0])) e (.lst (List.replicate (p:Int).toNat [V.int 0]).flatten)=H2 at s2 Ks;refine(au rfl (cy (aV.of ((s1.trans s2) _ _ h1)) (ao (j:=1) rfl) (qa rfl (.inr (aV.of ((s1.trans s2) _ _ h2))) (au rfl ⟨(by lia),(by lia),?_⟩))))
  refine gh (lo:=0) (n:=(xs.length:Int).toNat) (fun k σ H3=>∃ la ta v3 v4 v5 v6 v7,σ=[some (.ref wb),some (.ref la),some (.ref ta),v3,v4,v5,v6,v7]/\aq H H3/\H3 la=some (.lst (b7 (g.N.dI k) p))/\H3 ta=some (.lst (b7 (g.N.trail k) p))/\H ta=none)
   ⟨l,e,none,none,none,none,none,rfl,s1.trans s2,s2 _ _ hl1,Ks,s1.free (s0.free he)⟩ ?_ ?_
  ·rintro k D' σ H3 hk ⟨la,ta,v3,v4,v5,v6,v7,rfl,s3,hla,Mf,LW⟩;rw[Int.toNat_natCast,yJ]at hk;rw[Int.zero_add];obtain⟨c,hxc,hct⟩:=CD (g:=g) h3 hk;have hA:=g.N.al k hk;have hB:=g.N.bl k hk;have hls:=RM.zw (N:=g.N) k;have Lh:g.N.iW k = !decide (g.N.dI k (g.N.a k)=g.N.dI k (g.N.b k)):=rfl;have htr:g.N.trail (k+1)=if g.N.iW k=true then fun v=>if g.N.dI k v=max (g.N.dI k (g.N.a k)) (g.N.dI k (g.N.b k)) then g.N.trail k v^^^(g.N.trail k (g.N.a k)^^^g.N.trail k (g.N.b k)^^^2^k) else g.N.trail k v else g.N.trail k:=rfl
   generalize g.N.a k=A0 at *;generalize g.N.b k=B0 at *;refine(au rfl (cy (aV.of (s3 _ _ h1)) (ao (j:=1) rfl) (au rfl (cy (aV.of (s3 _ _ h2)) (ao (j:=k) hxc) (cy (aV.of (s3 _ _ hct)) (ao (j:=0) rfl) (?_))))));refine(au rfl (cy (aV.of (s3 _ _ h1)) (ao (j:=1) rfl) (au rfl (cy (aV.of (s3 _ _ h2)) (ao (j:=k) hxc) (cy (aV.of (s3 _ _ hct)) (ao (j:=1) rfl) (?_))))));refine(au rfl (au rfl (ju (aL.of hla) (ao (j:=A0) (bH hA)) (au rfl (au rfl (ju (aL.of hla) (ao (j:=B0) (bH hB)) ⟨rfl,au rfl (?_)⟩))))));rw[i9]
   by_cases he:g.N.dI k A0=g.N.dI k B0
   ·rw[decide_eq_true he]at Lh;rw[Lh,if_neg (by decide)]at hls htr
    rw[decide_eq_true he];exact fQ ⟨la,ta,_,_,_,_,_,rfl,s3,by rw[hls];exact hla,by rw[htr];exact Mf,LW⟩
   ·rw[decide_eq_false he]at Lh;rw[Lh,if_pos (by rfl)]at hls htr
    rw[decide_eq_false he];have Yv:Builtin.bitXor (Builtin.bitXor ((g.N.trail k A0:Nat):Int) ((g.N.trail k B0:Nat):Int)) (1*2^(k:Int).toNat)=((g.N.trail k A0^^^g.N.trail k B0^^^2^k:Nat):Int):=by
     rw[l9,xor_int,xor_int]
    refine fV (au rfl (au rfl (ju (aL.of Mf) (ao (j:=A0) (bH hA)) (au rfl (au rfl (ju (aL.of Mf) (ao (j:=B0) (bH hB)) (cj (au rfl (cj ⟨⟨by lia,by lia,by decide⟩,cj (?_)⟩)))))))))
    refine(au rfl (au rfl (ju (aL.of hla) (ao (j:=A0) (bH hA)) (au rfl (au rfl (ju (aL.of hla) (ao (j:=B0) (bH hB)) ⟨_,_,rfl,?_⟩))))));refine(au rfl (au rfl ⟨ta,la,rfl,⟨_,aL.of Mf⟩,⟨_,aL.of hla⟩,fun D hD=>G3 (xs:=b7 (g.N.trail k) p) (ys:=b7 (g.N.dI k) p) (by rw[bL,bL]) (sX (g.N.trail (k+1)) H3 D) (.start hD) (fun i acc H4 _ pd=>⟨aL.of (pd.1 _ _ Mf),aL.of (pd.1 _ _ hla),pd.len⟩) (by rw[bL];exact dl (Nat.ble_eq.mpr (by lia))) ?_ ?_⟩))
    ·intro i x y T0 acc H4 hx hy pd hT;obtain⟨hi,rfl⟩:=i8 hx;obtain⟨_,rfl⟩:=i8 hy;refine⟨T0,_,rfl,aV.of ae,rfl,_,_,rfl,_,_,rfl,rfl,rfl,au rfl (au rfl ⟨rfl,au rfl (?_)⟩)⟩;rw[Dr,i9]
     by_cases hm:g.N.dI k i=max (g.N.dI k A0) (g.N.dI k B0)
     ·rw[decide_eq_true hm];refine fV (au rfl (au rfl (cj (pd.next hD (aq.new hT) ?_))));show V.int (Builtin.bitXor _ (Builtin.bitXor (Builtin.bitXor _ _) _))=_;rw[Yv,xor_int,htr];show _=V.int (((if _ then _ else _:Nat)):Int)
      rw[if_pos hm]
     ·rw[decide_eq_false hm];refine fQ (au rfl (pd.next hD (aq.new hT) ?_));rw[htr];show _=V.int (((if _ then _ else _:Nat)):Int)
      rw[if_neg hm]
    ·intro acc H4 pd;rw[bL]at pd;have uR:H4 D=some (.lst (b7 (g.N.trail (k+1)) p)):=by rw[pd.2.1,pd.2.2]
     refine(au rfl (au rfl (au rfl ⟨la,g.N.dI k,p,A0,B0,rfl,pd.1 _ _ hla,wp,hA,hB,fun D2 H5 hn5 s5 iS=>?_⟩)))
     exact⟨D2,D,_,_,_,_,_,rfl,(s3.trans pd.1).trans s5,by rw[hls];exact iS,s5 _ _ uR,s3.free hD⟩
  ·rintro σ H3 ⟨la,ta,v3,v4,v5,v6,v7,rfl,s3,hla,Mf,LW⟩;rw[Int.toNat_natCast,yJ]at Mf;exact(au rfl (q ta H3 LW s3 Mf))
theorem uJ:Ok T T.uF 3 FQ:=by
 have bB:=bB T;refine T.uF.ok mL fun cdv A outer s H vs Q E hr h=>?_
 ·obtain⟨wb,p,ts,g,rfl,hw,q⟩:=h;refine⟨_,(ak (aF (i:=1) mL.nd rfl (Or.inl rfl) ai)
   (ak (eJ PassesOwn.never rfl (mW K (aI bB hr T.c9.c aP (aa (pv 0) af))) (br 2 mL.nd)
   (av (xm (i:=1) mL.nd rfl (Or.inl rfl) (pv 2) Gx)))
   (av (aH (pv 1))))),?_⟩
  refine E3 ?_;intro cE cR dZ;refine(au rfl ⟨wb,p,ts,g,rfl,hw,fun D H1 Jf s1 hD=>⟨D,rfl,⟨_,aL.of hD⟩,?_⟩⟩)
  refine dm (K:=K) (a:=D) (xs:=b7 (g.N.trail ts.length) p) (fun i σ H2=>∃ v2,σ=[some (.ref wb),some (.int ((Oo (g.N.trail ts.length) i:Nat):Int)),v2]/\H2=H1) ⟨none,rfl,rfl⟩ (fun i σ H2 _ ⟨_,_,z⟩=>by rw[z];exact aL.of hD) ?_ ?_
  ·rintro i x D' σ H2 hx ⟨v2,rfl,rfl⟩;obtain⟨hi,rfl⟩:=i8 hx;refine(au rfl (au rfl (cj ⟨some (.int ((g.N.trail ts.length i:Nat):Int)),?_,rfl⟩)));show[_,some (V.int (Builtin.bitOr _ _)),_]=_;rw[or_int];rfl
  ·rintro σ H2 ⟨v2,rfl,rfl⟩;rw[bL,BD];exact(au rfl (q _ s1))
theorem fO:Ok T T.lP 4 FT:=by
 have uJ:=uJ T;have cZ:=cZ T;have bU:=bU T;refine T.lP.ok E4 fun cdv A outer s H vs Q E hr h=>?_
 ·obtain⟨wb,p,ts,g,rfl,hw,q⟩:=h;refine⟨_,(av (aH (aI bU hr T.gp.c aP (aa (aK fb (aI cZ hr T.iV.c aP (aa (pv 0) af)) (aI uJ hr T.uF.c aP (aa (pv 0) af))) af)))),?_⟩;have wl:=g.len;refine(au rfl ⟨wb,p,ts,rfl,hw,g.G8,_,rfl,wb,p,ts,g,rfl,hw,fun H1 s1=>(cj ⟨(2^ts.length-1)^^^ja p ts g,?_,?_,fun D H2 Jf s2 hD=>?_⟩)⟩)
  ·show[V.int (Builtin.bitXor _ _)]=_;rw[KG,xor_int]
  ·exact Nat.le_trans (bits_le vX) (by lia)
  ·rw[zC]at hD;exact q D H2 (s1.free Jf) (s1.trans s2) hD
theorem jD:Ok T T.jA 1 uI:=by
 refine T.jA.ok lJ fun cdv A outer s H vs Q E hr h=>?_
 ·obtain⟨wb,p,ts,g,D,c,rfl,hw,hD,hc,q⟩:=h;refine⟨_,(ak (aF (i:=3) lJ.nd rfl (Or.inl rfl) (aG (cu K) (aG (cu K) (pv 0) ai) (pv 2)))
   (av (aH (aK fb (aK fb (aG (jH K) (pv 1) (aG (cu K) (pv 3) ai)) (aG (jH K) (pv 1) (aG (cu K) (pv 3) ai))) (aK kZ ai (pv 2)))))),?_⟩
  refine gE ?_;intro cE;obtain⟨bt,xs,h1,h2,h3⟩:=id hw.ex;have wl:=g.len;obtain⟨b,hxc,hct⟩:=CD (g:=g) h3 hc;have hA:=g.N.al c hc;have hB:=g.N.bl c hc;refine(au rfl (cy (aV.of h1) (ao (j:=1) rfl) (au rfl (cy (aV.of h2) (ao (j:=c) hxc) (?_)))));refine(au rfl (au rfl (cy (aV.of hct) (ao (j:=0) rfl) (ju (aL.of hD) (ao (j:=g.N.a c) (bH hA)) (au rfl (au rfl (cy (aV.of hct) (ao (j:=1) rfl) (ju (aL.of hD) (ao (j:=g.N.b c) (bH hB)) (cj (au rfl (cj ⟨⟨by lia,by lia,by decide⟩,cj (?_)⟩)))))))))))
  show Q (V.int (Builtin.bitXor (Builtin.bitXor _ _) _)) H;rw[l9,xor_int,xor_int];exact q
def vy(C:Addr):Sp:=fun vs H Q E=>∃ w p ts,∃ g:aD p ts,∃ S,vs=[.ref w,.int S]/\bg H w p ts/\
 ((∃ c:Nat,S=(c:Int)/\c∈g.N.ay/\∀ H',aq H H'->Q (.int ((g.N.ring c:Nat):Int)) H')\/((∀ c∈g.N.ay,S≠((c:Nat):Int))/\∀ H',aq H H'->E (.ref C) none H'))
theorem eE:FJ T T.ie 5 (vy a.qB):=by
 have fO:=fO T;have bB:=bB T;have jD:=jD T;refine T.ie.Bv u6 fun cdv A outer s H vs Q E hr h=>?_
 ·obtain⟨wb,p,ts,g,S,rfl,hw,q⟩:=h;refine⟨_,(ak (cJ (aO (Bu K) (pv 1) (aI fO hr T.lP.c aP (aa (pv 0) af)) (by with_unfolding_all rfl)) (av (sO eO.S6 rfl (by rfl) T.FH PySem.F.excBase_ValueError (aa pe af))) bh)
   (av (aH (aI jD hr T.jA.c aP (aa (pv 0) (aa (aI bB hr T.c9.c aP (aa (pv 0) af)) (aa (pv 1) af))))))),?_⟩
  refine gF ?_;intro cE cR;refine(au rfl (au rfl ⟨wb,p,ts,g,rfl,hw,fun D H1 Jf s1 hD=>(qa rfl (.inl (aL.of hD)) ⟨rfl,mh _,_,rfl,?_⟩)⟩))
  rcases q with⟨c,rfl,hc,q⟩|⟨hS,q⟩
  ·rw[lq,decide_eq_true hc];refine fQ (au rfl (au rfl ⟨wb,p,ts,g,rfl,hw.same s1,fun D2 H2 hn2 s2 iS=>(au rfl ⟨wb,p,ts,g,D2,c,rfl,hw.same (s1.trans s2),iS,(RM.aR.mp hc).1,q _ (s1.trans s2)⟩)⟩))
  ·rw[M6 hS];exact fV ⟨dl rfl,q _ s1⟩
def FU:Sp:=fun vs H Q _=>∃ S1 S2,∃ a b:Nat,vs=[.int S1,.int S2]/\S1=(a:Int)/\S2=(b:Int)/\Builtin.Int.intBits ((a&&&b:Nat):Int)<=1000/\∀ H',aq H H'->Q (.int (((bu ((a&&&b:Nat):Int)).length:Nat):Int)) H'
def Jh:Sp:=fun vs H Q _=>∃ S1 S2,∃ a b:Nat,vs=[.int S1,.int S2]/\S1=(a:Int)/\S2=(b:Int)/\Builtin.Int.intBits ((a&&&b:Nat):Int)<=1000/\∀ H',aq H H'->Q (.bl (decide ((bu ((a&&&b:Nat):Int)).length%2=1))) H'
structure NT(p:Nat)(xs:List Nat):Prop where
 up:xs.Pairwise (· < ·)
 lt:∀ x∈xs,x<p
def CF:Sp:=fun vs H Q _=>∃ w p ts,∃(l:Addr) (xs:List Nat),vs=[.ref w,.ref l]/\bg H w p ts/\H l=some (.lst (aA xs))/\NT p xs/\Q (.bl true) H
def FW:Sp:=fun vs H Q _=>∃ w p ts,∃(l:Addr) (ks:List Nat),vs=[.ref w,.ref l]/\bg H w p ts/\Kv p ts/\H l=some (.lst (aA ks))/\(∀ k∈ks,k<ts.length)/\Q (.int ((orM ks:Nat):Int)) H
def FY:Sp:=fun vs H Q _=>∃ w p ts,∃ g:aD p ts,∃(l:Addr) (xs:List Nat),vs=[.ref w,.ref l]/\bg H w p ts/\H l=some (.lst (aA xs))/\NT p xs/\
 ∀ H',aq H H'->Q (.int ((g.N.cut (fun x=>decide (x∈xs)):Nat):Int)) H'
theorem AQ(p:Nat)(f:Nat->Bool):NT p ((List.range p).filter f):=⟨BC,fun x hx=>List.mem_range.mp (List.mem_filter.mp hx).1⟩
theorem Li(n:Nat):decide (V.int (((n:Nat):Int)%2)=V.int 1)=decide (n%2=1):=decide_eq_decide.mpr ⟨fun z=>by have:=V.int.inj z;lia,fun z=>congrArg V.int (by lia)⟩
theorem uK:Ok T T.uG 3 FU:=by
 have bU:=bU T;refine T.uG.ok E5 fun cdv A outer s H vs Q E hr h=>?_
 ·obtain⟨S1,S2,u,v,rfl,rfl,rfl,hb,q⟩:=h;refine⟨_,(av (aH (aM (iH K) (by rfl) T.dc PySem.boot_len (aa (aI bU hr T.gp.c aP (aa (aK Gw (pv 0) (pv 1)) af)) af)))),?_⟩
  refine(au rfl (au rfl (cj ⟨u&&&v,?_,hb,fun D H1 hn s1 hD=>(qa rfl (.inl (aL.of hD)) (?_))⟩)))
  ·show[V.int (Builtin.bitAnd _ _)]=_;rw[and_int]
  ·rw[aC];exact q H1 s1
theorem dw:Ok T T.gG 4 Jh:=by
 have uK:=uK T;refine T.gG.ok uA fun cdv A outer s H vs Q E hr h=>?_
 ·obtain⟨S1,S2,u,v,rfl,rfl,rfl,hb,q⟩:=h;refine⟨_,(av (aH (cD eI (aK dB (aI uK hr T.uG.c aP (aa (pv 0) (aa (pv 1) af))) ai) ai (aN _)))),?_⟩;refine(au rfl (au rfl ⟨_,_,u,v,rfl,rfl,rfl,hb,fun H1 s1=>(cj ⟨(nk rfl),rfl,?_⟩)⟩))
  rw[Li];exact q H1 s1
theorem qN:Ok T T.qD 1 CF:=by
 refine T.qD.ok j7 fun cdv A outer s H vs Q E hr h=>?_
 ·obtain⟨wb,p,ts,l,zs,rfl,hw,hl,sd,q⟩:=h;refine⟨_,(ak (aF (i:=2) j7.nd rfl (Or.inl rfl) (Pe Mz ai))
   (ak (eJ PassesOwn.never rfl (mW K (pv 1)) (br 3 j7.nd)
   (ak (cJ (PW.pt (sy (aO Gz (pv 3) (pv 2) (aN _)) (pq (aO GA (pv 3) (aG (cu K) (pv 0) ai) (aN _))))) (av (aH nR)) bh)
   (av (aF (i:=2) j7.nd rfl (Or.inl rfl) (pv 3)))))
   (av (aH nR)))),?_⟩
  refine wW ?_;intro cE cR dZ fR iT;obtain⟨bt,xs,h1,h2,h3⟩:=id hw.ex;refine(au rfl (au rfl ⟨l,rfl,⟨_,aL.of hl⟩,sF (K:=K) (a:=l) (xs:=aA zs) (fun i σ H2=>∃ z v3,σ=[some (.ref wb),some (.ref l),some (.int z),v3]/\H2=H/\∀ x∈zs.drop i,z<(x:Int)) ⟨_,none,rfl,rfl,fun x _=>by show(-1:Int)<_;lia⟩ (fun i σ H2 _ ⟨_,_,_,z,_⟩=>by rw[z];exact aL.of hl) ?_ ?_⟩))
  ·rintro i y σ H2 hy ⟨z,v3,rfl,rfl,hz⟩;obtain⟨x,hx,rfl⟩:=cg hy;have hdr:zs.drop i=x::zs.drop (i+1):=by
    obtain⟨hi,e⟩:=List.getElem?_eq_some_iff.mp hx;rw[List.drop_eq_getElem_cons hi,e]
   have hzx:=hz x (by rw[hdr];exact List.mem_cons_self)
   have hxp:=sd.lt x (List.mem_of_getElem? hx);refine(au rfl (au rfl (cj (au rfl (Eh (by lia) (au rfl (au rfl (cy (aV.of h1) (ao (j:=0) rfl) (cj (au rfl (Eh (by lia) ?_)))))))))))
   refine(au rfl ⟨(x:Int),au rfl ⟨rfl,fun y hy=>?_⟩⟩)
   have pw:(zs.drop i).Pairwise (· < ·):=sd.up.sublist (List.drop_sublist _ _);rw[hdr]at pw;have:=(List.pairwise_cons.mp pw).1 y hy
   lia
  ·rintro σ H2 ⟨z,v3,rfl,rfl,_⟩;exact q
theorem uL:Ok T T.uE 1 FW:=by
 refine T.uE.ok mK fun cdv A outer s H vs Q E hr h=>?_
 ·obtain⟨wb,p,ts,l,ks,rfl,hw,W,hl,hk,q⟩:=h;refine⟨_,(ak (aF (i:=2) mK.nd rfl (Or.inl rfl) ai)
   (ak (eJ PassesOwn.never rfl (mW K (pv 1)) (br 3 mK.nd)
   (ak (cJ (PW.pt (sy (aO C4 (pv 3) ai (aN _)) (pq (aO GA (pv 3) (aM (iH K) (by rfl) T.dc PySem.boot_len (aa (aG (cu K) (pv 0) ai) af)) (aN _))))) vF bh)
   (av (xm (i:=2) mK.nd rfl (Or.inl rfl) (aK kZ ai (pv 3)) Gx))))
   (av (aH (pv 2))))),?_⟩
  refine wW ?_;intro cE cR dZ fR iT;obtain⟨bt,xs,h1,h2,h3⟩:=id hw.ex;have yJ:=h3.length;have wl:=W.len;refine(au rfl ⟨l,rfl,⟨_,aL.of hl⟩,sF (K:=K) (a:=l) (xs:=aA ks) (fun i σ H2=>∃ v3,σ=[some (.ref wb),some (.ref l),some (.int ((orM (ks.take i):Nat):Int)),v3]/\H2=H) ⟨none,rfl,rfl⟩ (fun i σ H2 _ ⟨_,_,z⟩=>by rw[z];exact aL.of hl) ?_ ?_⟩)
  ·rintro i x σ H2 hx ⟨v3,rfl,rfl⟩;obtain⟨k,hki,rfl⟩:=cg hx;have hkn:=hk k (List.mem_of_getElem? hki);refine(au rfl (cj (au rfl (Eh (by lia) (au rfl (au rfl (cy (aV.of h1) (ao (j:=1) rfl) (qa rfl (.inr (aV.of h2)) (cj (au rfl (Eh (by lia) ?_)))))))))))
   refine(au rfl (au rfl (cj ⟨⟨by lia,by lia,by decide⟩,cj ⟨some (.int (k:Int)),?_,rfl⟩⟩)))
   show[_,_,some (V.int (Builtin.bitOr _ (1*2^(k:Int).toNat))),_]=_;rw[l9,or_int,List.take_add_one,hki];unfold Ring.orM;rw[List.foldl_append];rfl
  ·rintro σ H2 ⟨v3,rfl,rfl⟩;rw[aC,List.take_length];exact(au rfl (q))
theorem uM:Ok T T.uH 2 FY:=by
 have qN:=qN T;have uL:=uL T;refine T.uH.ok E6 fun cdv A outer s H vs Q E hr h=>?_
 ·obtain⟨wb,p,ts,g,l,zs,rfl,hw,hl,sd,q⟩:=h;refine⟨_,(ak (cJ (pA (dJ (aI qN hr T.qD.c aP (aa (pv 0) (aa (pv 1) af))))) vF bh)
   (av (aH (aI uL hr T.uE.c aP (aa (pv 0) (aa (bj (own:=["k","tie"]) (frees:=["side"]) (js:=[1]) (aB (ah oW) ["web","side"]) rfl (zG K (by rfl) T.jn (aa (aG (cu K) (pv 0) ai) af)) (fun _ _ _ _=>(Kn K (n:=2) rfl (aZ (br 0 (show(["k","tie","side"]:List Str).Nodup by decide +kernel)) (aZ (br 1 (show(["k","tie","side"]:List Str).Nodup by decide +kernel)) gC)))) (fun _ _ _ _=>(dU (aO C3 (cD (RE K) (aG (cu K) (pv 1) ai) (pv 2) (by with_unfolding_all rfl)) (cD (RE K) (aG (cu K) (pv 1) ai) (pv 2) (by with_unfolding_all rfl)) (aN _)))) (fun _ _ _ _=>(pv 0))) af)))))),?_⟩
  refine gF ?_;intro cE cR;obtain⟨bt,xs,h1,h2,h3⟩:=id hw.ex;have yJ:=h3.length;have wl:=g.len;refine(au rfl (au rfl ⟨wb,p,ts,l,zs,rfl,hw,hl,sd,_,rfl,fQ ?_⟩));refine(au rfl (au rfl (cy (aV.of h1) (ao (j:=1) rfl) ⟨bt,rfl,⟨_,aV.of h2⟩,fun D hD=>BK (xs:=xs) (mX (fun k=>decide (g.N.a k∈zs)^^decide (g.N.b k∈zs)) H D) (.start hD) (fun i acc H2 _ pk=>⟨aV.of (pk.1 _ _ h2),pk.len⟩) (cV (by lia)) ?_ ?_⟩)))
  ·intro i x T0 acc H2 hx pk hT;have hi:i<ts.length:=by have:=(List.getElem?_eq_some_iff.mp hx).1;lia
   obtain⟨b,hxb,hct⟩:=CD (g:=g) h3 hi;rw[hx]at hxb;cases hxb;have QX:upd H2 T0 (.tup [.int (i:Int),.ref b]) b=some _:=aq.new hT _ _ (pk.1 _ _ hct);have hl2:upd H2 T0 (.tup [.int (i:Int),.ref b]) l=some _:=aq.new hT _ _ (pk.1 _ _ hl);refine⟨T0,_,rfl,aV.of ae,rfl,_,_,rfl,_,_,rfl,rfl,rfl,?_⟩;refine(au rfl (cy (aV.of QX) (ao (j:=0) rfl) (au rfl (qa rfl (.inl (aL.of hl2)) ⟨rfl,mh _,_,rfl,cy (aV.of QX) (ao (j:=1) rfl) (au rfl (qa rfl (.inl (aL.of hl2)) ⟨rfl,mh _,rfl,au rfl (?_)⟩))⟩))));rw[lq,lq];cases e1:decide (g.N.a i∈zs)<;>cases e2:decide (g.N.b i∈zs)
   ·exact pk.no (aq.new hT) (by rw[e1,e2];rfl)
   ·exact(au rfl (pk.yes hD (aq.new hT) (by rw[e1,e2];rfl)))
   ·exact(au rfl (pk.yes hD (aq.new hT) (by rw[e1,e2];rfl)))
   ·exact pk.no (aq.new hT) (by rw[e1,e2];rfl)
  ·intro acc H2 pk;refine⟨wb,p,ts,D,_,rfl,hw.same pk.1,g.G8,by rw[pk.2.1,pk.2.2],fun k hk=>?_,?_⟩
   ·have:=List.mem_range.mp (List.mem_filter.mp hk).1
    lia
   ·rw[BL,yJ];exact q H2 pk.1
def rA(p:Nat)(ts:List c5)(g:aD p ts)(m:Nat):List Nat:=(List.range p).filter fun x=>g.N.par (g.N.trail ts.length x) m
def Told(p:Nat)(ts:List c5)(g:aD p ts)(m:Nat)(H H' : Hp)(t:Addr):Prop :=
 (m=g.N.cut (fun x=>decide (x∈rA p ts g m))/\∃ l,H l=none/\H' t=some (.tup [.str "side",.ref l])/\H' l=some (.lst (aA (rA p ts g m))))\/
 (∃ c,c∈g.N.ay/\g.N.par (g.N.ring c) m=true/\H' t=some (.tup [.str "ring",.int ((g.N.ring c:Nat):Int)]))
def CG(C:Addr):Sp:=fun vs H Q E=>∃ w p ts,∃ g:aD p ts,∃ S,vs=[.ref w,.int S]/\bg H w p ts/\o6 ts S (E (.ref C) none H) fun m=>∀ t H',H t=none->aq H H'->Told p ts g m H H' t->Q (.ref t) H'
theorem AR{p:Nat}{ts:List c5}{g:aD p ts}{m:Nat}:g.N.cut (fun x=>decide (x∈rA p ts g m))=g.N.cut fun x=>g.N.par (g.N.trail g.N.n x) m:=RM.Ex fun x hx=>by
 unfold rA;rw[Bool.eq_iff_iff,decide_eq_true_eq,List.mem_filter,List.mem_range];exact⟨fun z=>z.2,fun z=>⟨hx,z⟩⟩
theorem CH{m:Nat}(h:m≠0):∃ c,(bu (m:Int))[0]?=some c/\m.testBit c=true:=by
 obtain⟨k,hk⟩:=Nat.exists_testBit_of_ne_zero h;have hm:k∈bu (m:Int):=by
  unfold bu;refine List.mem_filter.mpr ⟨List.mem_range.mpr (Nat.lt_of_not_le fun z=>?_),by rw[fE];exact hk⟩
  have:=zo z;rw[fE,hk]at this;cases this
 cases e:bu (m:Int) with
 | nil =>
   rw[e]at hm;cases hm
 | cons c r =>
   have hc:c∈bu (m:Int):=by rw[e];exact List.mem_cons_self
   unfold bu at hc;have:=(List.mem_filter.mp hc).2;rw[fE]at this;exact⟨c,rfl,this⟩
theorem fk{u v:Nat}(h:u^^^v=0):u=v:=by
 have:=congrArg (fun x=>x^^^v) h
 simpa[Nat.xor_assoc]using this
theorem Ji(n:Nat):decide (V.int ((n:Nat):Int)=V.int 0)=decide (n=0):=decide_eq_decide.mpr ⟨fun z=>by have:=V.int.inj z;lia,fun z=>by rw[z];rfl⟩
theorem qO:FJ T T.qF 6 (CG a.dP):=by
 have cG:=cG T;have bB:=bB T;have dw:=dw T;have uM:=uM T;have bU:=bU T;have eE:=eE T;refine T.qF.Bv j8 fun cdv A outer s H vs Q E hr h=>?_
 ·obtain⟨wb,p,ts,g,S,rfl,hw,q⟩:=h;refine⟨_,(ak (cK (aI cG hr T.gO.c eO.passes (aa (pv 0) (aa (pv 1) af))))
   (ak (aF (i:=2) j8.nd rfl (Or.inr rfl) (aI bB hr T.c9.c aP (aa (pv 0) af)))
   (ak (g9 (i:=3) j8.nd rfl rfl (own:=["point"]) (frees:=["tie_set","trails"]) (js:=[1,2]) (aB (ah mP) ["web","tie_set","trails","side","amiss"]) rfl (bF (by rfl) T.bW (aa (aG (cu K) (pv 0) ai) af)) (fun _ _ _ _=>(br 0 (show(["point","tie_set","trails"]:List Str).Nodup by decide +kernel))) (fun _ _ _ _=>(dU (dJ (aI dw hr T.gG.c aP (aa (aG (jH K) (pv 2) (pv 0)) (aa (pv 1) af)))))) (fun _ _ _ _=>(pv 0)))
   (ak (aF (i:=4) j8.nd rfl (Or.inl rfl) (aK fb (pv 1) (aI uM hr T.uH.c aP (aa (pv 0) (aa (pv 3) af)))))
   (ak (cJ (aO eI (pv 4) ai (aN _)) (av (aH (cU (aa pe (aa (pv 3) af))))) bh)
   (av (aH (cU (aa pe (aa (aI eE hr T.ie.c eO.passes (aa (pv 0) (aa (aG (jH K) (aI bU hr T.gp.c aP (aa (pv 4) af)) ai) af))) af)))))))))),?_⟩
  refine Cd ?_;intro cE cR dZ fR iT uv;obtain⟨bt,xs,h1,h2,h3⟩:=id hw.ex;have wl:=g.len;have wp:=g.p2;have W:=g.G8;rcases q with⟨m,rfl,hm,q⟩|⟨hS,q⟩
  case inr=>exact(au rfl (au rfl ⟨wb,p,ts,_,rfl,hw,W,.inr ⟨hS,q⟩⟩))
  refine(au rfl (au rfl ⟨wb,p,ts,_,rfl,hw,W,.inl ⟨m,rfl,hm,?_⟩⟩));refine(au rfl ⟨wb,p,ts,g,rfl,hw,fun D H1 hn1 s1 hD=>?_⟩)
  refine(au rfl (cy (aV.of (s1 _ _ h1)) (ao (j:=0) rfl) (au rfl ⟨(by lia),(by lia),fun C hC=>bX (lo:=0) (m:=(p:Int).toNat) (mX (fun x=>g.N.par (g.N.trail ts.length x) m) H1 C) (.start hC) (fun i acc H2 _ pk=>pk.len) (cV (by lia)) ?_ ?_⟩)))
  ·intro i acc H2 hi pk;rw[Int.toNat_natCast]at hi;rw[Int.zero_add];have Jj:Builtin.Int.intBits ((g.N.trail ts.length i&&&m:Nat):Int)<=1000:=Nat.le_trans (bits_le (Nat.and_lt_two_pow _ hm)) (by lia)
   refine⟨rfl,au rfl (au rfl (ju (aL.of (pk.1 _ _ hD)) (ao (j:=i) (bH hi)) (au rfl ⟨_,_,g.N.trail ts.length i,m,rfl,rfl,rfl,Jj,fun H3 s3=>(au rfl (?_))⟩)))⟩
   rw[DA (g:=g) hm];cases hb:g.N.par (g.N.trail ts.length i) m with
   | true=>exact(au rfl (pk.yes hC s3 hb))
   | false=>exact pk.no s3 hb
  ·intro acc H2 pk;have yV:H2 C=some (.lst (aA (rA p ts g m))):=by rw[pk.2.1,pk.2.2,Int.toNat_natCast];rfl
   have s12:=s1.trans pk.1;refine(au rfl (au rfl (au rfl ⟨wb,p,ts,g,C,_,rfl,hw.same s12,yV,AQ p _,fun H3 s3=>(cj (?_))⟩)))
   have qK:=s12.trans s3;dsimp only;rw[xor_int,AR];have ac:=fun k=>RM.zI (N:=g.N) (m:=m) (k:=k) hm
   have hlt:(m^^^g.N.cut fun x=>g.N.par (g.N.trail g.N.n x) m)<2^ts.length:=Nat.xor_lt_two_pow hm (RM.Na _)
   have hz:(m^^^g.N.cut fun x=>g.N.par (g.N.trail g.N.n x) m)=0->m=g.N.cut (fun x=>decide (x∈rA p ts g m)):=fun z=>by rw[AR];exact fk z
   generalize (m^^^g.N.cut fun x=>g.N.par (g.N.trail g.N.n x) m)=A at ac hlt hz
   refine(au rfl ⟨rfl,au rfl (?_)⟩);rw[Ji]
   by_cases hA:A=0
   ·rw[decide_eq_true hA];refine fV (au rfl ⟨dl rfl,fun t ht=>q t _ (qK.free ht) (qK.trans (aq.new ht)) (.inl ⟨hz hA,C,s1.free hC,ae,aq.new ht _ _ (s3 _ _ yV)⟩)⟩)
   ·rw[decide_eq_false hA];obtain⟨c,hc0,hcb⟩:=CH hA;obtain⟨hcn,hcf,hcp⟩:=ac c hcb;refine fQ (au rfl (au rfl ⟨A,rfl,Nat.le_trans (bits_le hlt) (by lia),fun D4 H4 Yu s4 uR=>(ju (aL.of uR) (ao (j:=0) (xG hc0)) ⟨wb,p,ts,g,_,rfl,hw.same (qK.trans s4),.inl ⟨c,rfl,RM.aR.mpr ⟨hcn,hcf⟩,fun H5 s5=>⟨dl rfl,fun t ht=>?_⟩⟩⟩)⟩))
    have VB:=(qK.trans s4).trans s5;exact q t _ (VB.free ht) (VB.trans (aq.new ht)) (.inr ⟨c,RM.aR.mpr ⟨hcn,hcf⟩,hcp,ae⟩)
def yK(C:Addr):Sp:=fun vs H Q E=>∃ w p ts S,vs=[.ref w,.int S]/\bg H w p ts/\Kv p ts/\o6 ts S (∀ H',aq H H'->E (.ref C) none H') fun m=>∀ H',aq H H'->Q (.int (lenOf ts m)) H'
theorem fu:FJ T T.jl 5 (yK a.dP):=by
 have cf:=cf T;refine T.jl.Bv yc fun cdv A outer s H vs Q E hr h=>?_
 ·obtain⟨wb,p,ts,S,rfl,hw,W,q⟩:=h;refine⟨_,(av (aH (aM (sumK K rfl) (by rfl) T.Me PyProof.Rows.boot_sum (aa (bj (own:=["tie"]) (frees:=[]) (js:=[]) (aB (ah jf) ["web","tie_set"]) rfl (mW K (aI cf hr T.fN.c eO.passes (aa (pv 0) (aa (pv 1) af)))) (fun _ _ _ _=>(br 0 (show(["tie"]:List Str).Nodup by decide +kernel))) (fun _ _ _ _=>bK) (fun _ _ _ _=>(aG (cu K) (pv 0) ai))) af)))),?_⟩
  refine(au rfl (au rfl ⟨wb,p,ts,S,rfl,hw,W,?_⟩));rcases q with⟨m,rfl,hm,q⟩|⟨hS,q⟩
  ·refine .inl ⟨m,rfl,hm,fun L ys H1 TZ s1 hL pr=>⟨L,rfl,⟨_,aL.of hL⟩,fun D hD=>?_⟩⟩
   have wl:=W.len;have QU:ys.length=(bu (m:Int)).length:=by rw[pr.length,List.length_map]
   have T4:ys.length<=24:=by
    rw[QU];have hb:Builtin.Int.intBits (m:Int)<=ts.length:=bits_le hm;have:=List.length_filter_le (bit (m:Int)) (List.range (Builtin.Int.intBits (m:Int)));rw[List.length_range]at this;exact Nat.le_trans this (by lia)
   refine aX (xs:=ys) (uX (fun k=>(bN ts k).2.2) (bu (m:Int)) H1 D) (.start hD) (fun i acc H2 _ pm=>⟨aL.of (pm.1 _ _ hL),pm.len⟩) (cV T4) ?_ ?_
   ·intro i x acc H2 hx pm;obtain⟨t,ht,c,rfl,hc⟩:=Paired.sN pr hx;rw[List.getElem?_map]at ht;obtain⟨k,hk,rfl⟩:=Option.map_eq_some_iff.mp ht;exact⟨rfl,au rfl (cy (aV.of (pm.1 _ _ hc)) (ao (j:=2) rfl) (pm.next hD (aq.refl _) hk rfl))⟩
   ·intro acc H2 pm;rw[QU]at pm;exact⟨D,_,rfl,aL.of pm.fin,q H2 (s1.trans pm.1)⟩
  ·exact .inr ⟨hS,q _ (aq.refl _)⟩
def jo(ts:List c5)(x y:Nat):Prop:=lenOf ts x<lenOf ts y\/(lenOf ts x=lenOf ts y/\x<=y)
def Jk(t:Addr)(lp:Pos):Sp:=fun vs H Q _=>∃ w p ts,∃ g:aD p ts,∃(l:Addr) (ms:List Nat),vs=[.ref w,.ref l]/\bg H w p ts/\H l=some (.lst (aA ms))/\ms.length<64/\(∀ m∈ms,m<2^ts.length)/\H t=some (.iY (dY (oM "by_length") lp))/\
 ∀ D ms' H',H D=none->aq H H'->H' D=some (.lst (aA ms'))->ms'.Perm ms->ms'.Pairwise (jo ts)->Q (.ref D) H'
theorem Mg:∀{l:List Int},(∀ x∈l,0<=x)->∃ ms:List Nat,l=ms.map (fun x=>((x:Nat):Int))
 | [],_=>⟨[],rfl⟩
 | x::r,h=>by
   obtain⟨ms,e⟩:=Mg (l:=r) fun y hy=>h y (List.mem_cons_of_mem _ hy)
   have hx:=h x List.mem_cons_self;refine⟨x.toNat::ms,?_⟩;rw[List.map_cons,<-e]
   congr 1
   lia
theorem fB:Vy T T.gP 9 (Jk a.dQ cX):=by
 have fu:=fu T;refine T.gP.ok yd fun A outer s H vs Q E hr h=>?_
 ·obtain⟨wb,p,ts,g,l,ms,rfl,hw,hl,h64,hms,htb,q⟩:=h;refine⟨_,(av (aH (IE (x:="ring") (frees:=["web"]) (js:=[0]) hr (aB (ah jh) ["web","rings"]) rfl (by rfl) T.AM rfl T.gP.F.hd (aa (pv 1) af) (fun _ _ _ _ hr=>(cU (aa (aI fu hr T.jl.c qX (aa (pv 1) (aa (pv 0) af))) (aa (pv 0) af))))))),?_⟩
  have W:=g.G8;have wl:=g.len;have big:(2:Nat)^ts.length<=2^24:=Nat.pow_le_pow_right (by decide) wl
  have NU:∀ n,n∈ms.map (fun x=>((x:Nat):Int))->∃ m:Nat,n=(m:Int)/\m∈ms:=fun n hn=>by
   obtain⟨m,hm,rfl⟩:=List.mem_map.mp hn;exact⟨m,rfl,hm⟩
  refine(au rfl ⟨l,ms.map (fun x=>((x:Nat):Int)),fun z=>(lenOf ts z.toNat,z),rfl,by rw[<-iM];exact hl,by rw[List.length_map];exact h64,fun n hn=>?_,htb,fun H3 hk n hn=>?_,fun D ns' H4 hD s4 uR hp hs=>?_⟩)
  ·obtain⟨m,rfl,hm⟩:=NU n hn;have:=hms m hm;exact⟨by show(0:Int)<=(m:Int);lia,by show(m:Int)<1073741824;lia⟩
  ·obtain⟨m,rfl,hm⟩:=NU n hn;have tp:dH H H3:=fun b xs e=>hk b _ e (fun y z=>nomatch z) (fun y z=>nomatch z)
   refine(au rfl (au rfl ⟨wb,p,ts,_,rfl,hw.tups tp,W,.inl ⟨m,rfl,hms m hm,fun H4 s4=>(au rfl ⟨dl rfl,fun d hd=>?_⟩)⟩⟩))
   exact⟨s4.trans (aq.new hd),d,rfl,ae⟩
  ·obtain⟨ms',rfl⟩:∃ ms' : List Nat,ns' = ms'.map (fun x=>((x:Nat):Int)):=by
    refine Mg fun x hx=>?_
    obtain⟨m,rfl,_⟩:=NU x (hp.mem_iff.mp hx)
    lia
   have T5:ms'.Perm ms:=by
    have:=hp.map Int.toNat;rw[List.map_map,List.map_map]at this;have e:∀ l:List Nat,l.map (Int.toNat∘fun x=>((x:Nat):Int))=l:=fun l=>by
     induction l with
     | nil=>rfl
     | cons x r ih=>rw[List.map_cons,ih];rfl
    rw[e,e]at this;exact this
   refine q D ms' H4 hD s4 (by rw[iM];exact uR) T5 ?_
   rw[List.pairwise_map]at hs;refine List.Pairwise.imp_of_mem (fun {x y} hx hy h=>?_) hs
   have hx:=hms x (T5.mem_iff.mp hx);have hy:=hms y (T5.mem_iff.mp hy);have h:lenOf ts x*1073741824+(x:Int)<=lenOf ts y*1073741824+(y:Int):=h;unfold jo
   lia
def Jl:Sp:=fun vs H Q _=>∃ w p ts,∃ g:aD p ts,∃ m:Nat,vs=[.ref w,.int (m:Int)]/\bg H w p ts/\m<2^ts.length/\
 ∀ D es S H',es.length=p->ET m H D es S H'->L1 g.N ts.length S->Q (.ref D) H'
theorem NV{b:Bool}{σ:St}{f:VK}{H:Hp}(h:f (.int (b.toNat:Int)) H):if b=true then tC (.int 1) σ H f else tC (.int 0) σ H f:=by
 cases b<;>exact h
theorem gy:Ok T T.gr 2 Jl:=by
 have cB:=cB T;refine T.gr.ok cF fun cdv A outer s H vs Q E hr h=>?_
 ·obtain⟨wb,p,ts,g,m,rfl,hw,hm,q⟩:=h;refine⟨_,(ak (g9 (i:=2) cF.nd rfl rfl (own:=["point"]) (frees:=[]) (js:=[]) (aB (ah eg) ["web","marks","steps","tie","ends","turn"]) rfl (bF (by rfl) T.bW (aa (aG (cu K) (pv 0) ai) af)) (fun _ _ _ _=>(br 0 (show(["point"]:List Str).Nodup by decide +kernel))) (fun _ _ _ _=>bK) (fun _ _ _ _=>(dD af)))
   (ak (eJ PassesOwn.never rfl (zG K (by rfl) T.jn (aa (aG (cu K) (pv 0) ai) af)) (Kn K (n:=2) rfl (aZ (br 3 cF.nd) (aZ (br 4 cF.nd) gC)))
   (ak (aF (i:=5) cF.nd rfl (Or.inl rfl) (kY (dJ (aI cB hr T.iz.c aP (aa (pv 1) (aa (pv 3) af)))) ai ai))
   (ak (cK (Gf K (kP PySem.F.plainAttrs_list PySem.F.slot_list_append PySem.F.type_list_append cA (aG (jH K) (pv 2) (aG (cu K) (pv 4) ai)) (aa (cU (aa (pv 3) (aa (aG (cu K) (pv 4) ai) (aa (pv 5) af)))) af))))
   (av (cK (Gf K (kP PySem.F.plainAttrs_list PySem.F.slot_list_append PySem.F.type_list_append cA (aG (jH K) (pv 2) (aG (cu K) (pv 4) ai)) (aa (cU (aa (pv 3) (aa (aG (cu K) (pv 4) ai) (aa (pv 5) af)))) af))))))))
   (av (aH (pv 2))))),?_⟩
  refine oX ?_;intro cE cR dZ fR iT;obtain⟨bt,xs,h1,h2,h3⟩:=id hw.ex;have yJ:=h3.length;have wp:=g.p2;have wl:=g.len;refine(au rfl (cy (aV.of h1) (ao (j:=0) rfl) (au rfl ⟨(by lia),(by lia),fun D hD=>bX (lo:=0) (m:=p) (L0 m H D) (.start hD) (fun i acc H2 _ z=>z.len) (dl (Nat.ble_eq.mpr (by lia))) ?_ ?_⟩)))
  ·rintro i acc H2 hi f2;exact⟨rfl,dl rfl,fun l hl=>f2.next hl⟩
  rintro acc H2 ⟨es,rfl,hel,f2⟩;refine(au rfl (cy (aV.of (f2.same _ _ h1)) (ao (j:=1) rfl) ⟨bt,rfl,⟨_,aV.of (f2.same _ _ h2)⟩,?_⟩));refine ED (K:=K) (a:=bt) (xs:=xs) (fun k σ H3=>∃ v3 v4 v5,σ=[some (.ref wb),some (.int (m:Int)),some (.ref D),v3,v4,v5]/\∃ S,ET m H D es S H3/\L1 g.N k S) ⟨none,none,none,rfl,_,f2,L1.start⟩ (fun k σ H3 _ ⟨_,_,_,_,_,z,_⟩=>aV.of (z.same _ _ h2)) ?_ ?_
  ·rintro k x T0 σ H3 hk ⟨v3,v4,v5,rfl,S,f3,k3⟩ hT;have hkx:k<xs.length:=(List.getElem?_eq_some_iff.mp hk).1;have l6:k<ts.length:=by lia
   obtain⟨ct,ex,hct⟩:=tK (g:=g) h3 l6;rw[hk]at ex;cases ex;have s4:aq H3 (upd H3 T0 (.tup [.int (k:Int),.ref ct])):=aq.new hT;have RJ:upd H3 T0 (.tup [.int (k:Int),.ref ct]) T0=some (.tup [.int (k:Int),.ref ct]):=ae;have f4:=f3.go s4;generalize upd H3 T0 (.tup [.int (k:Int),.ref ct])=H4 at f4 RJ;refine⟨T0,_,rfl,aV.of RJ,rfl,_,_,rfl,_,_,rfl,rfl,?_⟩;refine(au rfl (au rfl ⟨(m:Int),k,rfl,au rfl (?_)⟩));rw[fE];have ha:g.N.a k<p:=g.N.al k l6;have hb:g.N.b k<p:=g.N.bl k l6;have NW:=f4.same _ _ hct;refine NV ?_;obtain⟨b1,T6,e1,Yw,hb1,q1⟩:=f4.get (i:=g.N.a k) (by lia)
   refine(au rfl (au rfl (cy (aV.of NW) (ao (j:=0) rfl) (ju (aL.of f4.lst) (ao e1) (?_)))));have l1:T6.length<=2*k:=by rw[q1.length];exact k3.len _
   refine⟨.inl ⟨rfl,_,aL.of hb1⟩,au rfl (au rfl (cy (aV.of NW) (ao (j:=1) rfl) (au rfl ⟨dl rfl,fun t1 Lj=>?_⟩)))⟩
   have s5:aq H4 (upd H4 t1 (.tup [.int (k:Int),.int (g.N.b k:Int),.int ((m.testBit k).toNat:Int)])):=aq.new Lj;have u5:iR m (upd H4 t1 (.tup [.int (k:Int),.int (g.N.b k:Int),.int ((m.testBit k).toNat:Int)])) t1 (k,g.N.b k):=ae;have f5:=f4.go s5;have VC:=s5 _ _ hb1;have Yx:=s5 _ _ NW;have q5:Paired (iR m (upd H4 t1 (.tup [.int (k:Int),.int (g.N.b k:Int),.int ((m.testBit k).toNat:Int)]))) T6 (S (g.N.a k)):=Paired.w6 q1 fun _ _ z=>s5 _ _ z
   refine⟨b1,_,_,rfl,rfl,VC,cW (by rw[List.length_map];lia),?_⟩
   have f6:=f5.put Yw VC q5 u5;have NX:=f6.same _ _ hct;generalize upd (upd H4 t1 (.tup [.int (k:Int),.int (g.N.b k:Int),.int ((m.testBit k).toNat:Int)])) b1 (.lst (T6.map V.ref++[.ref t1]))=H6 at f6 NX;obtain⟨b2,Yy,e2,Yz,Jg,q2⟩:=f6.get (i:=g.N.b k) (by lia)
   refine(au rfl (au rfl (cy (aV.of NX) (ao (j:=1) rfl) (ju (aL.of f6.lst) (ao e2) (?_)))));have l2:Yy.length<=2*k+1:=by
    rw[q2.length];unfold uc;have:=k3.len (g.N.b k)
    split
    ·rw[List.length_append,List.length_singleton];lia
    ·lia
   refine⟨.inl ⟨rfl,_,aL.of Jg⟩,au rfl (au rfl (cy (aV.of NX) (ao (j:=0) rfl) (au rfl ⟨dl rfl,fun t2 Ll=>?_⟩)))⟩
   have s7:aq H6 (upd H6 t2 (.tup [.int (k:Int),.int (g.N.a k:Int),.int ((m.testBit k).toNat:Int)])):=aq.new Ll;have u7:iR m (upd H6 t2 (.tup [.int (k:Int),.int (g.N.a k:Int),.int ((m.testBit k).toNat:Int)])) t2 (k,g.N.a k):=ae;have f7:=f6.go s7;have OE:=s7 _ _ Jg;refine⟨b2,_,_,rfl,rfl,OE,cW (by rw[List.length_map];lia),?_⟩
   exact⟨_,_,_,rfl,_,f7.put Yz OE (Paired.w6 q2 fun _ _ z=>s7 _ _ z) u7,k3.next⟩
  ·rintro σ H3 ⟨v3,v4,v5,rfl,S,f3,k3⟩;refine(au rfl (q D es S H3 hel f3 ?_));rw[<-yJ];exact k3
def jE(p:Nat)(N:RM.Net)(L:Nat->Int)(m u:Nat)(D:Addr)(F:RM.OW)(H0 H:Hp):Prop:=∃ es:List Addr,es.length=p/\H D=some (.lst (es.map V.ref))/\
 (∀(i:Nat) b,es[i]?=some b->∃ v0 v1,H b=some (.lst [v0,v1])/\wV H (F i false) v0/\wV H (F i true) v1)/\(∀ x s,RM.HQ N L m u x s ((F x s).map (·.1)))/\(∀ x s d,F x s=some d->RM.Wz N L m u x s d.1 d.2)/\(∀ b∈es,H0 b=none)/\RM.Fx N L m u F
theorem Lm(a b:Bool):Builtin.bitXor ((a.toNat:Nat):Int) ((b.toNat:Nat):Int)=(((a^^b).toNat:Nat):Int):=by
 cases a<;>cases b<;>decide
def vz(t:Addr)(lp:Pos):Sp:=fun vs H Q _=>∃ w p ts,∃ g:aD p ts,∃(m u:Nat),vs=[.ref w,.int (m:Int),.int (u:Int)]/\bg H w p ts/\m<2^ts.length/\u<p/\H t=some (.iY (dY (oM "least_ways") lp))/\
 ∀ D F H',H D=none->aq H H'->jE p g.N (bz ts) m u D F H H'->Q (.ref D) H'
theorem kJ:Vy T T.ig 5 (vz a.cY cI):=by
 have gy:=gy T;refine T.ig.ok bA fun A outer s H vs Q E hr h=>?_
 ·obtain⟨wb,p,ts,g,m,u,rfl,hw,hm,hu,htb,q⟩:=h;refine⟨_,(ak (aF (i:=3) bA.nd rfl (Or.inl rfl) (aI gy hr T.gr.c aP (aa (pv 0) (aa (pv 1) af))))
   (ak (g9 (i:=4) bA.nd rfl rfl (own:=["point"]) (frees:=[]) (js:=[]) (aB (ah fK) ["web","marks","start","steps","found","waiting","nearest","way","tie","point","turn","part","further"]) rfl (bF (by rfl) T.bW (aa (aG (cu K) (pv 0) ai) af)) (fun _ _ _ _=>(br 0 (show(["point"]:List Str).Nodup by decide +kernel))) (fun _ _ _ _=>bK) (fun _ _ _ _=>(dD (aa o9 (aa o9 af)))))
   (ak (aF (i:=5) bA.nd rfl (Or.inr rfl) (Io (by exact zh hr) (cU (aa (pv 2) (aa ai af))) (cU (aa ai (aa ai af)))))
   (ak (za PassesOwn.never (aO qV (aM TH (by rfl) T.dc PySem.boot_len (aa (pv 5) af)) ai (aN _)) (ak (aF (i:=6) bA.nd rfl (Or.inl rfl) (K5 (x:="place") (frees:=["waiting"]) (js:=[5]) hr (aB (ah fK) ["web","marks","start","steps","found","waiting","nearest","way","tie","point","turn","part","further"]) rfl (by rfl) T.DQ rfl T.ig.F.hd (aa (pv 5) af) (fun _ _ _ _ hr=>(KL (by exact zh hr) (pv 1) (pv 0) (fun _ _=>rfl)))))
   (ak (aF (i:=7) bA.nd rfl (Or.inl rfl) (Im (by exact zh hr) (pv 5) (pv 6) ⟨rfl,rfl,rfl,rfl⟩))
   (ak (Be (pv 7) (Bd (aG (jH K) (pv 4) (aG (cu K) (pv 6) ai)) (aG (cu K) (pv 6) ai) set_list))
   (av (eJ PassesOwn.never rfl (mW K (aG (jH K) (pv 3) (aG (cu K) (pv 6) ai))) (Kn K (n:=3) rfl (aZ (br 8 bA.nd) (aZ (br 9 bA.nd) (aZ (br 10 bA.nd) gC))))
   (ak (aF (i:=11) bA.nd rfl (Or.inl rfl) (aK fb (aG (cu K) (pv 6) ai) (pv 10)))
   (ak (aF (i:=12) bA.nd rfl (Or.inl rfl) (cU (aa (aK eK (aG (cu K) (pv 7) ai) (aG (cu K) (aG (cu K) (aG (cu K) (pv 0) ai) (pv 8)) ai)) (aa (aK fb (aG (cu K) (pv 7) ai) (aK kZ ai (pv 8))) af))))
   (av (cJ (PW.pt (Bc (aO GB (aG (jH K) (aG (jH K) (pv 4) (pv 9)) (pv 11)) o9 (aN _)) (xh (aO (NF hr.Bm) (pv 12) (HA (by exact zh hr) (pv 5) (cU (aa (pv 9) (aa (pv 11) af))) (pv 12) ⟨rfl,rfl,rfl,rfl⟩) (aN _))))) (av (KN (by exact zh hr) (pv 5) (cU (aa (pv 9) (aa (pv 11) af))) (pv 12) rfl)) bh))))))))))
   (av (aH (pv 4))))))),?_⟩
  refine u9 ?_;intro cE cR dZ fR iT uv Ak L7 L8 Ma IL E7;obtain⟨bt,xs,h1,h2,h3⟩:=id hw.ex;have yJ:=h3.length;have wp:=g.p2;have wl:=g.len;refine(au rfl (au rfl ⟨wb,p,ts,g,m,rfl,hw,hm,fun Ds ess S H1 hel1 f1 k1=>?_⟩))
  have s1:=f1.same;refine(au rfl (cy (aV.of (s1 _ _ h1)) (ao (j:=0) rfl) (au rfl ⟨(by lia),(by lia),fun D hD=>bX (lo:=0) (m:=p) (zT H1 D) (.start hD) (fun i acc H2 _ z=>z.len) (dl (Nat.ble_eq.mpr (by lia))) ?_ ?_⟩)))
  ·rintro i acc H2 hi f2;exact⟨rfl,dl rfl,fun l hl=>f2.next hl⟩
  rintro acc H2 ⟨es,rfl,hel,f2⟩;refine fun wd VD=>(au rfl ⟨dl rfl,fun t1 Lj=>⟨dl rfl,fun t2 Ll=>?_⟩⟩)
  have VE:aq (upd H2 wd (.dT [])) (upd (upd H2 wd (.dT [])) t1 (.tup [.int (u:Int),.int 0])):=aq.new Lj;have T7:aq (upd (upd H2 wd (.dT [])) t1 (.tup [.int (u:Int),.int 0])) (upd (upd (upd H2 wd (.dT [])) t1 (.tup [.int (u:Int),.int 0])) t2 (.tup [.int 0,.int 0])):=aq.new Ll;have f3:=((f2.go (aq.new VD (o:=.dT []))).go VE).go T7;have w3:=T7 _ _ (VE _ _ (ae (H:=H2) (a:=wd) (o:=.dT [])));have u3:=T7 _ _ (ae (H:=upd H2 wd (.dT [])) (a:=t1) (o:=.tup [.int (u:Int),.int 0]));have v3:(upd (upd (upd H2 wd (.dT [])) t1 (.tup [.int (u:Int),.int 0])) t2 (.tup [.int 0,.int 0])) t2=some (.tup [.int 0,.int 0]):=ae;generalize upd (upd (upd H2 wd (.dT [])) t1 (.tup [.int (u:Int),.int 0])) t2 (.tup [.int 0,.int 0])=H3 at f3 w3 u3 v3;refine⟨t1,ky u false,rfl,u3,w3,?_⟩;have YA:=ua.start f3 hu w3 (f2.same.free VD) v3;have T8:=s1 _ _ htb;have hL:∀ k,k<g.N.n->0<=bz ts k:=wC g;have NY:∀ k,k<g.N.n->0<bz ts k:=fun k hk=>by
   have:=(g.xE _ (fj hk)).l0;unfold bz
   lia
  refine⟨fun n σ H4=>∃ v6 v7 v8 v9 v10 v11 Gh,σ=[some (.ref wb),some (.int (m:Int)),some (.int (u:Int)),some (.ref Ds),some (.ref D),some (.ref wd),v6,v7,v8,v9,v10,v11,Gh]/\∃ kvs F W,ua p H1 D wd es kvs F W H4/\RM.Dx g.N (bz ts) m u F W none (fun _ _=>False)/\n=RM.left F p,⟨_,none,none,none,none,none,none,none,rfl,_,_,_,YA,RM.Dx.start,rfl⟩,?_⟩
  rintro n σ H4 ⟨v6,v7,v8,v9,v10,v11,Gh,rfl,kvs,F,W,lw,dj,rfl⟩;refine(au rfl ⟨wd,kvs,rfl,.inl lw.dt,_,_,rfl,rfl,au rfl (k8 (fun hlen=>?_) (fun hlen=>?_))⟩)
  case refine_2 =>
   have hl : ¬(0:Int)<(kvs.length:Int):=fun z=>hlen (decide_eq_true z)
   have e:kvs=[]:=List.eq_nil_of_length_eq_zero (by lia)
   subst e;have hW:∀ x s,W x s=none:=fun x s=>by
    rcases lw.val x s with⟨z,_⟩|⟨_,_,_,z,_⟩
    ·exact z
    ·rw[tI]at z;cases z
   exact(au rfl (q D F H4 (s1.free lw.Dn) (s1.trans lw.same) ⟨es,hel,lw.lst,lw.at_,dj.dj.best hW,dj.dj.fw,fun b hb=>s1.free (lw.fr b hb),dj.fin NY hu hW⟩))
  have hlen:(0:Int)<(kvs.length:Int):=of_decide_eq_true hlen;refine⟨fun σ' H'=>∃ v6 v7 v8 v9 v10 v11 Gh,σ' = [some (.ref wb),some (.int (m:Int)),some (.int (u:Int)),some (.ref Ds),some (.ref D),some (.ref wd),v6,v7,v8,v9,v10,v11,Gh]/\∃ kvs' F' W',ua p H1 D wd es kvs' F' W' H'/\RM.Dx g.N (bz ts) m u F' W' none (fun _ _=>False)/\RM.left F' p<RM.left F p,fun σ' H' ⟨a6,a7,a8,a9,T9,Ua,Ub,e,kvs',F',W',b1,b2,b3⟩=>⟨_,b3,a6,a7,a8,a9,T9,Ua,Ub,e,kvs',F',W',b1,b2,rfl⟩,?_⟩
  refine(au rfl ⟨wd,kvs,Iv W kvs,rfl,lw.dt,(by lia),lw.same _ _ T8,fun ob H5 EL YB i kv b hkv hb=>?_,fun i kv b H5 hkv hmin s5 hb=>?_⟩)
  ·obtain⟨x,t,d,c,hx,ek,QY,Uc,_,hc,Ud⟩:=lw.entry hkv;have hcw:c≠wd:=aS hc lw.dt (by intro z;cases z)
   refine(au rfl (au rfl ⟨wd,.ref c,rfl,.inr ⟨kvs,ky x t,b,.inr ⟨ob,YB⟩,rfl,by rw[<-ek];exact hb,Uc.symm⟩,aq.refl _,c,rfl,?_⟩))
   rw[Ud];exact aV.of (EL c _ hc hcw (by intro y z;cases z) (by intro y z;cases z))
  obtain⟨x,t,d,c,hx,ek,QY,Uc,_,hc,Ud⟩:=lw.entry hkv;rw[ek]at hb;have hmn:∀ y t' d',W y t' = some d'->d.1<=d'.1:=fun y t' d' YC=>by
   obtain⟨j,Vk,hj,_,ej⟩:=lw.find YC;have:=hmin j (List.getElem?_eq_some_iff.mp hj).1;rw[ej,Ud]at this;exact xX this
  have Ln:=lw.go s5;have hc5:=s5 _ _ hc;have hF:F x t=none:=dj.dj.dj x t d QY;refine(au rfl ⟨wd,rfl,.inr ⟨kvs,.inl Ln.dt⟩,au rfl ⟨kvs,ky x t,b,.ref c,Ln.dt,rfl,hb,Uc,?_⟩⟩);obtain⟨rb,r0,r1,er,YD,hrb,hr0,hr1⟩:=Ln.row (i:=x) (by lia)
  have bw:b≠wd:=aS hb Ln.dt (by intro z;cases z)
  have YE:rb≠wd:=aS hrb Ln.dt (by intro z;cases z)
  have VF:upd H5 wd (.dT (c8 kvs (ky x t))) b=some (.tup [.int (x:Int),.int (t.toNat:Int)]):=by rw[aj bw];exact hb
  have T3:upd H5 wd (.dT (c8 kvs (ky x t))) D=some (.lst (es.map V.ref)):=by rw[aj (Ne.symm Ln.wD)];exact Ln.lst
  have YF:upd H5 wd (.dT (c8 kvs (ky x t))) rb=some (.lst [r0,r1]):=by rw[aj YE];exact hrb
  refine(au rfl (au rfl (au rfl (cy (aV.of VF) (ao (j:=0) rfl) (ju (aL.of T3) (ao er) (au rfl (cy (aV.of VF) (ao (j:=1) rfl) ⟨rb,_,_,t.toNat,rfl,rfl,YF,n6 (n:=2) (j:=t.toNat) (by cases t<;>decide),?_⟩)))))))
  have OF:=Ln.take QY hc5 YD hrb;have Ue:=dj.pop QY hmn;have hd0:0<=d.1:=by
   obtain⟨pre,w0⟩:=dj.dj.ww x t d QY;exact(RM.oF hL hu w0).2.2.2.2.2
  have hlt:RM.left (RM.iQ F x t d) p<RM.left F p:=RM.Aa hF hx;have VG:dH H5 (upd (upd H5 wd (.dT (c8 kvs (ky x t)))) rb (.lst (([r0,r1]:List V).set t.toNat (.ref c)))):=fun z ys e=>by
   rw[aj (aS e hrb (by intro z;cases z)),aj (aS e Ln.dt (by intro z;cases z))]
   exact e
  have OE:=VG _ _ hb;have OG:=VG _ _ hc5;generalize upd (upd H5 wd (.dT (c8 kvs (ky x t)))) rb (.lst (([r0,r1]:List V).set t.toNat (.ref c)))=H7 at OF OE OG;generalize RM.xW W x t=W7 at OF Ue;have R0:RM.iQ F x t d x t=some d:=RM.bQ _ _ _ _;generalize RM.iQ F x t d=F7 at OF Ue hlt R0;obtain⟨sb,cs,YG,YH,Qj,Ug⟩:=f1.get (i:=x) (by lia)
  have hlS:=k1.len x;refine(au rfl (au rfl (cy (aV.of OE) (ao (j:=0) rfl) (ju (aL.of (OF.same _ _ f1.lst)) (ao YG) ⟨sb,rfl,⟨_,aL.of (OF.same _ _ Qj)⟩,?_⟩))));refine dm (K:=K) (a:=sb) (xs:=cs.map V.ref) (fun j σ H8=>∃ v8 v9 v10 v11 Gh,σ=[some (.ref wb),some (.int (m:Int)),some (.int (u:Int)),some (.ref Ds),some (.ref D),some (.ref wd),some (.ref b),some (.ref c),v8,v9,v10,v11,Gh]/\dH H7 H8/\∃ yL W8,ua p H1 D wd es yL F7 W8 H8/\RM.Dx g.N (bz ts) m u F7 W8 (some (x,t)) (fun k y=>∃ j',j'<j/\(S x)[j']?=some (k,y)))
   ⟨_,_,_,_,_,rfl,(aq.refl _).tups,_,_,OF,?_⟩ (fun j σ H8 _ ⟨_,_,_,_,_,_,_,_,_,z,_⟩=>aL.of (z.same _ _ Qj)) ?_ ?_
  ·exact Ue.less fun k y ⟨j',h0,_⟩=>absurd h0 (Nat.not_lt_zero _)
  ·rintro j y YI σ H8 hj ⟨v8,v9,v10,v11,Gh,rfl,R1,yL,W8,NZ,QZ⟩;obtain⟨cc,hcc,rfl⟩:∃ cc,cs[j]?=some cc/\y = .ref cc:=by
    rw[List.getElem?_map]at hj;obtain⟨cc,h1,h2⟩:=Option.map_eq_some_iff.mp hj;exact⟨cc,h1,h2.symm⟩
   have Ou:j<(S x).length:=by rw[<-Ug.length];exact(List.getElem?_eq_some_iff.mp hcc).1
   have eS:(S x)[j]?=some (S x)[j]:=List.getElem?_eq_getElem Ou;have VH:=L2.p8 Ug hcc eS;generalize hkw:(S x)[j]=kw at eS VH;obtain⟨k,y⟩:=kw;have hmem:=(k1.mem x (k,y)).mp (List.mem_of_getElem? eS);obtain⟨hk,Ba⟩:=hmem;have hk:k<ts.length:=hk;have Ba:RM.Jn g.N k x y:=Ba;have hy:y<p:=Ba.lt hk;have Uh:=NZ.same _ _ VH;have Uh:H8 cc=some (.tup [.int (k:Int),.int (y:Int),.int ((m.testBit k).toNat:Int)]):=Uh;refine⟨cc,_,rfl,aV.of Uh,rfl,_,_,rfl,_,_,rfl,_,_,rfl,rfl,?_⟩;have YJ:=R1 _ _ OE;have VI:=R1 _ _ OG;refine(au rfl (cy (aV.of YJ) (ao (j:=1) rfl) (au rfl (cj (?_)))));dsimp only;rw[Lm];obtain⟨ct,ex,hct⟩:=tK (g:=g) h3 hk;have YK:=NZ.same _ _ (s1 _ _ h1);have YL:=NZ.same _ _ (s1 _ _ h2);have Ui:=NZ.same _ _ (s1 _ _ hct);refine(au rfl (cy (aV.of VI) (ao (j:=0) rfl) (au rfl (cy (aV.of YK) (ao (j:=1) rfl) (au rfl (cy (aV.of YL) (ao (j:=k) ex) (cy (aV.of Ui) (ao (j:=2) rfl) (?_))))))));refine(cj (au rfl (cy (aV.of VI) (ao (j:=1) rfl) (au rfl (cj ⟨⟨by lia,by lia,by decide⟩,cj ⟨dl rfl,fun f hf=>?_⟩⟩)))))
   have ef:Builtin.bitXor ((d.2:Nat):Int) (1*2^((k:Nat):Int).toNat)=((d.2^^^2^k:Nat):Int):=by
    rw[Int.toNat_natCast,Int.one_mul,show((2:Int)^k)=((2^k:Nat):Int) by simp]
    exact xor_int _ _
   dsimp only;rw[ef];have s9:aq H8 (upd H8 f (.tup [.int (d.1+(bN ts k).2.2),.int ((d.2^^^2^k:Nat):Int)])):=aq.new hf;have VJ:upd H8 f (.tup [.int (d.1+(bN ts k).2.2),.int ((d.2^^^2^k:Nat):Int)]) f=some (.tup [.int (d.1+bz ts k),.int ((d.2^^^2^k:Nat):Int)]):=ae;have OH:=NZ.go s9;have Uj:dH H7 (upd H8 f (.tup [.int (d.1+(bN ts k).2.2),.int ((d.2^^^2^k:Nat):Int)])):=fun z ys e=>s9 _ _ (R1 _ _ e)
   generalize upd H8 f (.tup [.int (d.1+(bN ts k).2.2),.int ((d.2^^^2^k:Nat):Int)])=H9 at OH VJ Uj;obtain⟨rb2,q0,q1,YM,YN,Uk,BF,hq1⟩:=OH.row (i:=y) (by lia)
   obtain⟨vv,YO,OI⟩:∃ vv,([q0,q1]:List V)[(t^^m.testBit k).toNat]?=some vv/\wV H9 (F7 y (t^^m.testBit k)) vv:=by
    cases(t^^m.testBit k) with
    | false=>exact⟨q0,rfl,BF⟩
    | true=>exact⟨q1,rfl,hq1⟩
   have Lk:=hL k hk;refine(au rfl (au rfl (ju (aL.of OH.lst) (ao YM) (au rfl (ju (aL.of Uk) (ao YO) (?_))))));refine⟨rfl,au rfl (?_)⟩;have dn:∀{DR:Nat->Nat->Prop} {Wx:RM.OW},RM.Dx g.N (bz ts) m u F7 Wx (some (x,t)) (fun k' y'=>(∃ j',j'<j/\(S x)[j']?=some (k',y'))\/(k' = k/\y' = y))->
    RM.Dx g.N (bz ts) m u F7 Wx (some (x,t)) (fun k' y'=>∃ j',j'<j+1/\(S x)[j']?=some (k',y')):=fun {DR Wx} h =>
    h.less fun k' y' ⟨j',h0,h5⟩=>by
     by_cases ej:j' = j
     ·subst ej;rw[eS]at h5;cases h5;exact .inr ⟨rfl,rfl⟩
     ·exact .inl ⟨j',by lia,h5⟩
   cases R3:F7 y (t^^m.testBit k) with
   | some d2 =>
     rw[R3]at OI;obtain⟨c2,rfl,hc2⟩:=OI;refine Eh (fun z=>nomatch z) ?_
     exact⟨_,_,_,_,_,rfl,Uj,yL,W8,OH,dn (DR:=fun _ _=>False) (QZ.skip R0 (NY k hk) (.inl R3))⟩
   | none =>
     rw[R3]at OI;have OI:vv = .dR:=OI;subst OI;refine PR rfl ?_;refine(au rfl (au rfl ⟨wd,rfl,.inr ⟨yL,.inl OH.dt⟩,au rfl (au rfl ⟨dl rfl,fun t3 YQ=>?_⟩)⟩))
     have Mh:aq H9 (upd H9 t3 (.tup [.int (y:Int),.int ((t^^m.testBit k).toNat:Int)])):=aq.new YQ;have Q0:upd H9 t3 (.tup [.int (y:Int),.int ((t^^m.testBit k).toNat:Int)]) t3=some (.tup ((ky y (t^^m.testBit k)).map kV)):=ae;have FZ:=OH.go Mh;have Jm:=Mh _ _ VJ;have N1:dH H7 (upd H9 t3 (.tup [.int (y:Int),.int ((t^^m.testBit k).toNat:Int)])):=fun z ys e=>Mh _ _ (Uj _ _ e)
     generalize upd H9 t3 (.tup [.int (y:Int),.int ((t^^m.testBit k).toNat:Int)])=JH at FZ Jm Q0 N1;refine(au rfl ⟨dN yL (ky y (t^^m.testBit k)),.inr ⟨yL,ky y (t^^m.testBit k),t3,.inl FZ.dt,rfl,Q0,rfl⟩,?_⟩);have VL:=FZ.len;have put:(∀ d',W8 y (t^^m.testBit k)=some d'->RM.lx (RM.stp (bz ts) d k) d')->cR YI [some (.ref wb),some (.int (m:Int)),some (.int (u:Int)),some (.ref Ds),some (.ref D),some (.ref wd),some (.ref b),some (.ref c),some (.int (k:Int)),some (.int (y:Int)),some (.int ((m.testBit k).toNat:Int)),some (.int ((t^^m.testBit k).toNat:Int)),some (.ref f)] JH:=fun hle=>by
      refine(au rfl (au rfl (au rfl (au rfl ⟨dl rfl,fun t4 Ul=>?_⟩))))
      have OJ:aq JH (upd JH t4 (.tup [.int (y:Int),.int ((t^^m.testBit k).toNat:Int)])):=aq.new Ul;have Um:upd JH t4 (.tup [.int (y:Int),.int ((t^^m.testBit k).toNat:Int)]) t4=some (.tup ((ky y (t^^m.testBit k)).map kV)):=ae;have N2:=FZ.go OJ;have Uo:=OJ _ _ Jm;refine⟨wd,_,rfl,Hx.t N2.dt Um (jI (by lia)),?_⟩
      have Uq:=N2.wait (x:=y) (s:=(t^^m.testBit k)) (d:=(d.1+bz ts k,d.2^^^2^k)) hy Uo;refine⟨_,_,_,_,_,rfl,fun z ys e=>?_,_,_,Uq,dn (DR:=fun _ _=>False) (QZ.put R0 hd0 hk (NY k hk) Ba R3 hle)⟩
      have VM:=OJ _ _ (N1 _ _ e);rw[aj (aS VM N2.dt (by intro z;cases z))]
      exact VM
     rcases FZ.val y (t^^m.testBit k) with⟨YR,YS⟩|⟨d2,c2,VN,hvs,hc2⟩
     ·rw[YS];refine⟨f,f,_,_,_,_,rfl,rfl,aV.of Jm,aV.of Jm,_,rfl,k8 (fun _=>put fun d' e=>by rw[YR]at e;cases e) fun z=>absurd ((HT.xU _ _ _ _).mpr (.inr ⟨rfl,Int.le_refl _⟩)) z⟩
     ·rw[hvs];refine⟨f,c2,_,_,_,_,rfl,rfl,aV.of Jm,aV.of hc2,_,rfl,k8 (fun hl=>?_) (fun hl=>?_)⟩
      ·have hl:=(HT.xU _ _ _ _).mp hl;refine put fun d' e=>?_
       rw[VN]at e;cases e;unfold RM.lx RM.stp;simp only
       lia
      ·have hl:=fun z=>hl ((HT.xU _ _ _ _).mpr z)
       refine⟨_,_,_,_,_,rfl,N1,yL,W8,FZ,dn (DR:=fun _ _=>False) (QZ.skip R0 (NY k hk) (.inr ⟨VN,?_⟩))⟩
       have h6 : ¬ d.1+bz ts k<d2.1:=fun z=>hl (.inl z)
       have h7 : ¬(d.1+bz ts k=d2.1/\((d.2^^^2^k:Nat):Int)<=(d2.2:Int)):=fun z=>hl (.inr z)
       unfold RM.lx RM.stp;simp only
       lia
  ·rintro σ H8 ⟨v8,v9,v10,v11,Gh,rfl,R1,yL,W8,NZ,QZ⟩;refine⟨_,_,_,_,_,_,_,rfl,yL,F7,W8,NZ,QZ.all fun k y hk Ba=>?_,hlt⟩
   have hm':=(k1.mem x (k,y)).mpr ⟨hk,Ba⟩;obtain⟨j',hj'⟩:=List.getElem?_of_mem hm';have Ur:=(List.getElem?_eq_some_iff.mp hj').1;exact⟨j',by rw[List.length_map,Ug.length];exact Ur,hj'⟩
def F0:Sp:=fun vs H Q _=>∃ v o,vs=[v]/\wV H o v/\Q (oV (o.map (·.1))) H
abbrev yM(F:RM.OW):Nat->Bool->Option Int:=fun x s=>(F x s).map (·.1)
def AS:Sp:=fun vs H Q _=>∃(D:Addr) (es:List Addr) (F:RM.OW),vs=[.ref D]/\H D=some (.lst (es.map V.ref))/\es.length<=900/\(∀(i:Nat) b,es[i]?=some b->∃ v0 v1,H b=some (.lst [v0,v1])/\wV H (F i false) v0/\wV H (F i true) v1)/\
 ∀ b ys H',aq H H'->H' b=some (.tup ys)->Paired (iN H') ys (kR (yM F) es.length)->Q (.ref b) H'
theorem e8:Ok T T.e7 1 F0:=by
 refine T.e7.ok qi fun cdv A outer s H vs Q E hr h=>?_
 ·obtain⟨v,o,rfl,hv,q⟩:=h;refine⟨_,(av (aH (kY (aO GB (pv 0) o9 (aN _)) o9 (aG (cu K) (pv 0) ai)))),?_⟩;cases o with
  | none =>
    have hv:v = .dR:=hv;subst hv;exact(au rfl ⟨rfl,au rfl (PR rfl q)⟩)
  | some d =>
    obtain⟨c,rfl,hc⟩:=hv;exact(au rfl ⟨rfl,au rfl (Eh (fun z=>nomatch z) (au rfl (cy (aV.of hc) (ao (j:=0) rfl) (q))))⟩)
theorem gz:Ok T T.gv 2 AS:=by
 have e8:=e8 T;refine T.gv.ok oY fun cdv A outer s H vs Q E hr h=>?_
 ·obtain⟨D,es,F,rfl,hD,hl,F1,q⟩:=h;refine⟨_,(av (aH (cL (GQ K) (by rfl) T.yH PyProof.Rows.boot_tuple (aa (bj (own:=["even","odd"]) (frees:=[]) (js:=[]) (aB (ah ez) ["ways"]) rfl (mW K (pv 0)) (fun _ _ _ _=>(TQ K rfl (aZ (br 0 (show(["even","odd"]:List Str).Nodup by decide +kernel)) (aZ (br 1 (show(["even","odd"]:List Str).Nodup by decide +kernel)) gC)))) (fun _ _ _ _=>bK) (fun _ _ _ _=>(cU (aa (aI e8 hr T.e7.c aP (aa (pv 0) af)) (aa (aI e8 hr T.e7.c aP (aa (pv 1) af)) af))))) af)))),?_⟩
  refine(au rfl ⟨D,rfl,⟨_,aL.of hD⟩,fun L hL=>aX (K:=K) (a:=D) (xs:=es.map V.ref) (fun i acc H2=>aq H H2/\H2 L=some (.lst acc)/\Paired (iN H2) acc (kR (yM F) i)) ⟨aq.new hL,ae,.nil⟩ (fun i acc H2 _ z=>⟨aL.of (z.1 _ _ hD),z.2.1,by rw[z.2.2.length,DJ];exact Nat.le_refl _⟩) (dl (Nat.ble_eq.mpr (by rw[List.length_map];lia))) ?_ ?_⟩)
  ·rintro i x acc H2 hx ⟨s2,Q2,pr⟩;obtain⟨b,hb,rfl⟩:∃ b,es[i]?=some b/\x = .ref b:=by
    rw[List.getElem?_map]at hx;obtain⟨b,h1,h2⟩:=Option.map_eq_some_iff.mp hx;exact⟨b,h1,h2.symm⟩
   obtain⟨v0,v1,hv,w0,w1⟩:=F1 i b hb;refine⟨b,v0,v1,rfl,aL.of (s2 _ _ hv),_,_,rfl,_,_,rfl,rfl,rfl,au rfl ⟨v0,_,rfl,w0.tups s2.tups,_,rfl,v1,_,rfl,w1.tups s2.tups,dl rfl,fun t ht=>?_⟩⟩
   have s3:aq H2 (upd H2 t (.tup [oV (yM F i false),oV (yM F i true)])):=aq.new ht;have tL:t≠L:=fun z=>by rw[z,Q2]at ht;cases ht
   have Qq:H L=none:=hL;refine⟨s3 _ _ Q2,(s2.trans s3).put Qq,ae,?_⟩;rw[HR];have keep:∀ z pr,iN H2 z pr->iN (upd (upd H2 t (.tup [oV (yM F i false),oV (yM F i true)])) L (.lst (acc++[.ref t]))) z pr:=fun z pr ⟨b,e,hb⟩=>⟨b,e,by rw[aj (aS hb Q2 (by intro z;cases z))];exact s3 _ _ hb⟩
   exact Paired.snoc (Paired.imp' (fun _ _ z=>keep _ _ z) pr) ⟨t,rfl,by rw[aj tL,ae]⟩
  ·rintro acc H2 ⟨s2,Q2,pr⟩;rw[List.length_map]at pr;refine⟨L,_,rfl,.inl ⟨aL.of Q2,fun l hl=>?_⟩⟩
   exact q l acc _ (s2.trans (aq.new hl)) ae (Paired.imp' (fun _ _ ⟨b,e,hb⟩=>⟨b,e,aq.new hl _ _ hb⟩) pr)
theorem jE.same{p:Nat}{N:RM.Net}{L:Nat->Int}{m u:Nat}{D:Addr}{F:RM.OW}{H0 H H' : Hp}(h:jE p N L m u D F H0 H)(s:aq H H'):jE p N L m u D F H0 H':=by
 obtain⟨es,e1,e2,e3,e4,e5,e6⟩:=h;exact⟨es,e1,s _ _ e2,fun i b hb=>let⟨v0,v1,q1,q2,q3⟩:=e3 i b hb;⟨v0,v1,s _ _ q1,q2.tups s.tups,q3.tups s.tups⟩,e4,e5,e6⟩
theorem jE.put{p:Nat}{N:RM.Net}{L:Nat->Int}{m u:Nat}{D X:Addr}{F:RM.OW}{H0 H:Hp}{xs ys:List V}(h:jE p N L m u D F H0 H)(hD:H0 D=none)(hX:H X=some (.lst xs))(YT:∃ o,H0 X=some o):jE p N L m u D F H0 (upd H X (.lst ys)):=by
 obtain⟨es,e1,e2,e3,e4,e5,e6⟩:=h;obtain⟨o,ho⟩:=YT;have ne:∀ b,H0 b=none->b≠X:=fun b hb z=>by rw[z,ho]at hb;cases hb
 have tp:dH H (upd H X (.lst ys)):=dH.put hX;refine⟨es,e1,by rw[aj (ne D hD)];exact e2,fun i b hb=>?_,e4,e5,e6⟩
 obtain⟨v0,v1,q1,q2,q3⟩:=e3 i b hb;exact⟨v0,v1,by rw[aj (ne b (e6.1 b (List.mem_of_getElem? hb)))];exact q1,q2.tups tp,q3.tups tp⟩
def DS(p:Nat)(N:RM.Net)(L:Nat->Int)(m i:Nat)(ds:List Addr)(Fs:Nat->RM.OW)(H:Hp):Prop:=ds.length=i/\∀(j:Nat) d,ds[j]?=some d->∃ H0,jE p N L m j d (Fs j) H0 H
def AU(t:Addr)(lp:Pos):Sp:=fun vs H Q _=>∃ w p ts,∃ g:aD p ts,∃ m:Nat,vs=[.ref w,.int (m:Int)]/\bg H w p ts/\m<2^ts.length/\H t=some (.iY (dY (oM "least_ways") lp))/\
 ∀ D ds Fs H',H D=none->aq H H'->H' D=some (.lst (ds.map V.ref))->DS p g.N (bz ts) m p ds Fs H'->Q (.ref D) H'
theorem gA:Ok T T.gw 6 (AU a.cY cI):=by
 have kJ:=kJ T;refine T.gw.ok oZ fun cdv A outer s H vs Q E hr h=>?_
 ·obtain⟨wb,p,ts,g,m,rfl,hw,hm,htb,q⟩:=h;refine⟨_,(av (aH (bj (own:=["start"]) (frees:=["web","marks"]) (js:=[0,1]) (aB (ah eA) ["web","marks"]) rfl (bF (by rfl) T.bW (aa (aG (cu K) (pv 0) ai) af)) (fun _ _ _ _=>(br 0 (show(["start","web","marks"]:List Str).Nodup by decide +kernel))) (fun _ _ _ _=>bK) (fun _ _ _ _=>(aI kJ hr T.ig.c aP (aa (pv 1) (aa (pv 2) (aa (pv 0) af)))))))),?_⟩
  obtain⟨bt,xs,h1,h2,h3⟩:=id hw.ex;have wp:=g.p2;refine(au rfl (cy (aV.of h1) (ao (j:=0) rfl) (au rfl ⟨(by lia),(by lia),fun D hD=>bX (lo:=0) (m:=(p:Int).toNat) (fun i acc H2=>aq H H2/\H2 D=some (.lst acc)/\∃ ds Fs,acc=ds.map V.ref/\ds.length=i/\∀(j:Nat) d,ds[j]?=some d->∃ H0,jE p g.N (bz ts) m j d (Fs j) H0 H2/\H0 d=none/\∃ o,H0 D=some o) ⟨aq.new hD,ae,[],fun _ _ _=>none,rfl,rfl,fun j d e=>by cases e⟩ (fun i acc H2 _ ⟨_,z,ds,_,e,l,_⟩=>⟨z,by rw[e,List.length_map];lia⟩) (dl (Nat.ble_eq.mpr (by lia))) ?_ ?_⟩)))
  ·rintro i acc H2 hi ⟨s2,iS,ds,Fs,rfl,hl,all⟩;rw[Int.toNat_natCast]at hi;rw[Int.zero_add];refine⟨rfl,au rfl (au rfl (au rfl ⟨wb,p,ts,g,m,i,rfl,hw.same s2,hm,hi,s2 _ _ htb,fun d F H3 hd s3 wa=>?_⟩))⟩
   have nY:=s3 _ _ iS;refine⟨nY,(s2.trans s3).put hD,ae,ds++[d],fun j=>if j=i then F else Fs j,by simp,by simp[hl],fun j d' e=>?_⟩
   by_cases ej:j<ds.length
   ·rw[List.getElem?_append_left ej]at e;obtain⟨H0,w0,n0,o0⟩:=all j d' e;dsimp only;rw[if_neg (show ¬ j=i by lia)]
    exact⟨H0,(w0.same s3).put n0 nY o0,n0,o0⟩
   ·rw[List.getElem?_append_right (by lia)]at e
    have hj:j=i:=by
     have:=(List.getElem?_eq_some_iff.mp e).1;simp at this
     lia
    subst hj;rw[hl,Nat.sub_self]at e;have e:d=d':=by simpa using e
    subst e;dsimp only;rw[if_pos rfl];exact⟨H2,wa.put hd nY ⟨_,iS⟩,hd,_,iS⟩
  ·rintro acc H2 ⟨s2,iS,ds,Fs,rfl,hl,all⟩;rw[Int.toNat_natCast]at hl;exact q D ds Fs H2 hD s2 iS ⟨hl,fun j d e=>let⟨H0,w0,_⟩:=all j d e;⟨H0,w0⟩⟩
def yN:Sp:=fun vs H Q _=>∃(D:Addr) (ds:List Addr) (Fs:Nat->RM.OW),∃ p N L m,vs=[.ref D]/\H D=some (.lst (ds.map V.ref))/\p<=900/\DS p N L m p ds Fs H/\
 ∀ b H',aq H H'->lz H' b ((List.range p).map fun i=>kR (yM (Fs i)) p)->Q (.ref b) H'
theorem gZ:Ok T T.gX 3 yN:=by
 have gz:=gz T;refine T.gX.ok qj fun cdv A outer s H vs Q E hr h=>?_
 ·obtain⟨D,ds,Fs,p,N,L,m,rfl,hD,hp,⟨hl,all⟩,q⟩:=h;refine⟨_,(av (aH (cL (GQ K) (by rfl) T.yH PyProof.Rows.boot_tuple (aa (bj (own:=["from_point"]) (frees:=[]) (js:=[]) (aB (ah eY) ["ways"]) rfl (mW K (pv 0)) (fun _ _ _ _=>(br 0 (show(["from_point"]:List Str).Nodup by decide +kernel))) (fun _ _ _ _=>bK) (fun _ _ _ _=>(aI gz hr T.gv.c aP (aa (pv 0) af)))) af)))),?_⟩
  refine(au rfl ⟨D,rfl,⟨_,aL.of hD⟩,fun X hX=>aX (K:=K) (a:=D) (xs:=ds.map V.ref) (fun i acc H2=>aq H H2/\H2 X=some (.lst acc)/\Paired (RowW H2) acc ((List.range i).map fun i=>kR (yM (Fs i)) p)) ⟨aq.new hX,ae,.nil⟩ (fun i acc H2 _ z=>⟨aL.of (z.1 _ _ hD),z.2.1,by rw[z.2.2.length,List.length_map,List.length_range];exact Nat.le_refl _⟩) (dl (Nat.ble_eq.mpr (by rw[List.length_map];lia))) ?_ ?_⟩)
  ·rintro i x acc H2 hx ⟨s2,hX2,pr⟩;obtain⟨d,hd,rfl⟩:∃ d,ds[i]?=some d/\x = .ref d:=by
    rw[List.getElem?_map]at hx;obtain⟨b,h1,h2⟩:=Option.map_eq_some_iff.mp hx;exact⟨b,h1,h2.symm⟩
   obtain⟨H0,wa⟩:=all i d hd;obtain⟨es,e1,e2,e3,_⟩:=wa.same s2;refine⟨rfl,au rfl ⟨d,es,Fs i,rfl,e2,(by lia),e3,fun b ys H3 s3 hb OL=>?_⟩⟩
   have CI:=s3 _ _ hX2;refine⟨CI,(s2.trans s3).put hX,ae,?_⟩;rw[List.range_succ,List.map_append,e1]at *;exact Paired.snoc (Paired.imp' (fun _ _ z=>z.tups (s3.tups.trans (dH.put CI))) pr) (RowW.tups (dH.put CI) ⟨b,ys,rfl,hb,OL⟩)
  ·rintro acc H2 ⟨s2,hX2,pr⟩;rw[List.length_map,hl]at pr;refine⟨X,_,rfl,.inl ⟨aL.of hX2,fun l hl=>?_⟩⟩
   exact q l _ (s2.trans (aq.new hl)) ⟨acc,ae,Paired.imp' (fun _ _ z=>z.same (aq.new hl)) pr⟩
theorem Q3{x y:V}{A B:Prop}(h:x≠y)(ha:A):if(!decide (x=y))=true then A else B:=by
 rw[decide_eq_false h];exact fV ha
def Lp(p:Nat)(ts:List c5)(g:aD p ts)(m:Nat)(H H' : Hp)(t:Addr):Prop :=
 ((∀ x z,x<p->¬ RM.Wy g.N (bz ts) m x x true z)/\m=g.N.cut (fun x=>decide (x∈rA p ts g m))/\∃ l,H l=none/\H' t=some (.tup [.str "side",.ref l])/\H' l=some (.lst (aA (rA p ts g m))))\/
 ∃(z:Int) (e:Nat) (b:Addr) (W:List (List Pr)),RM.Lo g.N (bz ts) m z e/\RM.ud g.N (bz ts) m z e/\H' t=some (.tup [.str "ring",.int (e:Int),.ref b])/\lz H' b W/\W.length=p/\(∀ R∈W,R.length=p)/\Qi p ts g m W
def yO(C t:Addr)(lp:Pos):Sp:=fun vs H Q E=>∃ w p ts,∃ g:aD p ts,∃ S,vs=[.ref w,.int S]/\bg H w p ts/\H t=some (.iY (dY (oM "least_ways") lp))/\o6 ts S (E (.ref C) none H) fun m=>∀ r H',H r=none->aq H H'->Lp p ts g m H H' r->Q (.ref r) H'
def uN(H:Hp)(v:V)(d:Int×Nat):Prop:=∃ c,v = .ref c/\H c=some (.tup [.int d.1,.int (d.2:Int)])
theorem uN.tups{H H' : Hp}{v:V}{d:Int×Nat}(h:uN H v d)(s:dH H H'):uN H' v d:=let⟨c,e,q⟩:=h;⟨c,e,s _ _ q⟩
def nG(d:Int×Nat):PyData:=.tuple [.int d.1,.int (d.2:Int)]
theorem AV{K:bJ}{H:Hp}:∀{ys:List V} {R:List (Int×Nat)},Paired (uN H) ys R->DatVs K H ys (R.map nG)
 | _,_,.nil=>.nil
 | _,_,.cons h r=>by
   obtain⟨b,rfl,hb⟩:=h;exact .cons (.tup (aV.of hb) (.cons (.int _) (.cons (.int _) .nil))) (AV r)
theorem Jo:∀ l:List (Int×Nat),PyData.eqv (.list (l.map nG)) (.list [])=decide (l=[])
 | []=>rfl
 | _::_=>rfl
theorem AW:∀ R:List (Int×Nat),PyData.canLayAll0 (R.map nG)=true
 | []=>rfl
 | q::r=>by
   have ih:=AW r;have e:(nG q).canLay0=true:=by simp[nG,PyData.canLay0,PyData.canLayAll0]
   simp only[List.map_cons,PyData.canLayAll0,ih,Bool.and_true,e]
theorem wX:∀ R:List (Int×Nat),PyData.depthAll (R.map nG)<=1
 | []=>Nat.zero_le _
 | q::r=>by
   have ih:=wX r;show max (PyData.depth (nG q)) (PyData.depthAll (r.map nG))<=1;have e:PyData.depth (nG q)=1:=by simp[nG,PyData.depth,PyData.depthAll]
   lia
theorem wY{H:Hp}:∀{ys:List V} {R:List (Int×Nat)},Paired (uN H) ys R->∃ cs:List Addr,ys=cs.map V.ref/\Paired (fun(c:Addr) (d:Int×Nat)=>H c=some (.tup [.int d.1,.int (d.2:Int)])) cs R
 | _,_,.nil=>⟨[],rfl,.nil⟩
 | _,_,.cons h r=>by
   obtain⟨b,rfl,hb⟩:=h;obtain⟨cs,rfl,pr⟩:=wY r;exact⟨b::cs,rfl,.cons hb pr⟩
theorem AX(R:List (Int×Nat)):SeqAt.shaped (.list (R.map nG))=true:=by
 unfold SeqAt.shaped;have e:(PyData.list (R.map nG)).canLay0=PyData.canLayAll0 (R.map nG):=by simp[PyData.canLay0]
 rw[e,AW,Bool.true_and];refine decide_eq_true ?_;have h:=wX R;have e2:PyData.depth (PyData.list (R.map nG))=PyData.depthAll (R.map nG)+1:=by simp[PyData.depth]
 rw[e2]
 lia
theorem xX{a b:Int×Nat}(h:HT.lexLt [a.1,(a.2:Int)] [b.1,(b.2:Int)]=false):RM.lx b a:=by
 rw[HT.fU]at h;unfold RM.lx
 by_cases e:a.1=b.1
 ·rw[if_pos e,HT.fU]at h;refine .inr ⟨e.symm,?_⟩
  by_cases e2:(a.2:Int)=(b.2:Int)
  ·lia
  ·rw[if_neg e2]at h;have:=of_decide_eq_false h
   lia
 ·rw[if_neg e]at h;have:=of_decide_eq_false h;exact .inl (by lia)
theorem lV:FJ T T.lQ 7 (yO a.dP a.cY cI):=by
 have cG:=cG T;have gA:=gA T;have gZ:=gZ T;have qO:=qO T;refine T.lQ.Bv j9 fun cdv A outer s H vs Q E hr h=>?_
 ·obtain⟨wb,p,ts,g,S,rfl,hw,htb,q⟩:=h;refine⟨_,(ak (cK (aI cG hr T.gO.c eO.passes (aa (pv 0) (aa (pv 1) af))))
   (ak (aF (i:=2) j9.nd rfl (Or.inr rfl) (aI gA hr T.gw.c aP (aa (pv 0) (aa (pv 1) af))))
   (ak (g9 (i:=3) j9.nd rfl rfl (own:=["point"]) (frees:=["ways"]) (js:=[2]) (aB (ah ji) ["web","marks","ways","rounds"]) rfl (bF (by rfl) T.bW (aa (aG (cu K) (pv 0) ai) af)) (fun _ _ _ _=>(br 0 (show(["point","ways"]:List Str).Nodup by decide +kernel))) (fun _ _ _ _=>(dU (aO JV (aG (jH K) (aG (jH K) (aG (jH K) (pv 1) (pv 0)) (pv 0)) ai) o9 (aN _)))) (fun _ _ _ _=>(aG (jH K) (aG (jH K) (aG (jH K) (pv 1) (pv 0)) (pv 0)) ai)))
   (ak (cJ (aO (Bt K hr.units) (pv 3) (dD af) (aN _)) (av (aH (aI qO hr T.qF.c eO.passes (aa (pv 0) (aa (pv 1) af))))) bh)
   (av (aH (cU (aa pe (aa (aG (cu K) (aM (TR hr.hd hr.in1.Bm) (by rfl) T.DQ PyProof.Rows.boot_min (aa (pv 3) af)) ai) (aa (aI gZ hr T.gX.c aP (aa (pv 2) af)) af)))))))))),?_⟩
  refine ye ?_;intro cE cR dZ fR iT;obtain⟨bt,xs,h1,h2,h3⟩:=id hw.ex;have wp:=g.p2;have W:=g.G8;rcases q with⟨m,rfl,hm,q⟩|⟨hS,q⟩
  case inr=>exact(au rfl (au rfl ⟨wb,p,ts,_,rfl,hw,W,.inr ⟨hS,q⟩⟩))
  refine(au rfl (au rfl ⟨wb,p,ts,_,rfl,hw,W,.inl ⟨m,rfl,hm,?_⟩⟩));refine(au rfl (au rfl ⟨wb,p,ts,g,m,rfl,hw,hm,htb,fun D ds Fs H1 hD s1 rG al=>?_⟩))
  obtain⟨hl,all⟩:=id al;have F1:∀ i,i<p->∃ d H0,ds[i]?=some d/\jE p g.N (bz ts) m i d (Fs i) H0 H1:=fun i hi=>by
   have e:ds[i]?=some ds[i]:=List.getElem?_eq_getElem (by lia)
   obtain⟨H0,h0⟩:=all i _ e;exact⟨_,H0,e,h0⟩
  refine(au rfl (cy (aV.of (s1 _ _ h1)) (ao (j:=0) rfl) (au rfl ⟨(by lia),(by lia),fun X hX=>bX (lo:=0) (m:=(p:Int).toNat) (fun i acc H2=>aq H1 H2/\H2 X=some (.lst acc)/\Paired (uN H2) acc ((List.range i).filterMap fun j=>Fs j j true)) ⟨aq.new hX,ae,.nil⟩ (fun i acc H2 _ z=>⟨z.2.1,by rw[z.2.2.length];exact Nat.le_trans (List.length_filterMap_le ..) (by simp)⟩) (dl (Nat.ble_eq.mpr (by lia))) ?_ ?_⟩)))
  ·rintro i acc H2 hi ⟨s2,hX2,pr⟩;rw[Int.toNat_natCast]at hi;rw[Int.zero_add];obtain⟨d,H0,hd,es,e1,e2,e3,_⟩:=F1 i hi;have hei:es[i]?=some es[i]:=List.getElem?_eq_getElem (by lia)
   obtain⟨v0,v1,hv,w0,w1⟩:=e3 i _ hei;have fm:(List.range (i+1)).filterMap (fun j=>Fs j j true)=(List.range i).filterMap (fun j=>Fs j j true)++(Fs i i true).toList:=by
    rw[List.range_succ,List.filterMap_append];cases hF:Fs i i true<;>simp[hF]
   rw[fm];have VO:(ds.map V.ref)[i]?=some (.ref d):=by rw[List.getElem?_map,hd];rfl
   have hdi:(es.map V.ref)[i]?=some (.ref es[i]):=by rw[List.getElem?_map,hei];rfl
   refine⟨rfl,au rfl (au rfl (ju (aL.of (s2 _ _ rG)) (ao (j:=i) VO) (au rfl (ju (aL.of (s2 _ _ e2)) (ao (j:=i) hdi) (ju (aL.of (s2 _ _ hv)) (ao (j:=1) rfl) ⟨rfl,au rfl (?_)⟩)))))⟩;cases hF:Fs i i true with
   | none =>
     rw[hF]at w1;have w1:v1 = .dR:=w1;subst w1;refine LJ rfl ⟨s2,hX2,?_⟩;rw[show(none:Option (Int×Nat)).toList=[] from rfl,List.append_nil]
     exact pr
   | some dd =>
     rw[hF]at w1;obtain⟨c,rfl,hc⟩:=w1;refine Q3 (fun z=>nomatch z) (au rfl (au rfl (ju (aL.of (s2 _ _ rG)) (ao (j:=i) VO) (au rfl (ju (aL.of (s2 _ _ e2)) (ao (j:=i) hdi) (ju (aL.of (s2 _ _ hv)) (ao (j:=1) rfl) ⟨hX2,s2.put hX,ae,?_⟩))))))
     have tp:dH H2 (upd H2 X (.lst (acc++[.ref c]))):=dH.put hX2;exact Paired.snoc (Paired.imp' (fun _ _ z=>z.tups tp) pr) ⟨c,rfl,tp _ _ (s2 _ _ hc)⟩
  ·rintro acc H2 ⟨s2,hX2,pr⟩;rw[Int.toNat_natCast]at pr;generalize hR:(List.range p).filterMap (fun j=>Fs j j true)=R at pr
   have s12:=s1.trans s2;have NY:∀ k,k<g.N.n->0<bz ts k:=fun k hk=>by
    have:=(g.xE _ (fj hk)).l0;unfold bz
    lia
   have inR:∀ j d,j<p->Fs j j true=some d->d∈R:=fun j d hj hd=>by
    rw[<-hR];exact List.mem_filterMap.mpr ⟨j,List.mem_range.mpr hj,hd⟩
   have YU:∀ d,d∈R->∃ j,j<p/\Fs j j true=some d:=fun d hd=>by
    rw[<-hR]at hd;obtain⟨j,hj,e⟩:=List.mem_filterMap.mp hd;exact⟨j,List.mem_range.mp hj,e⟩
   have best:∀ i,i<p->∀ x s,RM.HQ g.N (bz ts) m i x s ((Fs i x s).map (·.1)):=fun i hi=>by
    obtain⟨d,H0,hd,es,e1,e2,e3,e4,_⟩:=F1 i hi;exact e4
   refine(au rfl ⟨dl rfl,fun l0 C9=>⟨_,_,.lst (aL.of (aq.new C9 _ _ hX2)) (AV (Paired.imp' (fun _ _ z=>z.tups (aq.new C9).tups) pr)),.lst (aL.of ae) .nil,AX _,rfl,au rfl (?_)⟩⟩)
   rw[Jo];have s3:=s12.trans (aq.new (o:=.lst []) C9);have Us:=s2.trans (aq.new (o:=.lst []) C9);have CI:=aq.new (o:=.lst []) C9 _ _ hX2;have OL:=Paired.imp' (fun _ _ z=>uN.tups z (aq.new (o:=.lst []) C9).tups) pr
   clear hX2 pr;generalize upd H2 l0 (.lst [])=H3 at s3 Us CI OL
   by_cases hne:R=[]
   ·rw[decide_eq_true hne];have no:∀ x z,x<p->¬ RM.Wy g.N (bz ts) m x x true z:=fun x z hx hw=>by
     have b:=best x hx x true;cases hF:Fs x x true with
     | none=>rw[hF]at b;exact b z hw
     | some d=>have:=inR x d hx hF;rw[hne]at this;cases this
    refine fV (au rfl (au rfl ⟨wb,p,ts,g,_,rfl,hw.same s3,.inl ⟨m,rfl,hm,fun t H4 ht s4 told=>?_⟩⟩))
    refine q t H4 (s3.free ht) (s3.trans s4) (.inl ⟨no,?_⟩);rcases told with⟨h0,l,hl,Ul,VP⟩|⟨c,hc,hp,_⟩
    ·exact⟨h0,l,s3.free hl,Ul,VP⟩
    ·obtain⟨c1,c2⟩:=RM.aR.mp hc;rw[RM.IA (fun k hk=>Int.le_of_lt (NY k hk)) no (RM.mz c1 c2) (RM.jX c1)]at hp
     cases hp
   ·rw[decide_eq_false hne];obtain⟨cs,rfl,VQ⟩:=wY OL;have csl:=VQ.length;have hpos:0<cs.length:=by
     have:=List.length_pos_iff.mpr hne
     lia
    have hcs:∀(i:Nat) c,cs[i]?=some c->∃ d,R[i]?=some d/\H3 c=some (.tup [.int d.1,.int (d.2:Int)]):=fun i c hc=>Paired.sN VQ hc
    refine fQ (au rfl ⟨X,cs,fun i=>[(R.getD i (0,0)).1,((R.getD i (0,0)).2:Int)],rfl,aL.of CI,hpos,fun i c hc=>?_,fun i c hc hmin=>?_⟩)
    ·obtain⟨d,hd,h⟩:=hcs i c hc;have e:R.getD i (0,0)=d:=by rw[List.getD_eq_getElem?_getD,hd];rfl
     dsimp only;rw[e];exact aV.of h
    obtain⟨d,hd,hcd⟩:=hcs i c hc;obtain⟨u,hu,VR⟩:=YU d (List.mem_of_getElem? hd);have hlx:∀ j d',j<p->Fs j j true=some d'->RM.lx d d':=fun j d' hj hF=>by
     obtain⟨i',hi'⟩:=List.getElem?_of_mem (inR j d' hj hF);have hlt:i'<cs.length:=by
      have:=(List.getElem?_eq_some_iff.mp hi').1
      lia
     have hm2:=hmin i' hlt;have e:R.getD i (0,0)=d:=by rw[List.getD_eq_getElem?_getD,hd];rfl
     have e' : R.getD i' (0,0)=d':=by rw[List.getD_eq_getElem?_getD,hi'];rfl
     dsimp only at hm2;rw[e,e']at hm2;exact xX hm2
    have hmn:∀ x z',x<p->RM.Wy g.N (bz ts) m x x true z'->d.1<=z':=fun x z' hx hw=>by
     have b:=best x hx x true;cases hF:Fs x x true with
     | none=>rw[hF]at b;exact absurd hw (b z')
     | some d' =>
       rw[hF]at b;have h1:d'.1<=z':=b.2 z' hw;have h2:=hlx x d' hx hF;unfold RM.lx at h2
       lia
    obtain⟨_,_,_,es,_,_,_,_,wz,_,_⟩:=F1 u hu;have VS:=wz u true d VR;obtain⟨r1,r2,r3,r4⟩:=RM.B3 NY (show u<g.N.p from hu) VS hmn
    refine(cy (aV.of hcd) (ao (j:=1) rfl) (au rfl ⟨D,ds,Fs,p,g.N,bz ts,m,rfl,Us _ _ rG,(by lia),⟨hl,fun j d e=>let⟨H0,w0⟩:=all j d e;⟨H0,w0.same Us⟩⟩,fun b H4 s4 hW=>⟨dl rfl,fun t ht=>?_⟩⟩))
    have s5:aq H4 (upd H4 t (.tup [.str "ring",.int (d.2:Int),.ref b])):=aq.new ht;refine q t _ ((s3.trans s4).free ht) ((s3.trans s4).trans s5) (.inr ⟨d.1,d.2,b,_,⟨Fs,fun i hi=>?_,⟨u,hu,VR⟩,hlx⟩,⟨r1,r2,r3,r4,⟨u,hu,?_⟩,hmn⟩,ae,hW.same s5,by rw[List.length_map,List.length_range],fun R hR=>?_,fun i hi x s hx=>?_⟩)
    ·obtain⟨_,_,_,_,_,_,_,_,_,_,fx⟩:=F1 i hi;exact fx
    ·obtain⟨pre,w0⟩:=VS;exact⟨pre,_,w0⟩
    ·obtain⟨i,_,rfl⟩:=List.mem_map.mp hR;exact DJ _ _
    ·rw[List.getD_eq_getElem?_getD,List.getElem?_map,List.getElem?_range hi];show RM.HQ _ _ m i x s (sel (KQ (kR (yM (Fs i)) p) x) s);rw[Nl hx];exact best i hi x s
def CJ:Sp:=fun vs H Q _=>∃(l:Addr) (rows:List RM.Row3) (x:Nat),vs=[.ref l,.int (x:Int)]/\jd H l rows/\∀ c H',aq H H'->H' c=some (.tup [.int (((RM.b9 rows x 0).1:Nat):Int),.int (((RM.b9 rows x 0).2:Nat):Int)])->Q (.ref c) H'
def AY:Sp:=fun vs H Q _=>∃(l b:Addr) (rows:List RM.Row3) (a:RM.Row3),vs=[.ref l,.ref b]/\jd H l rows/\H b=some (.tup (rg a))/\rows.length<=200/\∀ l' H',aq H H'->jd H' l' (RM.uZ rows a)->Q (.ref l') H'
def CK:Sp:=fun vs H Q _=>∃(l:Addr) (B:List Nat),vs=[.ref l]/\H l=some (.lst (aA B))/\B.length<=200/\∀ l' rows H',aq H H'->jd H' l' rows->RM.Rw B rows->rows=RM.gV B B.length->Q (.ref l') H'
def Q4(p:Nat)(ts:List c5)(g:aD p ts)(zs:List Int):Prop:=∃ rs:List Nat,zs=rs.map (fun x=>((x:Nat):Int))/\RM.Base g.N rs
def CL:Sp:=fun vs H Q _=>∃ w p ts,∃ g:aD p ts,∃(l:Addr) (zs:List Int),vs=[.ref w,.ref l]/\bg H w p ts/\H l=some (.lst (zs.map V.int))/\zs.length<=200/\∀ H' (d:Bool),aq H H'->(d=true↔Q4 p ts g zs)->Q (.bl d) H'
theorem cast_inj{xs ys:List Nat}(e:xs.map (fun x=>((x:Nat):Int))=ys.map fun x=>((x:Nat):Int)):xs=ys:=by
 have:=congrArg (List.map Int.toNat) e;rw[List.map_map,List.map_map]at this;have h1:(Int.toNat∘fun x=>((x:Nat):Int))=id:=funext fun x=>rfl
 rw[h1,List.map_id,List.map_id]at this;exact this
theorem Q5{x y:V}{A B:Prop}(h:x≠y)(ha:A):if(!decide (x=y))=true then A else B:=by
 rw[decide_eq_false h];exact fV ha
theorem iB:Ok T T.mT 2 CJ:=by
 have cB:=cB T;refine T.mT.ok dO fun cdv A outer s H vs Q E hr h=>?_
 ·obtain⟨l,rows,x,rfl,hR,q⟩:=h;refine⟨_,(ak (aF (i:=2) dO.nd rfl (Or.inl rfl) (pv 1))
   (ak (aF (i:=3) dO.nd rfl (Or.inl rfl) ai)
   (ak (eJ PassesOwn.never rfl (mW K (pv 0)) (Kn K (n:=3) rfl (aZ (br 4 dO.nd) (aZ (br 5 dO.nd) (aZ (br 6 dO.nd) gC))))
   (av (cJ (dJ (aI cB hr T.iz.c aP (aa (pv 2) (aa (pv 4) af)))) (ak (xm (i:=2) dO.nd rfl (Or.inl rfl) (pv 5) CW)
   (av (xm (i:=3) dO.nd rfl (Or.inl rfl) (pv 6) CW))) bh)))
   (av (aH (cU (aa (pv 2) (aa (pv 3) af)))))))),?_⟩
  refine Ce ?_;intro cE cR dZ fR iT uv;obtain⟨xs,hl,pr⟩:=id hR;refine(au rfl (au rfl ⟨l,rfl,⟨_,aL.of hl⟩,dm (K:=K) (a:=l) (xs:=xs) (fun i σ H2=>∃ v4 v5 v6,σ=[some (.ref l),some (.int (x:Int)),some (.int (((RM.b9 (rows.take i) x 0).1:Nat):Int)),some (.int (((RM.b9 (rows.take i) x 0).2:Nat):Int)),v4,v5,v6]/\H2=H) ⟨none,none,none,rfl,rfl⟩ (fun i σ H2 _ ⟨_,_,_,_,z⟩=>by rw[z];exact aL.of hl) ?_ ?_⟩))
  ·rintro i y D' σ H2 hi ⟨v4,v5,v6,rfl,rfl⟩;obtain⟨qq,hq,b,rfl,hb⟩:=Paired.sN pr hi;refine⟨b,_,rfl,aV.of hb,rfl,_,_,rfl,_,_,rfl,_,_,rfl,rfl,?_⟩;refine(au rfl (au rfl ⟨_,qq.1,rfl,au rfl (?_)⟩));rw[fE];have e3:=EM (rows.take i) qq x 0;rw[<-take3 hq]at e3;cases oE:(RM.b9 (rows.take i) x 0).1.testBit qq.1 with
   | true =>
     rw[oE,if_pos rfl]at e3;refine fV (au rfl (au rfl (cj (au rfl (au rfl (cj ⟨some (.int (qq.1:Int)),some (.int (qq.2.1:Int)),some (.int (qq.2.2:Int)),?_,rfl⟩))))));rw[e3];show[_,_,some (V.int (Builtin.bitXor _ _)),some (V.int (Builtin.bitXor _ _)),_,_,_]=_;rw[xor_int,xor_int]
   | false =>
     rw[oE,if_neg (by decide)]at e3
     refine fQ ⟨some (.int (qq.1:Int)),some (.int (qq.2.1:Int)),some (.int (qq.2.2:Int)),?_,rfl⟩;rw[e3];rfl
  ·rintro σ H2 ⟨v4,v5,v6,rfl,rfl⟩;rw[pr.length,List.take_length];exact(au rfl (au rfl ⟨dl rfl,fun c hc=>q c _ (aq.new hc) ae⟩))
theorem nH:Ok T T.nC 2 AY:=by
 have cB:=cB T;refine T.nC.ok lK fun cdv A outer s H vs Q E hr h=>?_
 ·obtain⟨l,b,rows,ad,rfl,hR,hb,hlen,q⟩:=h;refine⟨_,(ak (aF (i:=2) lK.nd rfl (Or.inl rfl) (dD (aa (pv 1) af)))
   (ak (eJ PassesOwn.never rfl (mW K (pv 0)) (br 3 lK.nd)
   (av (cJ (dJ (aI cB hr T.iz.c aP (aa (aG (cu K) (pv 3) ai) (aa (aG (cu K) (pv 1) ai) af)))) (av (cK (Gf K (kP PySem.F.plainAttrs_list PySem.F.slot_list_append PySem.F.type_list_append cA (pv 2) (aa (cU (aa (aG (cu K) (pv 3) ai) (aa (aK fb (aG (cu K) (pv 3) ai) (aG (cu K) (pv 1) ai)) (aa (aK fb (aG (cu K) (pv 3) ai) (aG (cu K) (pv 1) ai)) af)))) af))))) (av (cK (Gf K (kP PySem.F.plainAttrs_list PySem.F.slot_list_append PySem.F.type_list_append cA (pv 2) (aa (pv 3) af))))))))
   (av (aH (pv 2))))),?_⟩
  refine Al ?_;intro cE cR dZ fR iT;obtain⟨xs,hl,pr⟩:=id hR;have YV:=pr.length;refine(au rfl ⟨dl rfl,fun D hD=>?_⟩)
  have s1:aq H (upd H D (.lst [.ref b])):=aq.new hD;have rG:upd H D (.lst [.ref b]) D=some (.lst [.ref b]):=ae;generalize upd H D (.lst [.ref b])=H1 at s1 rG;refine(au rfl ⟨l,rfl,⟨_,aL.of (s1 _ _ hl)⟩,dm (K:=K) (a:=l) (xs:=xs) (fun i σ H2=>∃ v3 acc,σ=[some (.ref l),some (.ref b),some (.ref D),v3]/\aq H H2/\H2 D=some (.lst acc)/\acc.length=i+1/\Paired (tU H2) acc (RM.uZ (rows.take i) ad)) ⟨none,_,rfl,s1,rG,rfl,.cons ⟨b,rfl,s1 _ _ hb⟩ .nil⟩ (fun i σ H2 _ ⟨_,_,_,z,_⟩=>aL.of (z _ _ hl)) ?_ ?_⟩)
  ·rintro i y D' σ H2 hi ⟨v3,acc,rfl,s2,iS,al,Q6⟩;obtain⟨qq,hq,c,rfl,hc⟩:=Paired.sN pr hi;have xN:=(List.getElem?_eq_some_iff.mp hi).1;have hc2:=s2 _ _ hc;have Jg:=s2 _ _ hb;have put:RM.uZ (rows.take (i+1)) ad=RM.uZ (rows.take i) ad++[if qq.2.1.testBit ad.1=true then(qq.1,qq.2.1^^^ad.2.1,qq.2.2^^^ad.2.2) else qq]:=by
    unfold RM.uZ;rw[take3 hq,List.map_append];rfl
   refine(au rfl (cy (aV.of hc2) (ao (j:=1) rfl) (au rfl (cy (aV.of Jg) (ao (j:=0) rfl) ⟨_,ad.1,rfl,au rfl (?_)⟩))));rw[fE];cases oE:qq.2.1.testBit ad.1 with
   | true =>
     rw[oE,if_pos rfl]at put;refine fV (au rfl ⟨.inl ⟨rfl,_,aL.of iS⟩,au rfl (cy (aV.of hc2) (ao (j:=0) rfl) (au rfl (cy (aV.of hc2) (ao (j:=1) rfl) (au rfl (cy (aV.of Jg) (ao (j:=1) rfl) (cj (au rfl (cy (aV.of hc2) (ao (j:=2) rfl) (au rfl (cy (aV.of Jg) (ao (j:=2) rfl) (cj ⟨dl rfl,fun d hd=>?_⟩)))))))))))⟩)
     have s3:aq H2 (upd H2 d (.tup (rg (qq.1,qq.2.1^^^ad.2.1,qq.2.2^^^ad.2.2)))):=aq.new hd;have LP:upd H2 d (.tup (rg (qq.1,qq.2.1^^^ad.2.1,qq.2.2^^^ad.2.2))) d=some (.tup (rg (qq.1,qq.2.1^^^ad.2.1,qq.2.2^^^ad.2.2))):=ae;have ev:[V.int (qq.1:Int),V.int (Builtin.bitXor (qq.2.1:Int) (ad.2.1:Int)),V.int (Builtin.bitXor (qq.2.2:Int) (ad.2.2:Int))]=rg (qq.1,qq.2.1^^^ad.2.1,qq.2.2^^^ad.2.2):=by
      rw[xor_int,xor_int];rfl
     dsimp only;rw[ev];generalize upd H2 d (.tup (rg (qq.1,qq.2.1^^^ad.2.1,qq.2.2^^^ad.2.2)))=H3 at s3 LP;have nY:=s3 _ _ iS;refine⟨D,_,_,rfl,rfl,nY,cW (by lia),_,acc++[.ref d],rfl,(s2.trans s3).put hD,ae,by rw[List.length_append,al];rfl,?_⟩
     rw[put];exact Paired.snoc (Paired.imp' (fun _ _ z=>z.tups (s3.tups.trans (dH.put nY))) Q6) ⟨d,rfl,dH.put nY _ _ LP⟩
   | false =>
     rw[oE,if_neg (by decide)]at put
     refine fQ (au rfl ⟨.inl ⟨rfl,_,aL.of iS⟩,au rfl ⟨D,_,_,rfl,rfl,iS,cW (by lia),_,acc++[.ref c],rfl,s2.put hD,ae,by rw[List.length_append,al];rfl,?_⟩⟩)
     rw[put];exact Paired.snoc (Paired.imp' (fun _ _ z=>z.tups (dH.put iS)) Q6) ⟨c,rfl,dH.put iS _ _ hc2⟩
  ·rintro σ H2 ⟨v3,acc,rfl,s2,iS,al,Q6⟩;rw[YV,List.take_length]at Q6;exact(au rfl (q D H2 s2 ⟨acc,iS,Q6⟩))
theorem iC:Ok T T.mU 3 CK:=by
 have iB:=iB T;have nH:=nH T;refine T.mU.ok gj fun cdv A outer s H vs Q E hr h=>?_
 ·obtain⟨l,B,rfl,hl,hB,q⟩:=h;refine⟨_,(ak (aF (i:=1) gj.nd rfl (Or.inl rfl) (dD af))
   (ak (eJ PassesOwn.never rfl (Dg K (by rfl) T.jn (aa (pv 0) af)) (Kn K (n:=2) rfl (aZ (br 2 gj.nd) (aZ (br 3 gj.nd) gC)))
   (ak (aF (i:=4) gj.nd rfl (Or.inl rfl) (aI iB hr T.mT.c aP (aa (pv 1) (aa (pv 3) af))))
   (av (cJ (aO qV (aG (cu K) (pv 4) ai) ai (aN _)) (av (aF (i:=1) gj.nd rfl (Or.inl rfl) (aI nH hr T.nC.c aP (aa (pv 1) (aa (cU (aa (aK pC (GJ PySem.F.plainAttrs_int PyProof.Rows.slot_int_bit_length PyProof.Rows.type_int_bit_length De (aG (cu K) (pv 4) ai)) ai) (aa (aG (cu K) (pv 4) ai) (aa (aK fb (aG (cu K) (pv 4) ai) (aK kZ ai (pv 2))) af)))) af))))) bh))))
   (av (aH (pv 1))))),?_⟩
  refine Cf ?_;intro cE cR dZ fR iT;refine⟨dl rfl,fun D hD=>?_⟩
  have s1:aq H (upd H D (.lst [])):=aq.new hD;have rG:upd H D (.lst []) D=some (.lst []):=ae;generalize upd H D (.lst [])=H1 at s1 rG;refine(au rfl ⟨l,rfl,⟨_,aL.of (s1 _ _ hl)⟩,G0 (K:=K) (a:=l) (xs:=aA B) (fun i σ H2=>∃ l2 rows v2 v3 v4,σ=[some (.ref l),some (.ref l2),v2,v3,v4]/\aq H H2/\jd H2 l2 rows/\RM.Rw (B.take i) rows/\rows=RM.gV B i) ⟨D,[],none,none,none,rfl,s1,⟨[],rG,.nil⟩,RM.Rw.start,rfl⟩ (fun i σ H2 _ ⟨_,_,_,_,_,_,z,_⟩=>aL.of (z _ _ hl)) ?_ ?_⟩)
  ·rintro i x T0 σ H2 hx ⟨l2,rows,v2,v3,v4,rfl,s2,Q7,N3,Q8⟩ hT;obtain⟨b,hb,rfl⟩:=cg hx;have xN:=(List.getElem?_eq_some_iff.mp hb).1;have s3:aq H2 (upd H2 T0 (.tup [.int (i:Int),.int (b:Int)])):=aq.new hT;have VT:upd H2 T0 (.tup [.int (i:Int),.int (b:Int)]) T0=some (.tup [.int (i:Int),.int (b:Int)]):=ae;generalize upd H2 T0 (.tup [.int (i:Int),.int (b:Int)])=H3 at s3 VT;refine⟨T0,_,rfl,aV.of VT,rfl,_,_,rfl,_,_,rfl,rfl,?_⟩;refine(au rfl (au rfl ⟨l2,rows,b,rfl,Q7.same s3,fun c H4 s4 hc=>?_⟩))
   have hlt:(B.take i).length=i:=by rw[List.length_take];lia
   refine(au rfl (cy (aV.of hc) (ao (j:=0) rfl) (cj (au rfl (k8 (fun h0=>?_) (fun h0=>?_))))))
   ·have h0:(0:Int)<_:=of_decide_eq_true h0;have OM:(RM.b9 rows b 0).1≠0:=by lia
    have Q9:=N3.put OM;rw[hlt,<-take3 hb]at Q9;have Ut:=(Q7.same s3).same s4;have Uu:rows.length<=200:=by have:=N3.le;lia
    refine(au rfl (au rfl (cy (aV.of hc) (ao (j:=0) rfl) ⟨rfl,au rfl ⟨rfl,cj (au rfl (cy (aV.of hc) (ao (j:=0) rfl) (au rfl (cy (aV.of hc) (ao (j:=1) rfl) (au rfl (cj ⟨⟨by lia,by lia,by decide⟩,cj ⟨dl rfl,fun d hd=>?_⟩⟩))))))⟩⟩)))
    have ev:[V.int (((Builtin.Int.intBits (((RM.b9 rows b 0).1:Nat):Int):Nat):Int)-1),V.int (((RM.b9 rows b 0).1:Nat):Int),V.int (Builtin.bitXor (((RM.b9 rows b 0).2:Nat):Int) (1*2^((i:Nat):Int).toNat))]=rg ((RM.b9 rows b 0).1.log2,(RM.b9 rows b 0).1,(RM.b9 rows b 0).2^^^2^i):=by
     rw[Ia OM,l9,xor_int];rfl
    dsimp only;rw[ev];refine⟨l2,d,rows,_,rfl,Ut.same (aq.new hd),ae,Uu,fun l5 H5 s5 YW=>?_⟩
    exact⟨l5,_,_,_,_,rfl,((s2.trans (s3.trans s4)).trans (aq.new hd)).trans s5,YW,Q9,RM.B6 Q8 hb OM⟩
   ·have OM:(RM.b9 rows b 0).1=0:=by
     have : ¬(0:Int)<_:=fun z=>h0 (decide_eq_true z)
     lia
    have VU:=N3.skip ((N3.iw b 0).mp OM);rw[<-take3 hb]at VU;exact⟨l2,rows,_,_,_,rfl,s2.trans (s3.trans s4),(Q7.same s3).same s4,VU,RM.Ag Q8 hb OM⟩
  ·rintro σ H2 ⟨l2,rows,v2,v3,v4,rfl,s2,Q7,N3,Q8⟩;rw[aC]at Q8;rw[aC,List.take_length]at N3;exact(au rfl (q l2 rows H2 s2 Q7 N3 Q8))
theorem qP:Ok T T.qG 9 CL:=by
 have qM:=qM T;have gx:=gx T;have iC:=iC T;refine T.qG.ok Cg fun cdv A outer s H vs Q E hr h=>?_
 ·obtain⟨wb,p,ts,g,l,zs,rfl,hw,hl,hz,q⟩:=h;refine⟨_,(ak (cJ (PW.pt (sy (aO C3 (aM (iH K) (by rfl) T.dc PySem.boot_len (aa (pv 1) af)) (aI qM hr T.yG.c aP (aa (pv 0) af)) (aN _)) (pq (pA (dJ (aM (Tv K rfl) (by rfl) T.QM PyProof.Rows.boot_all (aa (bj (own:=["ring"]) (frees:=["web"]) (js:=[0]) (aB (ah mQ) ["web","rings"]) rfl (mW K (pv 1)) (fun _ _ _ _=>(br 0 (show(["ring","web"]:List Str).Nodup by decide +kernel))) (fun _ _ _ _=>bK) (fun _ _ _ _=>(aI gx hr T.gq.c aP (aa (pv 1) (aa (pv 0) af))))) af))))))) (av (aH nR)) bh)
   (av (aH (cD eI (aM (iH K) (by rfl) T.dc PySem.boot_len (aa (aI iC hr T.mU.c aP (aa (pv 1) af)) af)) (aM (iH K) (by rfl) T.dc PySem.boot_len (aa (pv 1) af)) (aN _))))),?_⟩
  refine gF ?_;intro cE cR;refine(au rfl (qa rfl (.inl (aL.of hl)) (au rfl ⟨wb,p,ts,g,rfl,hw,fun H1 s1=>⟨rfl,au rfl (?_)⟩⟩)))
  by_cases hn:zs.length=g.N.ay.length
  case neg =>
   refine Q5 (fun z=>hn ?_) (q H1 false s1 ⟨(fun z=>nomatch z),fun⟨rs,e,b⟩=>absurd b.len (fun z=>hn ?_)⟩)
   ·have z:=V.int.inj z;rw[List.length_map]at z
    lia
   ·rw[e,List.length_map];exact z
  refine LJ (by rw[List.length_map,hn]) ?_
  have hl1:=s1 _ _ hl;refine(au rfl ⟨l,rfl,⟨_,aL.of hl1⟩,fun D hD=>aX (xs:=zs.map V.int) (fun i acc H2=>aq H1 H2/\H2 D=some (.lst acc)/\∃ bs:List Bool,acc=bs.map V.bl/\bs.length=i/\∀(j:Nat) z d,j<i->zs[j]?=some z->bs[j]?=some d->(d=true↔∃ m:Nat,z=(m:Int)/\m<2^ts.length/\g.N.Ring m)) ⟨aq.new hD,ae,[],rfl,rfl,(fun j z d h=>by lia)⟩ (fun i acc H2 _ z=>⟨aL.of (z.1 _ _ hl1),z.2.1,by obtain⟨bs,e,e2,_⟩:=z.2.2;rw[e,List.length_map,e2];exact Nat.le_refl _⟩) (Nat.le_of_lt (cW (by rw[List.length_map];lia))) ?_ ?_⟩)
  ·rintro i x acc H2 hx ⟨s2,iS,bs,rfl,bl,all⟩;rw[List.getElem?_map]at hx;obtain⟨z,hz,rfl⟩:=Option.map_eq_some_iff.mp hx;refine⟨rfl,au rfl (au rfl ⟨wb,p,ts,g,z,rfl,hw.same (s1.trans s2),fun H3 d s3 hd=>?_⟩)⟩
   refine⟨s3 _ _ iS,(s2.trans s3).put hD,ae,bs++[d],by rw[List.map_append];rfl,by rw[List.length_append,bl];rfl,fun j z' d' hj hz' hd'=>?_⟩
   by_cases e:j=i
   ·subst e;rw[hz]at hz';cases hz';rw[List.getElem?_append_right (by lia),bl,Nat.sub_self]at hd'
    cases hd';exact hd
   ·rw[List.getElem?_append_left (by lia)]at hd'
    exact all j z' d' (by lia) hz' hd'
  ·rintro acc H2 ⟨s2,iS,bs,rfl,bl,all⟩;rw[List.length_map]at bl all;refine⟨D,_,rfl,aL.of iS,_,rfl,?_⟩;have ok:bs.all id=true↔∃ rs:List Nat,zs=rs.map (fun x=>((x:Nat):Int))/\∀ r∈rs,g.N.Ring r/\r<2^ts.length:=by
    rw[List.all_eq_true]
    constructor
    ·intro h;have each:∀ z∈zs,∃ m:Nat,z=(m:Int)/\m<2^ts.length/\g.N.Ring m:=fun z hz'=>by
      obtain⟨j,hj⟩:=List.getElem?_of_mem hz';have Ou:=(List.getElem?_eq_some_iff.mp hj).1;have hb:bs[j]?=some (bs[j]'(by lia)):=List.getElem?_eq_getElem _
      exact(all j z _ Ou hj hb).mp (h _ (List.mem_of_getElem? hb))
     refine⟨zs.map Int.toNat,?_,fun r hr=>?_⟩
     ·rw[List.map_map];refine(List.map_id zs).symm.trans (List.map_congr_left fun z hz'=>?_)
      obtain⟨m,rfl,_⟩:=each z hz';rfl
     ·obtain⟨z,hz',rfl⟩:=List.mem_map.mp hr;obtain⟨m,rfl,h1,h2⟩:=each z hz';exact⟨h2,h1⟩
    ·rintro⟨rs,rfl,hrs⟩ d hd;obtain⟨j,hj⟩:=List.getElem?_of_mem hd;have Ou:=(List.getElem?_eq_some_iff.mp hj).1;have hr:rs[j]?=some (rs[j]'(by rw[List.length_map]at bl;lia)):=List.getElem?_eq_getElem _
     have hm:=hrs _ (List.mem_of_getElem? hr);exact(all j _ d (by lia) (by rw[List.getElem?_map,hr];rfl) hj).mpr (au rfl ⟨hm.2,hm.1⟩)
   cases hall:bs.all id with
   | false =>
     refine fV (q H2 false (s1.trans s2) ⟨(fun z=>nomatch z),fun⟨rs,e,b⟩=>?_⟩)
     rw[ok.mpr ⟨rs,e,b.ring⟩]at hall;cases hall
   | true =>
     obtain⟨rs,rfl,hrs⟩:=ok.mp hall;rw[List.length_map]at hz hn;rw[<-iM]at hl1;have hl2:=s2 _ _ hl1;refine fQ (au rfl ⟨l,rs,rfl,hl2,hz,fun l3 rows H3 s3 YX VV _=>?_⟩)
     obtain⟨xs,Ra,OL⟩:=id YX;refine(qa rfl (.inl (aL.of Ra)) (au rfl (qa rfl (.inl (aL.of (s3 _ _ hl2))) ⟨rfl,q H3 _ ((s1.trans s2).trans s3) ?_⟩)));rw[aC,OL.length,decide_eq_true_iff]
     constructor
     ·intro e;have e:=V.int.inj e;exact⟨rs,rfl,hn,hrs,VV.len.mp (by lia)⟩
     ·rintro⟨rs2,e,b⟩;rw[<-cast_inj e]at b;have:=VV.len.mpr b.ind;rw[this]
def F3(t1 t2:Addr)(Uv Uw:Pos):Sp:=fun vs H Q _=>∃ w p ts,∃ g:aD p ts,vs=[.ref w]/\bg H w p ts/\H t1=some (.iY (dY (oM "least_ways") Uv))/\H t2=some (.iY (dY (oM "by_length") Uw))/\
 ∀ D rs H',H D=none->aq H H'->H' D=some (.lst (aA rs))->RM.LB g.N (bz ts) rs->rs.Pairwise (jo ts)->(∃ bs,RM.NI g.N (bz ts) (g.N.ay.map fun c=>2^c) bs []/\rs.Perm bs)->Q (.ref D) H'
theorem jF:Ok T T.jB 10 (F3 a.cY a.dQ cI cX):=by
 have fO:=fO T;have lV:=lV T;have dw:=dw T;have fB:=fB T;refine T.jB.ok cP fun cdv A outer s H vs Q E hr h=>?_
 ·obtain⟨wb,p,ts,g,rfl,hw,Lj,Ll,q⟩:=h;refine⟨_,(ak (g9 (i:=1) cP.nd rfl rfl (own:=["chord"]) (frees:=[]) (js:=[]) (aB (ah eV) ["web","waiting","found","marks","ring"]) rfl (mW K (aI fO hr T.lP.c aP (aa (pv 0) af))) (fun _ _ _ _=>(br 0 (show(["chord"]:List Str).Nodup by decide +kernel))) (fun _ _ _ _=>bK) (fun _ _ _ _=>(aK kZ ai (pv 0))))
   (ak (aF (i:=2) cP.nd rfl (Or.inl rfl) (dD af))
   (ak (za PassesOwn.never (aO qV (aM (iH K) (by rfl) T.dc PySem.boot_len (aa (pv 1) af)) ai (aN _)) (ak (aF (i:=3) cP.nd rfl (Or.inr rfl) (aG (jH K) (pv 1) ai))
   (ak (aF (i:=4) cP.nd rfl (Or.inr rfl) (aG (cu K) (aI lV hr T.lQ.c qX (aa (pv 0) (aa (pv 3) af))) ai))
   (ak (cK (Gf K (kP PySem.F.plainAttrs_list PySem.F.slot_list_append PySem.F.type_list_append cA (pv 2) (aa (pv 4) af))))
   (av (g9 (i:=1) cP.nd rfl rfl (own:=["later"]) (frees:=["marks","ring"]) (js:=[3,4]) (aB (ah eV) ["web","waiting","found","marks","ring"]) rfl (mW K (sI (SW K) (pv 1) (xq ai) xo)) (fun _ _ _ _=>(br 0 (show(["later","marks","ring"]:List Str).Nodup by decide +kernel))) (fun _ _ _ _=>bK) (fun _ _ _ _=>(kY (dJ (aI dw hr T.gG.c aP (aa (pv 2) (aa (pv 0) af)))) (aK fb (pv 0) (pv 1)) (pv 0)))))))))
   (av (aH (aI fB hr T.gP.c aP (aa (pv 0) (aa (pv 2) af)))))))),?_⟩
  refine uB ?_;intro cE cR dZ fR iT uv Ak;have wl:=g.len;have cn:g.N.ay.length<=24:=by
   have:g.N.ay.length<=(List.range g.N.n).length:=List.length_filter_le ..;rw[List.length_range]at this;have h2:g.N.n=ts.length:=rfl
   lia
  have VW:(100:Nat)<sizeLine:=by decide
  refine(au rfl ⟨wb,p,ts,g,rfl,hw,fun Dc H1 hDc s1 hc1=>⟨Dc,rfl,⟨_,aL.of hc1⟩,fun X hX=>aX (K:=K) (a:=Dc) (xs:=aA g.N.ay) (fun i acc H2=>aq H1 H2/\H2 X=some (.lst acc)/\acc=aA ((g.N.ay.take i).map fun c=>2^c)) ⟨aq.new hX,ae,rfl⟩ (fun i acc H2 _ z=>⟨aL.of (z.1 _ _ hc1),z.2.1,by rw[z.2.2,aC,List.length_map,List.length_take];lia⟩) (cV (by rw[aC];lia)) ?_ ?_⟩⟩)
  ·rintro i x acc H2 hx ⟨s2,hX2,rfl⟩;obtain⟨c,ON,rfl⟩:∃ c,g.N.ay[i]?=some c/\x = .int (c:Int):=by
    unfold aA at hx;rw[List.getElem?_map]at hx;obtain⟨c,h1,h2⟩:=Option.map_eq_some_iff.mp hx;exact⟨c,h1,h2.symm⟩
   have hcn:=(RM.aR.mp (List.mem_of_getElem? ON)).1;have hcn:c<ts.length:=hcn;refine⟨rfl,au rfl (cj ⟨⟨by lia,by lia,by decide⟩,hX2,s2.put hX,ae,?_⟩)⟩
   rw[List.take_add_one,ON];show _=aA (List.map _ (List.take i g.N.ay++[c]));rw[List.map_append,List.map_singleton,bY];dsimp only;rw[l9]
  rintro acc H2 ⟨s2,hX2,rfl⟩;rw[aC,List.take_length]at hX2;refine⟨dl rfl,fun F hF=>?_⟩
  have s3:aq H2 (upd H2 F (.lst [])):=aq.new hF;have CI:=s3 _ _ hX2;have Mi:upd H2 F (.lst []) F=some (.lst (aA [])):=ae;have YY:H F=none:=(s1.trans s2).free hF;have YZ:X≠F:=fun z=>by rw[<-z,hX2]at hF;cases hF
  have VX:=(s1.trans s2).trans s3;generalize upd H2 F (.lst [])=H3 at CI Mi VX;have nd:g.N.ay.Nodup:=RM.my;have hL:=wC g;refine⟨fun n σ H4=>∃ X bs us ws cs v3 v4,σ=[some (.ref wb),some (.ref X),some (.ref F),v3,v4]/\aq H H4/\H4 X=some (.lst (aA ws))/\H4 F=some (.lst (aA bs))/\X≠F/\RM.DP g.N (bz ts) bs us/\RM.Wt g.N bs ws cs/\RM.NI g.N (bz ts) (g.N.ay.map fun c=>2^c) bs ws/\n=ws.length,⟨_,X,[],[],_,_,none,none,rfl,VX,CI,Mi,YZ,RM.DP.start,RM.Wt.start nd,.start,rfl⟩,?_⟩
  rintro n σ H4 ⟨X,bs,us,ws,cs,v3,v4,rfl,N4,Ux,VY,Uy,dp,wt,lr,rfl⟩;refine(au rfl (qa rfl (.inl (aL.of Ux)) (cj (au rfl (k8 (fun hlen=>?_) (fun hlen=>?_))))))
  case refine_2 =>
   have hl : ¬(0:Int)<((aA ws).length:Int):=fun z=>hlen (decide_eq_true z)
   have e:ws=[]:=List.eq_nil_of_length_eq_zero (by rw[aC]at hl;lia)
   subst e;have hb:bs.length=g.N.ay.length:=by
    have:=wt.sum;rw[List.length_nil]at this
    lia
   refine(au rfl (au rfl ⟨wb,p,ts,g,F,bs,rfl,hw.same N4,VY,by lia,fun m hm=>(dp.ring m hm).2,N4 _ _ Ll,fun D ms' H5 hD s5 QW hp hs=>?_⟩))
   exact q D ms' H5 (N4.free hD) (N4.trans s5) QW ((dp.least hb).perm hp) hs ⟨bs,lr,hp⟩
  have hlen:(0:Int)<((aA ws).length:Int):=of_decide_eq_true hlen;rw[aC]at hlen;refine⟨fun σ' H'=>∃ X bs us JI cs v3 v4,σ' = [some (.ref wb),some (.ref X),some (.ref F),v3,v4]/\aq H H'/\H' X=some (.lst (aA JI))/\H' F=some (.lst (aA bs))/\X≠F/\RM.DP g.N (bz ts) bs us/\RM.Wt g.N bs JI cs/\RM.NI g.N (bz ts) (g.N.ay.map fun c=>2^c) bs JI/\JI.length<ws.length,fun σ' H' ⟨X,bs,us,JI,cs,v3,v4,e,a1,a2,a3,a4,a5,a6,a8,a7⟩=>⟨_,a7,X,bs,us,JI,cs,v3,v4,e,a1,a2,a3,a4,a5,a6,a8,rfl⟩,?_⟩
  obtain⟨m,ws,rfl⟩:∃ m JI,ws=m::JI:=by
   cases ws with
   | nil=>simp at hlen
   | cons m JI=>exact⟨m,JI,rfl⟩
  have hml:m<2^ts.length:=wt.lt m List.mem_cons_self;refine(au rfl (ju (aL.of Ux) (ao (j:=0) rfl) (?_)));refine(au rfl (au rfl ⟨wb,p,ts,g,(m:Int),rfl,hw.same N4,N4 _ _ Lj,.inl ⟨m,rfl,hml,fun r H5 hr5 s5 told=>?_⟩⟩))
  obtain⟨r0,g1,g2,g3⟩:=wt.odd;rcases told with⟨n1,_⟩|⟨z,e,b2,W,lo,le,a1,_⟩
  ·obtain⟨x,hx,R4⟩:=RM.oG hL m g1 g2;rw[g3]at R4;exact absurd R4 (n1 x _ hx)
  refine(cy (aV.of a1) (ao (j:=1) rfl) (?_));have Rb:=s5 _ _ VY;have OO:=s5 _ _ Ux;have hbl:bs.length<=24:=by have:=wt.sum;lia
  refine(au rfl ⟨(.inl ⟨rfl,_,aL.of Rb⟩),au rfl ⟨F,_,_,rfl,rfl,Rb,(by rw[aC];lia),?_⟩⟩)
  have VZ:aq H (upd H5 F (.lst (aA bs++[.int (e:Int)]))):=(N4.trans s5).put YY;have R5:upd H5 F (.lst (aA bs++[.int (e:Int)])) F=some (.lst (aA (bs++[e]))):=by rw[ae,bY]
  have V0:upd H5 F (.lst (aA bs++[.int (e:Int)])) X=some (.lst (aA (m::ws))):=by rw[aj Uy];exact OO
  generalize upd H5 F (.lst (aA bs++[.int (e:Int)]))=H6 at VZ R5 V0;have Uz:xr (aA (m::ws)) (some (1:Int)) none=aA ws:=Hs (m::ws) (i:=1) (by simp)
  have UA:=wt.next le.par;obtain⟨cc,cs',_,UA⟩:=UA;have Y0:=dp.snoc le.ring le.lt le.par (fun r h1 h2 h3=>by
   have:=le.least hL h1 h2 h3;have e1:RM.len g.N (bz ts) e=z:=le.len;rw[e1];exact this) (wt.fZ m List.mem_cons_self)
  have Y3:ws.length<=24:=by have:=wt.sum;rw[List.length_cons]at this;lia
  refine(au rfl (au rfl ⟨X,_,rfl,aL.of V0,fun c hc=>?_⟩))
  rw[Uz];have V1:aq H (upd H6 c (.lst (aA ws))):=VZ.trans (aq.new hc);have UB:=aq.new hc (o:=.lst (aA ws)) _ _ R5;have OG:upd H6 c (.lst (aA ws)) c=some (.lst (aA ws)):=ae;generalize upd H6 c (.lst (aA ws))=H7 at V1 UB OG;refine⟨c,rfl,⟨_,aL.of OG⟩,fun X' Rc=>aX (K:=K) (a:=c) (xs:=aA ws) (fun i acc H8=>aq H7 H8/\H8 X' = some (.lst acc)/\acc=aA ((ws.take i).map fun v=>if g.N.par e v=true then v^^^m else v)) ⟨aq.new Rc,ae,rfl⟩ (fun i acc H8 _ z=>⟨aL.of (z.1 _ _ OG),z.2.1,by rw[z.2.2,aC,List.length_map,List.length_take];lia⟩) (cV (by rw[aC];lia)) ?_ ?_⟩
  ·rintro i x acc H8 hx ⟨s8,N5,rfl⟩;obtain⟨v,LG,rfl⟩:∃ v,ws[i]?=some v/\x = .int (v:Int):=by
    unfold aA at hx;rw[List.getElem?_map]at hx;obtain⟨c,h1,h2⟩:=Option.map_eq_some_iff.mp hx;exact⟨c,h1,h2.symm⟩
   have R6:v<2^ts.length:=wt.lt v (List.mem_cons_of_mem _ (List.mem_of_getElem? LG));have Jj:Builtin.Int.intBits ((e&&&v:Nat):Int)<=1000:=Nat.le_trans (bits_le (Nat.and_lt_two_pow _ R6)) (by lia)
   have snoc:∀ y,(if g.N.par e v=true then v^^^m else v)=y->aA ((ws.take i).map fun v=>if g.N.par e v=true then v^^^m else v)++[.int (y:Int)]=aA ((ws.take (i+1)).map fun v=>if g.N.par e v=true then v^^^m else v):=fun y hy=>by
    rw[List.take_add_one,LG];show _=aA (List.map _ (List.take i ws++[v]));rw[List.map_append,List.map_singleton,bY,hy]
   refine⟨rfl,au rfl (au rfl ⟨_,_,e,v,rfl,rfl,rfl,Jj,fun H9 s9=>(au rfl (?_))⟩)⟩
   rw[DA (g:=g) R6];have R7:=s8.trans s9;have Rf:=s9 _ _ N5;cases hb:g.N.par e v with
   | true =>
     refine fV (au rfl (au rfl (cj ⟨Rf,R7.put Rc,ae,?_⟩)));dsimp only;rw[xor_int];exact snoc _ (if_pos hb)
   | false=>exact fQ (au rfl ⟨Rf,R7.put Rc,ae,snoc _ (if_neg (by rw[hb];decide))⟩)
  ·rintro acc H8 ⟨s8,N5,rfl⟩;rw[aC,List.take_length]at N5;refine⟨X',bs++[e],us++[m],_,cs',_,_,rfl,V1.trans s8,N5,s8 _ _ UB,?_,Y0,UA,lr.step lo,by rw[List.length_map];simp⟩
   intro z;rw[z,UB]at Rc;cases Rc
def CM(t1 t2:Addr)(Uv Uw:Pos):Sp:=fun vs H Q _=>∃ w p ts,∃ g:aD p ts,vs=[.ref w]/\bg H w p ts/\H t1=some (.iY (dY (oM "least_ways") Uv))/\H t2=some (.iY (dY (oM "by_length") Uw))/\
 ∀ D rs H',H D=none->aq H H'->H' D=some (.lst ((rs.map (lenOf ts)).map V.int))->RM.LB g.N (bz ts) rs->rs.Pairwise (jo ts)->(∃ bs,RM.NI g.N (bz ts) (g.N.ay.map fun c=>2^c) bs []/\rs.Perm bs)->Q (.ref D) H'
theorem qQ:Ok T T.qH 11 (CM a.cY a.dQ cI cX):=by
 have jF:=jF T;have fu:=fu T;refine T.qH.ok Ci fun cdv A outer s H vs Q E hr h=>?_
 ·obtain⟨wb,p,ts,g,rfl,hw,Lj,Ll,q⟩:=h;refine⟨_,(av (aH (bj (own:=["ring"]) (frees:=["web"]) (js:=[0]) (aB (ah mR) ["web"]) rfl (mW K (aI jF hr T.jB.c aP (aa (pv 0) af))) (fun _ _ _ _=>(br 0 (show(["ring","web"]:List Str).Nodup by decide +kernel))) (fun _ _ _ _=>bK) (fun _ _ _ _=>(aI fu hr T.jl.c qX (aa (pv 1) (aa (pv 0) af))))))),?_⟩
  have wl:=g.len;have W:=g.G8;refine(au rfl ⟨wb,p,ts,g,rfl,hw,Lj,Ll,fun D rs H1 hD s1 rG lb pw lr=>?_⟩)
  have rsl:rs.length<=24:=by
   have h1:g.N.ay.length<=(List.range g.N.n).length:=List.length_filter_le ..;rw[List.length_range,<-lb.1.len]at h1;exact Nat.le_trans h1 wl
  refine⟨D,rfl,⟨_,aL.of rG⟩,fun X hX=>aX (K:=K) (a:=D) (xs:=aA rs) (fun i acc H2=>aq H1 H2/\H2 X=some (.lst acc)/\acc=((rs.take i).map (lenOf ts)).map V.int) ⟨aq.new hX,ae,rfl⟩ (fun i acc H2 _ z=>⟨aL.of (z.1 _ _ rG),z.2.1,by rw[z.2.2,List.length_map,List.length_map,List.length_take];lia⟩) (cV (by rw[aC];lia)) ?_ ?_⟩
  ·rintro i x acc H2 hx ⟨s2,hX2,rfl⟩;obtain⟨r,Ga,rfl⟩:∃ r,rs[i]?=some r/\x = .int (r:Int):=by
    unfold aA at hx;rw[List.getElem?_map]at hx;obtain⟨c,h1,h2⟩:=Option.map_eq_some_iff.mp hx;exact⟨c,h1,h2.symm⟩
   have Uu:=(lb.1.ring r (List.mem_of_getElem? Ga)).2;refine⟨rfl,au rfl (au rfl ⟨wb,p,ts,_,rfl,hw.same (s1.trans s2),W,.inl ⟨r,rfl,Uu,fun H3 s3=>⟨s3 _ _ hX2,(s2.trans s3).put hX,ae,?_⟩⟩⟩)⟩
   rw[List.take_add_one,Ga];show _=List.map V.int (List.map (lenOf ts) (List.take i rs++[r]));rw[List.map_append,List.map_append];rfl
  ·rintro acc H2 ⟨s2,hX2,rfl⟩;rw[aC,List.take_length]at hX2;exact q X rs H2 (s1.free hX) (s1.trans s2) hX2 lb pw lr
structure vA(p:Nat)(ts:List c5)(g:aD p ts)(l:List Nat):Prop where
 pw:l.Pairwise (jo ts)
 nd:l.Nodup
 all:∀ r,r∈l↔r<2^ts.length/\g.N.Ring r
theorem vA.few{p:Nat}{ts:List c5}{g:aD p ts}{l:List Nat}(h:vA p ts g l)(h9:ts.length<=9):l.length<64:=RM.um (N:=g.N) h9 h.nd fun m hm=>(h.all m).mp hm
theorem CN{ts:List c5}{l l' : List Nat}(h9:ts.length<=24)(hp:l.Perm l')(lt:∀ r∈l,r<2^ts.length)(pw:l.Pairwise (jo ts))(Y4:l'.Pairwise (jo ts)):l=l':=by
 have big:(2:Nat)^ts.length<=2^24:=Nat.pow_le_pow_right (by decide) h9
 have lt' : ∀ r∈l',r<2^ts.length:=fun r hr=>lt r (hp.mem_iff.mpr hr)
 have V2:∀{rs:List Nat},(∀ r∈rs,r<2^ts.length)->rs.Pairwise (jo ts)->(rs.map fun r=>lenOf ts r*1073741824+(r:Int)).Pairwise (·<=·):=fun {rs} hlt NH=>by
  rw[List.pairwise_map];refine List.Pairwise.imp_of_mem (fun {x y} hx hy h=>?_) NH
  have hx:=hlt x hx;have hy:=hlt y hy;unfold jo at h
  lia
 have e:=PySem.W.lks_uniq (hp.map fun r=>lenOf ts r*1073741824+(r:Int)) (V2 lt pw) (V2 lt' Y4)
 refine List.ext_getElem hp.length_eq fun i a b=>?_
 have e1:=congrArg (fun l=>l[i]?) e
 rw[List.getElem?_map,List.getElem?_map,List.getElem?_eq_getElem a,List.getElem?_eq_getElem b]at e1;have e1:lenOf ts l[i]*1073741824+(l[i]:Int)=lenOf ts l'[i]*1073741824+(l'[i]:Int):=Option.some.inj e1;have b1:=lt _ (List.getElem_mem a);have b2:=lt' _ (List.getElem_mem b)
 lia
theorem vA.uniq{p:Nat}{ts:List c5}{g:aD p ts}{l l' : List Nat}(h:vA p ts g l)(h' : vA p ts g l'):l=l' :=
 CN g.len ((List.perm_ext_iff_of_nodup h.nd h'.nd).mpr fun r=>(h.all r).trans (h'.all r).symm) (fun r hr=>((h.all r).mp hr).1) h.pw h'.pw
def vB(C:Addr):Sp:=fun vs H Q E=>∃ w p ts,∃ g:aD p ts,vs=[.ref w]/\bg H w p ts/\((g.N.ay.length<=8/\∀ H',aq H H'->Q .dR H')\/(8<g.N.ay.length/\∀ H',aq H H'->E (.ref C) none H'))
def yP:Sp:=fun vs H Q _=>∃ w p ts,∃ g:aD p ts,vs=[.ref w]/\bg H w p ts/\g.N.ay.length<=8/\∀ D H',H D=none->aq H H'->H' D=some (.lst (aA (RM.uo g.N g.N.ay.length)))->Q (.ref D) H'
def yQ(C t:Addr)(lp:Pos):Sp:=fun vs H Q E=>∃ w p ts,∃ g:aD p ts,vs=[.ref w]/\bg H w p ts/\H t=some (.iY (dY (oM "by_length") lp))/\
 ((g.N.ay.length<=8/\ts.length<=9/\∀ D l H',H D=none->aq H H'->H' D=some (.lst (aA l))->vA p ts g l->Q (.ref D) H')\/(8<g.N.ay.length/\∀ H',aq H H'->E (.ref C) none H'))
def vC(C t:Addr)(lp:Pos):Sp:=fun vs H Q E=>∃ w p ts,∃ g:aD p ts,vs=[.ref w]/\bg H w p ts/\H t=some (.iY (dY (oM "by_length") lp))/\
 ((g.N.ay.length<=8/\ts.length<=9/\∀ D l B H',H D=none->aq H H'->H' D=some (.lst (aA B))->vA p ts g l->RM.sj l B->Q (.ref D) H')\/(8<g.N.ay.length/\∀ H',aq H H'->E (.ref C) none H'))
theorem kK:FJ T T.kB 7 (vB a.jN):=by
 have qM:=qM T;refine T.kB.Bv vc fun cdv A outer s H vs Q E hr h=>?_
 ·obtain⟨wb,p,ts,g,rfl,hw,q⟩:=h;refine⟨_,(av (cJ (aO qV (aI qM hr T.yG.c aP (aa (pv 0) af)) (Km (by rfl) T.AN) (aN _)) (av (sO eO.S6 rfl (by rfl) T.FI PySem.F.excBase_ValueError (aa pe af))) bh)),?_⟩
  refine oQ ?_;intro cE;refine(au rfl ⟨wb,p,ts,g,rfl,hw,fun H1 s1=>(cj (au rfl (?_)))⟩)
  rcases q with⟨h8,q⟩|⟨h8,q⟩
  ·rw[decide_eq_false (by lia)]
   exact fQ (q H1 s1)
  ·rw[decide_eq_true (by lia)]
   exact fV ⟨dl rfl,q H1 s1⟩
theorem lW:Ok T T.lR 6 yP:=by
 have fO:=fO T;have eE:=eE T;refine T.lR.ok fL fun cdv A outer s H vs Q E hr h=>?_
 ·obtain⟨wb,p,ts,g,rfl,hw,h8,q⟩:=h;refine⟨_,(ak (aF (i:=1) fL.nd rfl (Or.inl rfl) (dD (aa ai af)))
   (ak (eJ PassesOwn.never rfl (mW K (aI fO hr T.lP.c aP (aa (pv 0) af))) (br 2 fL.nd)
   (ak (aF (i:=3) fL.nd rfl (Or.inr rfl) (aI eE hr T.ie.c qX (aa (pv 0) (aa (pv 2) af))))
   (av (aF (i:=1) fL.nd rfl (Or.inl rfl) (aK (S7 K) (pv 1) (bj (own:=["even"]) (frees:=["ring"]) (js:=[3]) (aB (ah jj) ["web","found","chord","ring"]) rfl (mW K (pv 1)) (fun _ _ _ _=>(br 0 (show(["even","ring"]:List Str).Nodup by decide +kernel))) (fun _ _ _ _=>bK) (fun _ _ _ _=>(aK fb (pv 0) (pv 1)))))))))
   (av (aH (pv 1))))),?_⟩
  refine m8 ?_;intro cE cR dZ fR;have wl:=g.len;refine⟨dl rfl,fun F hF=>?_⟩
  have s1:aq H (upd H F (.lst [.int 0])):=aq.new hF;have OP:upd H F (.lst [.int 0]) F=some (.lst (aA (RM.uo g.N 0))):=by rw[RM.IJ];exact ae
  generalize upd H F (.lst [.int 0])=H1 at s1 OP;refine(au rfl ⟨wb,p,ts,g,rfl,hw.same s1,fun C H2 hC s2 yV=>?_⟩)
  refine⟨C,rfl,⟨_,aL.of yV⟩,dm (K:=K) (a:=C) (xs:=aA g.N.ay) (fun i σ H3=>∃ D v2 v3,σ=[some (.ref wb),some (.ref D),v2,v3]/\H D=none/\aq H H3/\H3 C=some (.lst (aA g.N.ay))/\H3 D=some (.lst (aA (RM.uo g.N i)))) ⟨F,none,none,rfl,hF,s1.trans s2,yV,s2 _ _ OP⟩ (fun i σ H3 _ ⟨_,_,_,_,_,_,z,_⟩=>aL.of z) ?_ ?_⟩
  ·rintro i y D' σ H3 hi ⟨D,v2,v3,rfl,hD,s3,V3,nY⟩;obtain⟨c,ON,rfl⟩:=cg hi;have Y5:=List.mem_of_getElem? ON;have xN:=(List.getElem?_eq_some_iff.mp ON).1;have el:(RM.uo g.N i).length=2^i:=by unfold RM.uo;rw[List.length_map,List.length_range]
   have pw:(2:Nat)^i<=2^7:=Nat.pow_le_pow_right (by decide) (by lia)
   refine(au rfl (au rfl ⟨wb,p,ts,g,_,rfl,hw.same s3,.inl ⟨c,rfl,Y5,fun H4 s4=>?_⟩⟩))
   have uR:=s4 _ _ nY;refine(au rfl (au rfl ⟨D,rfl,⟨_,aL.of uR⟩,fun X hX=>aX (K:=K) (a:=D) (xs:=aA (RM.uo g.N i)) (fun k acc H5=>aq H4 H5/\H5 X=some (.lst acc)/\acc=aA (((RM.uo g.N i).take k).map fun e=>e^^^g.N.ring c)) ⟨aq.new hX,ae,rfl⟩ (fun k acc H5 _ z=>⟨aL.of (z.1 _ _ uR),z.2.1,by rw[z.2.2,aC,List.length_map,List.length_take];lia⟩) (Nat.le_of_lt (cW (by rw[aC];lia))) ?_ ?_⟩))
   ·rintro k x acc H5 hx ⟨s5,OO,rfl⟩;obtain⟨e,Y6,rfl⟩:=cg hx;refine⟨rfl,au rfl (au rfl (cj ⟨OO,s5.put hX,ae,?_⟩))⟩;rw[take3 Y6,List.map_append,List.map_singleton,bY];show _++[V.int (Builtin.bitXor _ _)]=_;rw[xor_int]
   ·rintro acc H5 ⟨s5,OO,rfl⟩;rw[aC,List.take_length]at OO;have V4:=s3.trans (s4.trans s5);refine⟨D,X,_,_,rfl,rfl,aL.of (s5 _ _ uR),aL.of OO,?_,fun l hl=>?_⟩
    ·rw[aC,aC,List.length_map];exact Nat.le_of_lt (cW (by lia))
    ·refine⟨l,_,_,rfl,V4.free hl,V4.trans (aq.new hl),?_,?_⟩
     ·exact aq.new hl _ _ ((s4.trans s5) _ _ V3)
     ·rw[ae,RM.IK ON];unfold aA;rw[List.map_append]
  ·rintro σ H3 ⟨D,v2,v3,rfl,hD,s3,V3,nY⟩;rw[aC]at nY;exact(au rfl (q D H3 hD s3 nY))
theorem lX:FJ T T.lS 10 (yQ a.jN a.dQ cX):=by
 have kK:=kK T;have lW:=lW T;have iA:=iA T;have fB:=fB T;refine T.lS.Bv yf fun cdv A outer s H vs Q E hr h=>?_
 ·obtain⟨wb,p,ts,g,rfl,hw,htb,q⟩:=h;refine⟨_,(ak (cK (aI kK hr T.kB.c eO.passes (aa (pv 0) af)))
   (av (aH (aI fB hr T.gP.c aP (aa (pv 0) (aa (bj (own:=["even"]) (frees:=["web"]) (js:=[0]) (aB (ah jk) ["web"]) rfl (mW K (aI lW hr T.lR.c aP (aa (pv 0) af))) (fun _ _ _ _=>(br 0 (show(["even","web"]:List Str).Nodup by decide +kernel))) (fun _ _ _ _=>(dU (dJ (aI iA hr T.mS.c qX (aa (pv 1) (aa (pv 0) af)))))) (fun _ _ _ _=>(pv 0))) af)))))),?_⟩
  refine gE ?_;intro cE;rcases q with⟨h8,h9,q⟩|⟨h8,q⟩
  ·refine(au rfl ⟨wb,p,ts,g,rfl,hw,.inl ⟨h8,fun H1 s1=>?_⟩⟩)
   refine(au rfl (au rfl ⟨wb,p,ts,g,rfl,hw.same s1,h8,fun D H2 hD s2 iS=>?_⟩))
   have el:(RM.uo g.N g.N.ay.length).length=2^g.N.ay.length:=by unfold RM.uo;rw[List.length_map,List.length_range]
   have pw:(2:Nat)^g.N.ay.length<=2^8:=Nat.pow_le_pow_right (by decide) h8
   refine⟨D,rfl,⟨_,aL.of iS⟩,fun X hX=>aX (K:=K) (a:=D) (xs:=aA (RM.uo g.N g.N.ay.length)) (fun i acc H3=>aq H2 H3/\H3 X=some (.lst acc)/\acc=aA (((RM.uo g.N g.N.ay.length).take i).filter fun e=>kQ p ts g e)) ⟨aq.new hX,ae,rfl⟩ (fun i acc H3 _ z=>⟨aL.of (z.1 _ _ iS),z.2.1,?_⟩) (Nat.le_of_lt (cW (by rw[aC];lia))) ?_ ?_⟩
   ·rw[z.2.2,aC];exact Nat.le_trans (List.length_filter_le _ _) (by rw[List.length_take];lia)
   ·rintro i x acc H3 hx ⟨s3,CI,rfl⟩;obtain⟨e,hei,rfl⟩:=cg hx;have he:=RM.DN.mp (List.mem_of_getElem? hei);refine⟨rfl,au rfl (au rfl ⟨wb,p,ts,g,_,rfl,hw.same ((s1.trans s2).trans s3),.inl ⟨e,rfl,he.2,fun H4 s4=>(au rfl (?_))⟩⟩)⟩
    cases hb:kQ p ts g e with
    | true =>
      refine fV (au rfl ⟨s4 _ _ CI,(s3.trans s4).put hX,ae,?_⟩);rw[take3 hei,List.filter_append,List.filter_cons,if_pos hb];exact(bY _ _).symm
    | false =>
      refine fQ ⟨s3.trans s4,s4 _ _ CI,?_⟩;rw[take3 hei,List.filter_append,List.filter_cons,if_neg (by rw[hb];decide),List.filter_nil,List.append_nil]
   ·rintro acc H3 ⟨s3,CI,rfl⟩;rw[aC,List.take_length]at CI;have qK:=(s1.trans s2).trans s3;have mem:∀ m,m∈((RM.uo g.N g.N.ay.length).filter fun e=>kQ p ts g e)↔m<2^ts.length/\g.N.Ring m:=fun m=>by
     rw[List.mem_filter,RM.DN];exact⟨fun z=>⟨z.1.2,(pO g z.1.2).mp z.2⟩,fun z=>⟨⟨z.2.2.1,z.1⟩,(pO g z.1).mpr z.2⟩⟩
    have nd:((RM.uo g.N g.N.ay.length).filter fun e=>kQ p ts g e).Nodup:=List.Pairwise.filter _ RM.EY
    refine⟨wb,p,ts,g,X,_,rfl,hw.same qK,CI,RM.um (N:=g.N) h9 nd fun m hm=>(mem m).mp hm,fun m hm=>((mem m).mp hm).1,qK _ _ htb,fun D2 l H4 UC s4 uR pm Y7=>?_⟩
    exact q D2 l H4 (qK.free UC) (qK.trans s4) uR ⟨Y7,pm.nodup_iff.mpr nd,fun r=>by rw[pm.mem_iff];exact mem r⟩
  ·exact(au rfl ⟨wb,p,ts,g,rfl,hw,.inr ⟨h8,q⟩⟩)
theorem kL:FJ T T.kC 11 (vC a.jN a.dQ cX):=by
 have lX:=lX T;have iC:=iC T;have iB:=iB T;refine T.kC.Bv jx fun cdv A outer s H vs Q E hr h=>?_
 ·obtain⟨wb,p,ts,g,rfl,hw,htb,q⟩:=h;refine⟨_,(ak (aF (i:=1) jx.nd rfl (Or.inl rfl) (dD af))
   (ak (rR rfl (mW K (aI lX hr T.lS.c eO.passes (aa (pv 0) af))) (br 2 jx.nd)
   (av (cJ (aO qV (aG (cu K) (aI iB hr T.mT.c aP (aa (aI iC hr T.mU.c aP (aa (pv 1) af)) (aa (pv 2) af))) ai) ai (aN _)) (av (cK (Gf K (kP PySem.F.plainAttrs_list PySem.F.slot_list_append PySem.F.type_list_append cA (pv 1) (aa (pv 2) af))))) bh)))
   (av (aH (pv 1))))),?_⟩
  refine m9 ?_;intro cE cR dZ fR;refine⟨dl rfl,fun F hF=>?_⟩
  have s1:aq H (upd H F (.lst [])):=aq.new hF;have OP:upd H F (.lst []) F=some (.lst (aA [])):=ae;generalize upd H F (.lst [])=H1 at s1 OP;rcases q with⟨h8,h9,q⟩|⟨h8,q⟩
  ·refine(au rfl ⟨wb,p,ts,g,rfl,hw.same s1,s1 _ _ htb,.inl ⟨h8,h9,fun D l H2 hD s2 iS R=>?_⟩⟩)
   have Y8:=R.few h9;have Jf:=s1.free hD;refine⟨D,rfl,⟨_,aL.of iS⟩,dm (K:=K) (a:=D) (xs:=aA l) (fun i σ H3=>∃ B v2,σ=[some (.ref wb),some (.ref F),v2]/\aq H H3/\H3 D=some (.lst (aA l))/\H3 F=some (.lst (aA B))/\RM.sj (l.take i) B) ⟨[],none,rfl,s1.trans s2,iS,s2 _ _ OP,.nil⟩ (fun i σ H3 _ ⟨_,_,_,_,z,_⟩=>aL.of z) ?_ ?_⟩
   ·rintro i y D' σ H3 hi ⟨B,v2,rfl,s3,nY,Mi,ch⟩;obtain⟨r,Ga,rfl⟩:=cg hi;have Bl:=ch.sub.length_le;rw[List.length_take]at Bl;refine(au rfl ⟨F,B,rfl,Mi,by lia,fun l' rows H4 s4 Ut V5 _=>?_⟩)
    refine(au rfl ⟨l',rows,r,rfl,Ut,fun c H5 s5 hc=>?_⟩)
    refine(cy (aV.of hc) (ao (j:=0) rfl) (cj (au rfl (k8 (fun h0=>?_) (fun h0=>?_)))))
    ·have h0:(0:Int)<(((RM.b9 rows r 0).1:Nat):Int):=of_decide_eq_true h0;have Rb:=(s4.trans s5) _ _ Mi;refine(au rfl ⟨.inl ⟨rfl,_,aL.of Rb⟩,au rfl ⟨F,_,_,rfl,rfl,Rb,cW (by rw[aC];lia),?_⟩⟩)
     have Y9:D≠F:=fun z=>by rw[z,OP]at hD;cases hD
     refine⟨B++[r],_,rfl,((s3.trans s4).trans s5).put hF,by rw[aj Y9];exact(s4.trans s5) _ _ nY,by rw[ae,bY],?_⟩
     rw[take3 Ga];exact .put ch fun z=>by
      have:=(V5.iw r 0).mpr ((ch.sp r).mpr z)
      lia
    ·have h0 : ¬(0:Int)<(((RM.b9 rows r 0).1:Nat):Int):=fun z=>h0 (decide_eq_true z)
     refine⟨B,_,rfl,(s3.trans s4).trans s5,(s4.trans s5) _ _ nY,(s4.trans s5) _ _ Mi,?_⟩;rw[take3 Ga];exact .skip ch ((ch.sp r).mp ((V5.iw r 0).mp (by lia)))
   ·rintro σ H3 ⟨B,v2,rfl,s3,nY,Mi,ch⟩;rw[aC,List.take_length]at ch;exact(au rfl (q F l B H3 hF s3 Mi R ch))
  ·exact(au rfl ⟨wb,p,ts,g,rfl,hw.same s1,s1 _ _ htb,.inr ⟨h8,fun H' s'=>q H' (s1.trans s')⟩⟩)
def Lq(K:bJ):Sp:=fun vs H Q _=>∃(a:Addr) (ns:List Int) (k:Int),vs=[.ref a,.int k]/\0<=k/\aL K H a (ns.map V.int)/\∀ z,Q (.int z) H
def Jp:Sp:=fun vs H Q _=>∃(c k:Int),vs=[.int c,.int k]/\0<=k/\k<=1000/\∀ z,0<=z->z<1000000007->Q (.int z) H
def Lr:Sp:=fun vs H Q _=>∃(c:Int) (k:Nat),vs=[.int c,.int (k:Int)]/\∀ z,1<=z->z<=1000000000000000000000000000000->Q (.int z) H
def N6:Sp:=fun vs H Q _=>∃(c:Int) (p m:Nat),vs=[.int c,.int (p:Int),.int (m:Int)]/\2<=p/\p<=10/\∀ t b H',aq H H'->n8 (p:Int) t->H' b=some (.tup (Ku t))->Q (.ref b) H'
def N7(K:bJ):Sp:=fun vs H Q _=>∃(a:Addr) (ns:List Int) (mt rk:Nat),vs=[.ref a,.int (mt:Int),.int (rk:Int)]/\aL K H a (ns.map V.int)/\ns.length<=63/\mt<=24/\
 ∀ w p ts H',aq H H'->aD p ts->2<=p->p<=6->ts.length<=mt->bg H' w p ts->Q (.ref w) H'
def Rg(H:Hp)(D:Addr)(n p:Nat):Prop:=∃ ks:List Nat,H D=some (.lst (aA ks))/\ks.length=n/\∀ k∈ks,k<p
theorem jG:Ok T T.jC 1 (Lq K):=by
 refine T.jC.ok uC fun cdv A outer s H vs Q E hr h=>?_
 ·obtain⟨b,ns,k,rfl,hk0,hS,q⟩:=h;refine⟨_,(ak (cJ (aO C4 (pv 1) (aM (iH K) (by rfl) T.dc PySem.boot_len (aa (pv 0) af)) (aN _)) (av (aH (aG (jH K) (pv 0) (pv 1)))) bh)
   (av (aH ai))),?_⟩
  refine gF ?_;intro cE cR;refine(au rfl (au rfl ⟨b,_,rfl,.inl hS,_,_,rfl,rfl,au rfl (k8 (fun hlt=>?_) (fun _=>q 0))⟩))
  have hlt:=of_decide_eq_true hlt;rw[List.length_map]at hlt;obtain⟨k,rfl⟩:=Int.eq_ofNat_of_zero_le hk0;exact(au rfl (au rfl ⟨b,_,_,_,rfl,rfl,hS,ao (j:=k) (Ky (by lia)),q _⟩))
theorem jq:Ok T T.jm 1 Jp:=by
 refine T.jm.ok kh fun cdv A outer s H vs Q E hr h=>?_
 ·obtain⟨c,k,rfl,hk,hk2,q⟩:=h;refine⟨_,(ak (aF (i:=2) kh.nd rfl (Or.inl rfl) (aK eK (aK dB (pv 0) ai) (aK Bk ai (pv 1))))
   (ak (aF (i:=3) kh.nd rfl (Or.inl rfl) (aK dB (aK Bk (aK eK (pv 2) ai) (aK eK (pv 2) ai)) ai))
   (av (aH (aK nU (aK dB (aK Bk (pv 3) (pv 3)) ai) ai))))),?_⟩
  refine jg ?_;intro cE cR;have h1:=m4 c 1000000007 (by decide)
  refine(au rfl (cj ⟨(nk rfl),au rfl (cj ⟨.inl ⟨by decide,by decide⟩,cj (?_)⟩)⟩))
  refine(au rfl (cj (au rfl (cj (cj ⟨.inl ⟨by lia,by lia⟩,cj ⟨(nk rfl),?_⟩⟩)))))
  have h2:=m4 ((c%1000000007+7919*k+11)*(c%1000000007+7919*k+48271)) 998244353 (by decide)
  dsimp only;generalize (c%1000000007+7919*k+11)*(c%1000000007+7919*k+48271)%998244353=st at h2;refine(au rfl (au rfl (cj ⟨.inl ⟨by lia,by lia⟩,cj ⟨(nk rfl),cj ⟨⟨by decide,by decide⟩,?_⟩⟩⟩)))
  have h3:=m4 (st*st) 1000000007 (by decide)
  dsimp only;generalize st*st%1000000007=y at h3;exact q _ (by lia) (by lia)
theorem kM:Ok T T.kD 1 Lr:=by
 refine T.kD.ok vd fun cdv A outer s H vs Q E hr h=>?_
 ·obtain⟨c,k,rfl,q⟩:=h;refine⟨_,(ak (cJ (aO eI (pv 1) ai (aN _)) (av (aH (aK eK ai (aK dB (pv 0) ai)))) bh)
   (ak (cJ (aO eI (pv 1) ai (aN _)) (av (aH (aK eK ai (aK dB (pv 0) ai)))) bh)
   (av (aH (aK eK ai (aK dB (pv 0) (aK My ai ai))))))),?_⟩
  refine ve ?_;intro cE cR dZ fR;have h9:=m4 c 9 (by decide)
  have h3:=m4 c 3 (by decide)
  have h30:=m4 c (10^(30:Int).toNat) (by decide)
  have e:(10:Int)^(30:Int).toNat=1000000000000000000000000000000:=by decide
  refine(au rfl ⟨rfl,au rfl (k8 (fun _=>(au rfl (cj ⟨(nk rfl),cj (q _ (by lia) (by lia))⟩))) (fun _=>(au rfl ⟨rfl,au rfl (k8 (fun _=>(au rfl (cj ⟨(nk rfl),cj (q _ (by lia) (by lia))⟩))) (fun _=>(au rfl (cj ⟨⟨by decide,by decide,by decide⟩,cj ⟨(nk (by decide)),cj (q _ (by lia) (by lia))⟩⟩))))⟩)))⟩)
theorem qR:Ok T T.qI 2 N6:=by
 have kM:=kM T;refine T.qI.ok kj fun cdv A outer s H vs Q E hr h=>?_
 ·obtain⟨c,p,m,rfl,hp,Ol,q⟩:=h;refine⟨_,(ak (aF (i:=3) kj.nd rfl (Or.inl rfl) (aK dB (pv 0) (pv 1)))
   (ak (aF (i:=0) kj.nd rfl (Or.inl rfl) (aK nU (pv 0) (pv 1)))
   (ak (aF (i:=4) kj.nd rfl (Or.inl rfl) (aK dB (aK eK (aK eK (pv 3) ai) (aK dB (pv 0) (aK pC (pv 1) ai))) (pv 1)))
   (av (aH (cU (aa (pv 3) (aa (pv 4) (aa (aI kM hr T.kD.c aP (aa (aK nU (pv 0) (aK pC (pv 1) ai)) (aa (pv 2) af))) af))))))))),?_⟩
  refine Cj ?_;intro cE cR dZ;obtain⟨h1,h2⟩:=m4 c (p:Int) (by lia)
  obtain⟨h3,h4⟩:=m4 (c/(p:Int)) ((p:Int)-1) (by lia)
  obtain⟨g1,g2,g3⟩:=G9 h1 h2 h3 h4;refine(au rfl (au rfl (cj ⟨(by lia),?_⟩)))
  refine(au rfl (au rfl (cj ⟨⟨by lia,by lia⟩,?_⟩)))
  refine(au rfl (cj (au rfl (au rfl (cj (cj ⟨(by lia),cj (au rfl (cj ⟨(by lia),?_⟩))⟩))))))
  refine(au rfl (au rfl (au rfl (au rfl (cj (cj ⟨⟨by lia,by lia⟩,au rfl ⟨_,m,rfl,fun z hz hz2=>⟨dl rfl,fun b hb=>?_⟩⟩⟩))))))
  exact q (_,_,z) b _ (aq.new hb) ⟨h1,h2,g1,g2,g3,hz,hz2⟩ ae
theorem qS:Ok T T.qJ 3 (N7 K):=by
 have jG:=jG T;have jq:=jq T;have qR:=qR T;refine T.qJ.ok bC fun cdv A outer s H vs Q E hr h=>?_
 ·obtain⟨b,ns,mt,rk,rfl,hS,hn,hmt,q⟩:=h;refine⟨_,(ak (aF (i:=3) bC.nd rfl (Or.inr rfl) (aI jG hr T.jC.c aP (aa (pv 0) (aa ai af))))
   (ak (aF (i:=4) bC.nd rfl (Or.inl rfl) (aK eK ai (aK dB (pv 3) ai)))
   (ak (aF (i:=5) bC.nd rfl (Or.inl rfl) (aK dB (aK nU (pv 3) ai) ai))
   (ak (aF (i:=6) bC.nd rfl (Or.inl rfl) (sI (SW K) (pv 0) (xq ai) xo))
   (ak (cJ (aO eI (aK dB (aK nU (pv 3) ai) ai) ai (aN _)) (ak (g9 (i:=6) bC.nd rfl rfl (own:=["k","cell"]) (frees:=[]) (js:=[]) (aB (ah gm) ["script","most","ranked","head","points","way","cells","ties","marks","free","cell","tie","joined","old"]) rfl (Dg K (by rfl) T.jn (aa (sI (SW K) (pv 0) (xq ai) xo) af)) (fun _ _ _ _=>(Kn K (n:=2) rfl (aZ (br 0 (show(["k","cell"]:List Str).Nodup by decide +kernel)) (aZ (br 1 (show(["k","cell"]:List Str).Nodup by decide +kernel)) gC)))) (fun _ _ _ _=>bK) (fun _ _ _ _=>(aI jq hr T.jm.c aP (aa (pv 1) (aa (pv 0) af)))))
   (av (cK (Gf K (kP PySem.F.plainAttrs_list PySem.F.slot_list_extend PySem.F.type_list_extend Ed (pv 6) (aa (bj (own:=["k"]) (frees:=["head"]) (js:=[3]) (aB (ah gm) ["script","most","ranked","head","points","way","cells","ties","marks","free","cell","tie","joined","old"]) rfl (bF (by rfl) T.bW (aa ai af)) (fun _ _ _ _=>(br 0 (show(["k","head"]:List Str).Nodup by decide +kernel))) (fun _ _ _ _=>bK) (fun _ _ _ _=>(aI jq hr T.jm.c aP (aa (pv 1) (aa (aK eK ai (pv 0)) af))))) af)))))) bh)
   (ak (aF (i:=7) bC.nd rfl (Or.inl rfl) (dD af))
   (ak (aF (i:=8) bC.nd rfl (Or.inr rfl) (bj (own:=["point"]) (frees:=[]) (js:=[]) (aB (ah gm) ["script","most","ranked","head","points","way","cells","ties","marks","free","cell","tie","joined","old"]) rfl (bF (by rfl) T.bW (aa (pv 4) af)) (fun _ _ _ _=>(br 0 (show(["point"]:List Str).Nodup by decide +kernel))) (fun _ _ _ _=>bK) (fun _ _ _ _=>(pv 0))))
   (ak (aF (i:=9) bC.nd rfl (Or.inl rfl) ai)
   (ak (eJ PassesOwn.never rfl (mW K (pv 6)) (br 10 bC.nd)
   (ak (aF (i:=11) bC.nd rfl (Or.inr rfl) (aI qR hr T.qI.c aP (aa (pv 10) (aa (pv 4) (aa (pv 5) af)))))
   (ak (aF (i:=12) bC.nd rfl (Or.inl rfl) (cD C3 (aG (jH K) (pv 8) (aG (cu K) (pv 11) ai)) (aG (jH K) (pv 8) (aG (cu K) (pv 11) ai)) (aN _)))
   (av (cJ (PW.pt (Bc (aO C4 (aM (iH K) (by rfl) T.dc PySem.boot_len (aa (pv 7) af)) (pv 1) (aN _)) (xh (PW.pt (sy (dJ (pv 12)) (pq (aO C4 (pv 9) (pv 2) (aN _)))))))) (ak (cK (Gf K (kP PySem.F.plainAttrs_list PySem.F.slot_list_append PySem.F.type_list_append cA (pv 7) (aa (pv 11) af))))
   (ak (aF (i:=9) bC.nd rfl (Or.inl rfl) (aK eK (pv 9) (cL pD (by rfl) T.DO PyProof.Rows.boot_int (aa (Gq (pv 12)) af))))
   (ak (aF (i:=13) bC.nd rfl (Or.inr rfl) (aG (jH K) (pv 8) (aG (cu K) (pv 11) ai)))
   (av (aF (i:=8) bC.nd rfl (Or.inr rfl) (bj (own:=["mark"]) (frees:=["marks","tie","old"]) (js:=[8,11,13]) (aB (ah gm) ["script","most","ranked","head","points","way","cells","ties","marks","free","cell","tie","joined","old"]) rfl (mW K (pv 8)) (fun _ _ _ _=>(br 0 (show(["mark","marks","tie","old"]:List Str).Nodup by decide +kernel))) (fun _ _ _ _=>bK) (fun _ _ _ _=>(aG (jH K) (dD (aa (pv 0) (aa (aG (jH K) (pv 1) (aG (cu K) (pv 2) ai)) af))) (cL pD (by rfl) T.DO PyProof.Rows.boot_int (aa (cD eI (pv 0) (pv 3) (aN _)) af)))))))))) bh)))))
   (av (aH (cU (aa (pv 4) (aa (cL (GQ K) (by rfl) T.yH PyProof.Rows.boot_tuple (aa (pv 7) af)) af)))))))))))))),?_⟩
  refine Ck ?_;intro cE cR dZ fR iT uv Ak L7 L8 Ma IL E7 QE QF QG QH QI QJ;refine(au rfl ⟨b,ns,0,rfl,(by decide),hS,fun z=>?_⟩)
  refine(au rfl (cj ⟨(nk rfl),cj (?_)⟩));obtain⟨p,hp,p1,p2⟩:∃ p:Nat,2+z%5=(p:Int)/\2<=p/\p<=6:=by
   obtain⟨h1,h2⟩:=m4 z 5 (by decide)
   exact⟨(2+z%5).toNat,by lia,by lia,by lia⟩
  dsimp only;rw[hp];refine(au rfl (cj ⟨⟨by decide,by decide⟩,cj ⟨(nk rfl),?_⟩⟩))
  obtain⟨wy,R4⟩:∃ y:Nat,z/5%3=(y:Int):=by
   obtain⟨h1,h2⟩:=m4 (z/5) 3 (by decide)
   exact⟨(z/5%3).toNat,by lia⟩
  dsimp only;rw[R4];refine(au rfl (au rfl ⟨b,_,rfl,hS,fun c hc=>?_⟩))
  have N8:=GP ns (some 1) none;have hml:((ns.drop (HT.qW ns.length 0 (some 1))).take (HT.qW ns.length ns.length none-HT.qW ns.length 0 (some 1))).length<=63:=by
   rw[List.length_take,List.length_drop]
   lia
  generalize (ns.drop (HT.qW ns.length 0 (some 1))).take (HT.qW ns.length ns.length none-HT.qW ns.length 0 (some 1))=ms at N8 hml;rw[N8];have cont:∀(c1:Addr) (ms1:List Int) (H1:Hp),aq H H1->H1 c1=some (.lst (ms1.map V.int))->E7 { nx:=fun _ H'=>Q V.dR H',rt:=Q} [some (.ref b),some (.int (mt:Int)),some (.int (rk:Int)),some (.int z),some (.int (p:Int)),some (.int (wy:Int)),some (.ref c1),none,none,none,none,none,none,none] H1:=by
   intro c1 ms1 H1 s1 hc1;refine⟨dl rfl,fun L hL=>?_⟩
   have t2:rE (p:Int) H1 L 0 (upd H1 L (.lst [])):=.start hL;generalize upd H1 L (.lst [])=H2 at t2;refine(au rfl (au rfl ⟨(by lia),(by lia),fun M hM=>bX (lo:=0) (m:=(p:Int).toNat) (mX (fun _=>true) H2 M) (.start hM) (fun i acc H3 _ pk=>pk.len) (cV (by lia)) ?_ ?_⟩))
   ·intro i acc H3 hi pk;rw[Int.zero_add];exact⟨rfl,au rfl (pk.yes hM (aq.refl _) rfl)⟩
   intro acc H3 pk;have b3:Rg H3 M p p:=by
    refine⟨(List.range p).filter (fun _=>true),by rw[pk.2.1,pk.2.2,Int.toNat_natCast],?_,fun k hk=>List.mem_range.mp (List.mem_filter.mp hk).1⟩
    rw[List.filter_eq_self.mpr (fun _ _=>rfl),List.length_range]
   have t3:rE (p:Int) H1 L 0 H3:=by
    obtain⟨a1,acc,ts,a2,a3,a4⟩:=t2;exact⟨a1.trans pk.1,acc,ts,pk.1 _ _ a2,Paired.imp' (fun _ _ z=>z.tups pk.1.tups) a3,a4⟩
   clear pk;have fr:H1 M=none:=t2.1.free hM;refine(au rfl ⟨c1,rfl,⟨_,aL.of (t3.1 _ _ hc1)⟩,dm (K:=K) (a:=c1) (xs:=ms1.map V.int) (fun i σ H4=>∃(M:Addr) (n:Nat) (f:Int) (v10 v11 Gh Rh:Option V),σ=[some (.ref b),some (.int (mt:Int)),some (.int (rk:Int)),some (.int z),some (.int (p:Int)),some (.int (wy:Int)),some (.ref c1),some (.ref L),some (.ref M),some (.int f),v10,v11,Gh,Rh]/\rE (p:Int) H1 L n H4/\n<=mt/\Rg H4 M p p/\H1 M=none/\M≠L) ⟨M,0,0,none,none,none,none,rfl,t3,Nat.zero_le _,b3,fr,fun e=>?_⟩ (fun i σ H4 _ ⟨_,_,_,_,_,_,_,_,t,_⟩=>aL.of (t.1 _ _ hc1)) ?_ ?_⟩)
   ·obtain⟨_,acc,_,a2,_⟩:=t2;rw[e,a2]at hM;cases hM
   ·rintro i y D' σ H4 hi ⟨M,n,f,v10,v11,Gh,Rh,rfl,t4,hnm,b4,V6,UD⟩;rw[List.getElem?_map]at hi;obtain⟨ce,hce,rfl⟩:=Option.map_eq_some_iff.mp hi;refine(au rfl (au rfl (au rfl ⟨ce,p,wy,rfl,p1,by lia,fun t bt H5 s5 gt R8=>?_⟩)))
    obtain⟨ks,Za,kl,kb⟩:=b4;have R9:=s5 _ _ Za;have t5:rE (p:Int) H1 L n H5:=by
     obtain⟨a1,acc,ts,a2,a3,a4⟩:=t4;exact⟨a1.trans s5,acc,ts,s5 _ _ a2,Paired.imp' (fun _ _ z=>z.tups s5.tups) a3,a4⟩
    obtain⟨u,hu⟩:=Int.eq_ofNat_of_zero_le gt.a0;obtain⟨v,hv⟩:=Int.eq_ofNat_of_zero_le gt.b0;have V7:u<ks.length:=by have:=gt.a1;lia
    have R6:v<ks.length:=by have:=gt.b1;lia
    have Zb:(aA ks)[u]?=some (.int (ks[u]:Int)):=xG (List.getElem?_eq_getElem V7);have hkv:(aA ks)[v]?=some (.int (ks[v]:Int)):=xG (List.getElem?_eq_getElem R6);have iu:Gb (aA ks) t.1=some (.int (ks[u]:Int)):=by rw[hu];exact ao Zb
    have iv:Gb (aA ks) t.2.1=some (.int (ks[v]:Int)):=by rw[hv];exact ao hkv
    have Zc:=kb _ (List.getElem_mem V7);refine(au rfl (au rfl (cy (aV.of R8) (ao (j:=0) rfl) (ju (aL.of R9) (iu) (au rfl (au rfl (cy (aV.of R8) (ao (j:=1) rfl) (ju (aL.of R9) (iv) ⟨rfl,?_⟩))))))));obtain⟨s05,CO,tsL,Ri,prL,alL,gdL⟩:=id t5;have skip:D'.nx [some (.ref b),some (.int (mt:Int)),some (.int (rk:Int)),some (.int z),some (.int (p:Int)),some (.int (wy:Int)),some (.ref c1),some (.ref L),some (.ref M),some (.int f),some (.int ce),some (.ref bt),some (.bl (!decide (V.int (ks[u]:Int)=V.int (ks[v]:Int)))),Rh] H5:=⟨M,n,f,_,_,_,_,rfl,t5,hnm,⟨ks,R9,kl,kb⟩,V6,UD⟩;generalize (!decide (V.int (ks[u]:Int)=V.int (ks[v]:Int)))=jb at skip;have put:CO.length<mt->iT D' [some (.ref b),some (.int (mt:Int)),some (.int (rk:Int)),some (.int z),some (.int (p:Int)),some (.int (wy:Int)),some (.ref c1),some (.ref L),some (.ref M),some (.int f),some (.int ce),some (.ref bt),some (.bl jb),Rh] H5:=fun hlt=>by
     obtain⟨Zd,e6,t6⟩:∃ acc,H5 L=some (.lst acc)/\rE (p:Int) H1 L (n+1) (upd H5 L (.lst (acc++[.ref bt]))):=by
      have:=t5.push hL (aq.refl _) gt R8;obtain⟨acc,e1,_,e2⟩:=this;exact⟨acc,e1,e2⟩
     rw[Ri]at e6;cases e6;refine(au rfl ⟨.inl ⟨rfl,_,aL.of Ri⟩,au rfl ⟨L,_,_,rfl,rfl,Ri,cW (by lia),?_⟩⟩)
     have Rj:upd H5 L (.lst (CO++[.ref bt])) M=some (.lst (aA ks)):=by rw[aj UD];exact R9
     have N9:upd H5 L (.lst (CO++[.ref bt])) bt=some (.tup (Ku t)):=dH.put Ri _ _ R8;have V8:upd H5 L (.lst (CO++[.ref bt])) L=some (.lst (CO++[.ref bt])):=ae;generalize upd H5 L (.lst (CO++[.ref bt]))=H6 at t6 Rj N9 V8;refine(au rfl (au rfl (au rfl (.inr (au rfl (cj (?_)))))));refine(au rfl (au rfl (cy (aV.of N9) (ao (j:=1) rfl) (ju (aL.of Rj) (iv) (?_)))));refine(au rfl ⟨M,rfl,⟨_,aL.of Rj⟩,fun M2 Ls=>aX (xs:=aA ks) (fun i acc H7=>aq H6 H7/\H7 M2=some (.lst acc)/\∃ DT:List Nat,acc=aA DT/\DT.length=i/\∀ k∈DT,k<p) ⟨aq.new Ls,ae,[],rfl,rfl,(fun k hk=>nomatch hk)⟩ (fun i acc H7 _ z=>⟨aL.of (z.1 _ _ Rj),z.2.1,by obtain⟨DT,e,e2,_⟩:=z.2.2;rw[e,aC,e2];exact Nat.le_refl _⟩) (cV (by rw[aC];lia)) ?_ ?_⟩)
     ·rintro i x acc H7 hx ⟨s7,UE,DT,rfl,Sa,kb2⟩;obtain⟨k,hk,rfl⟩:=cg hx;have hkp:=kb k (List.mem_of_getElem? hk);refine⟨rfl,au rfl (au rfl (au rfl (cy (aV.of (s7 _ _ N9)) (ao (j:=0) rfl) (ju (aL.of (s7 _ _ Rj)) (iu) ⟨dl rfl,fun l hl=>?_⟩))))⟩
      have s8:aq H7 (upd H7 l (.lst [.int (k:Int),.int (ks[u]:Int)])):=aq.new hl;have UG:upd H7 l (.lst [.int (k:Int),.int (ks[u]:Int)]) l=some (.lst [.int (k:Int),.int (ks[u]:Int)]):=ae;generalize upd H7 l (.lst [.int (k:Int),.int (ks[u]:Int)])=H8 at s8 UG;refine(au rfl (au rfl ⟨rfl,.inr (au rfl (?_))⟩));have V9:∀ k' : Nat,k'<p->H8 M2=some (.lst (aA DT))/\aq H6 (upd H8 M2 (.lst (aA DT++[.int (k' : Int)])))/\upd H8 M2 (.lst (aA DT++[.int (k' : Int)])) M2=some (.lst (aA DT++[.int (k' : Int)]))/\∃ ks3:List Nat,aA DT++[.int (k' : Int)]=aA ks3/\ks3.length=i+1/\∀ k∈ks3,k<p:=fun k' hk'=>by
       refine⟨s8 _ _ UE,(s7.trans s8).put Ls,ae,DT++[k'],(bY DT k').symm,by rw[List.length_append,Sa];rfl,fun x hx=>?_⟩
       rcases List.mem_append.mp hx with hx|hx
       ·exact kb2 x hx
       ·have e:x=k':=by simpa using hx
        lia
      cases hd:decide (V.int (k:Int)=V.int (ks[v]:Int)) with
      | true=>exact(ju (aL.of UG) (ao (j:=1) rfl) (V9 _ Zc))
      | false=>exact(ju (aL.of UG) (ao (j:=0) rfl) (V9 _ hkp))
     ·rintro acc H7 ⟨s7,UE,DT,rfl,Sa,kb2⟩;rw[aC,kl]at Sa;refine⟨M2,n+1,_,_,_,_,_,rfl,?_,by lia,⟨DT,UE,Sa,kb2⟩,t6.1.free Ls,fun e=>?_⟩
      ·obtain⟨a1,acc,ts,a2,a3,a4⟩:=t6;exact⟨a1.trans s7,acc,ts,s7 _ _ a2,Paired.imp' (fun _ _ z=>z.tups s7.tups) a3,a4⟩
      ·rw[e,V8]at Ls;cases Ls
    refine(au rfl (qa rfl (.inl (aL.of Ri)) (au rfl (cj (au rfl (k8 (fun h1=>?_) (fun _=>skip)))))))
    have h1:(CO.length:Int)<(mt:Int):=of_decide_eq_true h1;refine(au rfl (au rfl (?_)));cases jb with
    | true=>exact fV (put (by lia))
    | false=>exact fQ (au rfl (au rfl (cj (au rfl (k8 (fun _=>put (by lia)) (fun _=>skip))))))
   ·rintro σ H4 ⟨M,n,f,v10,v11,Gh,Rh,rfl,t4,hnm,b4,V6,UD⟩;obtain⟨acc,ts,Ze,VP,gd,mk⟩:=t4.fin;refine(au rfl (au rfl ⟨L,_,rfl,.inl ⟨aL.of Ze,fun l hl=>⟨dl rfl,fun w hw=>?_⟩⟩⟩))
    obtain⟨sm,Zf⟩:=mk l hl w hw;exact q w p ts _ (s1.trans sm) ⟨by lia,by lia,by lia,gd⟩ p1 p2 (by lia) Zf
  refine(au rfl (cj ⟨⟨by decide,by decide⟩,cj ⟨(nk rfl),rfl,au rfl (k8 (fun _=>?_) (fun _=>cont c ms _ (aq.new hc) ae))⟩⟩))
  have s1:aq H (upd H c (.lst (ms.map V.int))):=aq.new hc;generalize upd H c (.lst (ms.map V.int))=H1 at s1;refine(au rfl (au rfl ⟨b,_,rfl,s1.seq hS,fun c3 hc3=>?_⟩))
  rw[N8];have s2:aq H1 (upd H1 c3 (.lst (ms.map V.int))):=aq.new hc3;have hc2:upd H1 c3 (.lst (ms.map V.int)) c3=some (.lst (ms.map V.int)):=ae;generalize upd H1 c3 (.lst (ms.map V.int))=H2 at s2 hc2;refine⟨c3,rfl,⟨_,aL.of hc2⟩,fun D hD=>BV (xs:=ms.map V.int) (fun i acc H3=>aq H2 H3/\H3 D=some (.lst acc)/\∃ ms2:List Int,acc=ms2.map V.int/\ms2.length=i) ⟨aq.new hD,ae,[],rfl,rfl⟩ (fun i acc H3 _ z=>⟨aL.of (z.1 _ _ hc2),z.2.1,by obtain⟨ms2,e,e2⟩:=z.2.2;rw[e,List.length_map,e2];exact Nat.le_refl _⟩) (Nat.le_of_lt (cW (by rw[List.length_map];lia))) ?_ ?_⟩
  ·rintro i x T0 acc H3 hx ⟨s3,nY,ms2,rfl,UH⟩ hT;rw[List.getElem?_map]at hx;obtain⟨ce,hce,rfl⟩:=Option.map_eq_some_iff.mp hx;have xN:=(List.getElem?_eq_some_iff.mp hce).1;refine⟨T0,_,rfl,aV.of ae,rfl,_,_,rfl,_,_,rfl,rfl,rfl,au rfl (au rfl ⟨ce,(i:Int),rfl,by lia,by lia,fun y _ _=>?_⟩)⟩
   have s4:aq H3 (upd H3 T0 (.tup [.int (i:Int),.int ce])):=aq.new hT;exact⟨s4 _ _ nY,(s3.trans s4).put hD,ae,ms2++[y],by rw[List.map_append];rfl,by rw[List.length_append,UH];rfl⟩
  ·rintro acc H3 ⟨s3,nY,ms2,rfl,UH⟩;rw[List.length_map]at UH;refine(au rfl ⟨.inl ⟨rfl,_,aL.of nY⟩,au rfl ⟨(by decide),(by decide),fun D2 iS=>bX (lo:=0) (m:=5) (fun i acc H4=>aq H3 H4/\H4 D2=some (.lst acc)/\∃ OQ:List Int,acc=OQ.map V.int/\OQ.length=i) ⟨aq.new iS,ae,[],rfl,rfl⟩ (fun i acc H4 _ z=>⟨z.2.1,by obtain⟨ms2,e,e2⟩:=z.2.2;rw[e,List.length_map,e2];exact Nat.le_refl _⟩) (cV (by decide)) ?_ ?_⟩⟩)
   ·rintro i acc H4 hi ⟨s4,uR,OQ,rfl,Wa⟩;rw[Int.zero_add];exact⟨rfl,au rfl (au rfl (cj ⟨z,_,rfl,by lia,by lia,fun y _ _=>⟨uR,s4.put iS,ae,OQ++[y],by rw[List.map_append];rfl,by rw[List.length_append,Wa];rfl⟩⟩))⟩
   ·rintro acc H4 ⟨s4,uR,OQ,rfl,Wa⟩;have UI:=s4 _ _ nY;refine⟨D,D2,_,_,rfl,rfl,UI,uR,dl (Nat.ble_eq.mpr (by rw[List.length_map,List.length_map];lia)),?_⟩
    refine cont D (ms2++OQ) _ ?_ ?_
    ·exact(((s1.trans s2).trans (s3.trans s4))).put ((s1.trans s2).free hD)
    ·rw[ae,List.map_append]
def F4:Sp:=fun vs H Q _=>∃ w p ts,∃ g:aD p ts,∃(S:Int) (m:Nat),vs=[.ref w,.int S]/\S=(m:Int)/\bg H w p ts/\m<2^ts.length/\∀ D H',aq H H'->H' D=some (.lst (b7 (fun x=>g.N.dg m x) p))->Q (.ref D) H'
def CP:Sp:=fun vs H Q _=>∃ w p ts,∃ g:aD p ts,∃(S:Int) (m:Nat),vs=[.ref w,.int S]/\S=(m:Int)/\bg H w p ts/\m<2^ts.length/\∀ H',aq H H'->Q (.int ((RM.cnt (g.N.root (fun k=>m.testBit k) ts.length) p:Nat):Int)) H'
def Jq:Sp:=fun vs H Q _=>∃ w p ts,∃ g:aD p ts,∃(S:Int) (m:Nat),vs=[.ref w,.int S]/\S=(m:Int)/\bg H w p ts/\m<2^ts.length/\∀ H' (d:Bool),aq H H'->(d=true↔g.N.Ring m)->Q (.bl d) H'
theorem Jr{N:RM.Net}{m x:Nat}(k:Nat):RM.cnt (fun j=>m.testBit j&&N.inc j x) (k+1)=RM.cnt (fun j=>m.testBit j&&N.inc j x) k+if(m.testBit k&&N.inc k x)=true then 1 else 0:=rfl
theorem Oa(x u v:Nat):LH (.int (x:Int)) [.int (u:Int),.int (v:Int)]=decide (u=x\/v=x):=by
 have e:([.int (u:Int),.int (v:Int)]:List V)=aA [u,v]:=rfl;rw[e,lq];refine decide_eq_decide.mpr ?_;simp[eq_comm]
theorem AZ{f:Nat->Nat}{n u v:Nat}:(b7 f n).set u (.int (v:Int))=b7 (fun x=>if x=u then v else f x) n:=by
 unfold b7;refine List.ext_getElem? fun i=>?_
 rw[List.getElem?_set,List.getElem?_map]
 by_cases e:u=i
 ·subst e;rw[if_pos rfl,List.length_map,List.length_range]
  by_cases h:u<n
  ·rw[if_pos h,List.getElem?_map,List.getElem?_range h];simp
  ·rw[if_neg h,List.getElem?_map,List.getElem?_eq_none (by rw[List.length_range];lia)]
   rfl
 ·rw[if_neg e,List.getElem?_map]
  by_cases h:i<n
  ·rw[List.getElem?_range h];simp[show ¬ i=u from fun z=>e z.symm]
  ·rw[List.getElem?_eq_none (by rw[List.length_range];lia)]
   rfl
theorem F5{f g:Nat->Int}{n:Nat}(h:∀ i,i<n->f i=g i):PyProof.Rows.firstMet f n=PyProof.Rows.firstMet g n:=by
 unfold PyProof.Rows.firstMet;rw[List.map_congr_left fun i hi=>h i (List.mem_range.mp hi)]
theorem eF:Ok T T.ik 1 F4:=by
 refine T.ik.ok jz fun cdv A outer s H vs Q E hr h=>?_
 ·obtain⟨wb,p,ts,g,S,m,rfl,rfl,hw,hm,q⟩:=h;refine⟨_,(ak (aF (i:=2) jz.nd rfl (Or.inl rfl) (aK Br (dD (aa ai af)) (aG (cu K) (pv 0) ai)))
   (ak (eJ PassesOwn.never rfl (bF (by rfl) T.bW (aa (aM (iH K) (by rfl) T.dc PySem.boot_len (aa (aG (cu K) (pv 0) ai) af)) af)) (br 3 jz.nd)
   (av (cJ (aO eI (aK dB (aK xn (pv 1) (pv 3)) ai) ai (aN _)) (ak (Be (aK eK (aG (jH K) (pv 2) (aG (cu K) (aG (cu K) (aG (cu K) (pv 0) ai) (pv 3)) ai)) ai) (Bd (pv 2) (aG (cu K) (aG (cu K) (aG (cu K) (pv 0) ai) (pv 3)) ai) set_list))
   (av (Be (aK eK (aG (jH K) (pv 2) (aG (cu K) (aG (cu K) (aG (cu K) (pv 0) ai) (pv 3)) ai)) ai) (Bd (pv 2) (aG (cu K) (aG (cu K) (aG (cu K) (pv 0) ai) (pv 3)) ai) set_list)))) bh)))
   (av (aH (pv 2))))),?_⟩
  refine nc ?_;intro cE cR dZ fR iT;obtain⟨bt,xs,h1,h2,h3⟩:=id hw.ex;have yJ:=h3.length;have wl:=g.len;have wp:=g.p2;refine⟨dl rfl,fun c hc=>?_⟩
  have s1:aq H (upd H c (.lst [.int 0])):=aq.new hc;have hc1:upd H c (.lst [.int 0]) c=some (.lst [.int 0]):=ae;generalize upd H c (.lst [.int 0])=H1 at s1 hc1;refine(au rfl (cy (aV.of (s1 _ _ h1)) (ao (j:=0) rfl) ⟨c,(p:Int),au rfl ⟨rfl,hc1,by lia,by lia,(by rw[Int.toNat_natCast];show 1*p<=sizeLine;exact dl (Nat.ble_eq.mpr (by lia))),fun e he=>?_⟩⟩))
  have QT:H e=none:=s1.free he;have s2:=s1.trans (aq.new (o:=.lst (List.replicate (p:Int).toNat [V.int 0]).flatten) he);have Ks:upd H1 e (.lst (List.replicate (p:Int).toNat [V.int 0]).flatten) e=some (.lst (b7 (fun _=>0) p)):=by
   rw[ae,Int.toNat_natCast,zB]
  generalize upd H1 e (.lst (List.replicate (p:Int).toNat [V.int 0]).flatten)=H2 at s2 Ks;refine(au rfl (cy (aV.of (s2 _ _ h1)) (ao (j:=1) rfl) (qa rfl (.inr (aV.of (s2 _ _ h2))) (au rfl ⟨(by lia),(by lia),?_⟩))))
  refine gh (lo:=0) (n:=(xs.length:Int).toNat) (fun k σ H3=>∃ v3,σ=[some (.ref wb),some (.int (m:Int)),some (.ref e),v3]/\aq H H3/\H3 e=some (.lst (b7 (fun x=>RM.cnt (fun j=>m.testBit j&&g.N.inc j x) k) p))) ⟨none,rfl,s2,Ks⟩ ?_ ?_
  ·rintro k D' σ H3 hk ⟨v3,rfl,s3,FN⟩;rw[Int.toNat_natCast]at hk;rw[Int.zero_add];have l6:k<ts.length:=by lia
   obtain⟨ct,ex,hct⟩:=tK (g:=g) h3 l6;have ha:g.N.a k<p:=g.N.al k l6;have hb:g.N.b k<p:=g.N.bl k l6;have ne:g.N.a k≠g.N.b k:=g.N.ne k l6;refine(au rfl (au rfl (cj ⟨(by lia),cj ⟨(nk rfl),rfl,au rfl (?_)⟩⟩)))
   rw[Int.toNat_natCast,Bx,fE];cases oE:m.testBit k with
   | false =>
     refine fQ (au rfl ⟨s3,?_⟩);rw[FN]
     congr 2
     refine sW fun x _=>?_
     rw[Jr,oE];rfl
   | true =>
     generalize hF:(fun x=>RM.cnt (fun j=>m.testBit j&&g.N.inc j x) k)=F at FN
     refine fV (au rfl (au rfl (cy (aV.of (s3 _ _ h1)) (ao (j:=1) rfl) (au rfl (cy (aV.of (s3 _ _ h2)) (ao (j:=k) ex) (cy (aV.of (s3 _ _ hct)) (ao (j:=0) rfl) (ju (aL.of FN) (ao (bH ha)) (cj (?_)))))))));refine(au rfl (au rfl (cy (aV.of (s3 _ _ h1)) (ao (j:=1) rfl) (au rfl (cy (aV.of (s3 _ _ h2)) (ao (j:=k) ex) (cy (aV.of (s3 _ _ hct)) (ao (j:=0) rfl) ⟨e,_,_,g.N.a k,rfl,rfl,FN,n6 (by rw[bL];exact ha),?_⟩))))))
     have e4:(b7 F p).set (g.N.a k) (.int ((F (g.N.a k):Nat)+1:Int))=b7 (fun x=>if x=g.N.a k then F (g.N.a k)+1 else F x) p:=by
      rw[<-AZ];rfl
     dsimp only;rw[e4];have s4:aq H (upd H3 e (.lst (b7 (fun x=>if x=g.N.a k then F (g.N.a k)+1 else F x) p))):=s3.put QT
     have Sb:upd H3 e (.lst (b7 (fun x=>if x=g.N.a k then F (g.N.a k)+1 else F x) p)) e=_:=ae
     generalize upd H3 e (.lst (b7 (fun x=>if x=g.N.a k then F (g.N.a k)+1 else F x) p))=H4 at s4 Sb
     generalize Lu:(fun x=>if x=g.N.a k then F (g.N.a k)+1 else F x)=F2 at Sb
     refine(au rfl (au rfl (cy (aV.of (s4 _ _ h1)) (ao (j:=1) rfl) (au rfl (cy (aV.of (s4 _ _ h2)) (ao (j:=k) ex) (cy (aV.of (s4 _ _ hct)) (ao (j:=1) rfl) (ju (aL.of Sb) (ao (bH hb)) (cj (?_)))))))));refine(au rfl (au rfl (cy (aV.of (s4 _ _ h1)) (ao (j:=1) rfl) (au rfl (cy (aV.of (s4 _ _ h2)) (ao (j:=k) ex) (cy (aV.of (s4 _ _ hct)) (ao (j:=1) rfl) ⟨e,_,_,g.N.b k,rfl,rfl,Sb,n6 (by rw[bL];exact hb),?_⟩))))))
     refine(au rfl ⟨s4.put QT,?_⟩);rw[ae];have e5:(b7 F2 p).set (g.N.b k) (.int ((F2 (g.N.b k):Nat)+1:Int))=b7 (fun x=>if x=g.N.b k then F2 (g.N.b k)+1 else F2 x) p:=by
      rw[<-AZ];rfl
     dsimp only;rw[e5]
     congr 2
     refine sW fun x _=>?_
     rw[Jr,oE,Bool.true_and,show RM.cnt (fun j=>m.testBit j&&g.N.inc j x) k=F x from congrFun hF x]
     unfold RM.Net.inc;have f2:∀ y,F2 y=if y=g.N.a k then F (g.N.a k)+1 else F y:=fun y=>(congrFun Lu y).symm
     by_cases e1:x=g.N.b k
     ·rw[if_pos e1,f2,if_neg (fun z:g.N.b k=g.N.a k=>ne z.symm),e1,decide_eq_false ne,decide_eq_true rfl]
      rfl
     ·rw[if_neg e1,f2,decide_eq_false (fun z:g.N.b k=x=>e1 z.symm),Bool.xor_false]
      by_cases e2:x=g.N.a k
      ·rw[if_pos e2,e2,decide_eq_true rfl];rfl
      ·rw[if_neg e2,decide_eq_false (fun z:g.N.a k=x=>e2 z.symm)]
       rfl
  ·rintro σ H3 ⟨v3,rfl,s3,FN⟩;rw[Int.toNat_natCast,yJ]at FN;exact(au rfl (q e H3 s3 FN))
theorem kN:Ok T T.kE 1 CP:=by
 refine T.kE.ok eW fun cdv A outer s H vs Q E hr h=>?_
 ·obtain⟨wb,p,ts,g,S,m,rfl,rfl,hw,hm,q⟩:=h;refine⟨_,(ak (aF (i:=2) eW.nd rfl (Or.inr rfl) (bj (own:=["point"]) (frees:=[]) (js:=[]) (aB (ah fM) ["web","some","marks","k","old"]) rfl (bF (by rfl) T.bW (aa (aG (cu K) (pv 0) ai) af)) (fun _ _ _ _=>(br 0 (show(["point"]:List Str).Nodup by decide +kernel))) (fun _ _ _ _=>bK) (fun _ _ _ _=>(pv 0))))
   (ak (eJ PassesOwn.never rfl (bF (by rfl) T.bW (aa (aM (iH K) (by rfl) T.dc PySem.boot_len (aa (aG (cu K) (pv 0) ai) af)) af)) (xj (i:=3) eW.nd rfl (Or.inr rfl))
   (av (cJ (aO eI (aK dB (aK xn (pv 1) (pv 3)) ai) ai (aN _)) (ak (aF (i:=4) eW.nd rfl (Or.inr rfl) (aG (jH K) (pv 2) (aG (cu K) (aG (cu K) (aG (cu K) (pv 0) ai) (pv 3)) ai)))
   (av (aF (i:=2) eW.nd rfl (Or.inr rfl) (bj (own:=["mark"]) (frees:=["web","marks","k","old"]) (js:=[0,2,3,4]) (aB (ah fM) ["web","some","marks","k","old"]) rfl (mW K (pv 2)) (fun _ _ _ _=>(br 0 (show(["mark","web","marks","k","old"]:List Str).Nodup by decide +kernel))) (fun _ _ _ _=>bK) (fun _ _ _ _=>(aG (jH K) (dD (aa (pv 0) (aa (aG (jH K) (pv 2) (aG (cu K) (aG (cu K) (aG (cu K) (pv 1) ai) (pv 3)) ai)) af))) (cL pD (by rfl) T.DO PyProof.Rows.boot_int (aa (cD eI (pv 0) (pv 4) (aN _)) af)))))))) bh)))
   (av (aH (aM MY (by rfl) T.dc PySem.boot_len (aa (cL (Ti K rfl) (by rfl) T.QN PyProof.Rows.boot_set (aa (pv 2) af)) af)))))),?_⟩
  refine nc ?_;intro cE cR dZ fR iT;obtain⟨bt,xs,h1,h2,h3⟩:=id hw.ex;have yJ:=h3.length;have wl:=g.len;have wp:=g.p2;refine(au rfl (cy (aV.of h1) (ao (j:=0) rfl) (au rfl ⟨(by lia),(by lia),fun M hM=>bX (lo:=0) (m:=p) (sX (fun x=>x) H M) (.start hM) (fun i acc H3 _ pd=>pd.len) (cV (by lia)) ?_ ?_⟩)))
  ·intro i acc H3 hi pd;rw[Int.zero_add];exact⟨rfl,au rfl (pd.next hM (aq.refl _) rfl)⟩
  intro acc H1 pd;have Zg:H1 M=some (.lst (b7 (fun x=>x) p)):=by rw[pd.2.1,pd.2.2]
  have s1:=pd.1;clear pd;refine(au rfl (cy (aV.of (s1 _ _ h1)) (ao (j:=1) rfl) (qa rfl (.inr (aV.of (s1 _ _ h2))) (au rfl ⟨(by lia),(by lia),?_⟩))))
  refine gh (lo:=0) (n:=(xs.length:Int).toNat) (fun k σ H3=>∃ M v3 v4 L,σ=[some (.ref wb),some (.int (m:Int)),some (.ref M),v3,v4]/\aq H H3/\H3 M=some (.lst (b7 L p))/\RM.tV g.N (fun k=>m.testBit k) L k) ⟨M,none,none,_,rfl,s1,Zg,RM.tV.start⟩ ?_ ?_
  ·rintro k D' σ H3 hk ⟨M,v3,v4,L,rfl,s3,Ob,rel⟩;rw[Int.toNat_natCast]at hk;rw[Int.zero_add];have l6:k<ts.length:=by lia
   obtain⟨ct,ex,hct⟩:=tK (g:=g) h3 l6;have ha:g.N.a k<p:=g.N.al k l6;have hb:g.N.b k<p:=g.N.bl k l6;refine(au rfl (au rfl (cj ⟨(by lia),cj ⟨(nk rfl),rfl,au rfl (?_)⟩⟩)))
   rw[Int.toNat_natCast,Bx,fE];cases oE:m.testBit k with
   | false=>exact fQ ⟨M,_,_,L,rfl,s3,Ob,rel.skip oE⟩
   | true =>
     refine fV (au rfl (au rfl (cy (aV.of (s3 _ _ h1)) (ao (j:=1) rfl) (au rfl (cy (aV.of (s3 _ _ h2)) (ao (j:=k) ex) (cy (aV.of (s3 _ _ hct)) (ao (j:=1) rfl) (ju (aL.of Ob) (ao (bH hb)) (?_))))))));refine(au rfl ⟨M,rfl,⟨_,aL.of Ob⟩,fun M2 Ls=>aX (xs:=b7 L p) (sX (RM.M5 L (g.N.a k) (g.N.b k)) H3 M2) (.start Ls) (fun i acc H4 _ pd=>⟨aL.of (pd.1 _ _ Ob),pd.len⟩) (by rw[bL];exact dl (Nat.ble_eq.mpr (by lia))) ?_ ?_⟩)
     ·intro i x acc H4 hx pd;obtain⟨hi,rfl⟩:=i8 hx;have s4:=s3.trans pd.1;refine⟨rfl,au rfl (au rfl (au rfl (cy (aV.of (s4 _ _ h1)) (ao (j:=1) rfl) (au rfl (cy (aV.of (s4 _ _ h2)) (ao (j:=k) ex) (cy (aV.of (s4 _ _ hct)) (ao (j:=0) rfl) (ju (aL.of (pd.1 _ _ Ob)) (ao (bH ha)) ⟨dl rfl,fun l hl=>?_⟩)))))))⟩
      refine(au rfl (au rfl ⟨rfl,.inr (au rfl (?_))⟩));rw[i9]
      by_cases e:L i=L (g.N.b k)
      ·rw[decide_eq_true e];exact(ju (aL.of ae) (ao (j:=1) rfl) (pd.next Ls (aq.new hl) (by unfold RM.M5;rw[if_pos e])))
      ·rw[decide_eq_false e];exact(ju (aL.of ae) (ao (j:=0) rfl) (pd.next Ls (aq.new hl) (by unfold RM.M5;rw[if_neg e])))
     ·intro acc H4 pd;rw[bL]at pd;exact⟨M2,_,_,_,rfl,s3.trans pd.1,by rw[pd.2.1,pd.2.2],rel.put l6 oE⟩
  ·rintro σ H3 ⟨M,v3,v4,L,rfl,s3,Ob,rel⟩;rw[Int.toNat_natCast,yJ]at rel;have ens:b7 L p=((List.range p).map fun x=>((L x:Nat):Int)).map V.int:=by
    unfold b7;rw[List.map_map];rfl
   refine(au rfl ⟨M,(List.range p).map (fun x=>((L x:Nat):Int)),rfl,aL.of (by rw[Ob,ens]),by rw[List.length_map,List.length_range];lia,fun l S hl=>⟨l,S,_,rfl,ae,?_⟩⟩)
   rw[List.length_map,List.length_range,F5 (g:=fun i=>((L i:Nat):Int)) (fun i hi=>by rw[List.getD_eq_getElem?_getD,List.getElem?_map,List.getElem?_range hi];rfl)]
   have e:=RM.K0 (N:=g.N) (L:=L) rel;have e:(PyProof.Rows.firstMet (fun i=>((L i:Nat):Int)) p).length=_:=e
   rw[e];exact q _ (s3.trans (aq.new hl))
theorem nJ:Ok T T.nF 2 Jq:=by
 have kN:=kN T;have eF:=eF T;refine T.nF.ok rq fun cdv A outer s H vs Q E hr h=>?_
 ·obtain⟨wb,p,ts,g,S,m,rfl,rfl,hw,hm,q⟩:=h;refine⟨_,(ak (aF (i:=2) rq.nd rfl (Or.inl rfl) (aI eF hr T.ik.c aP (aa (pv 0) (aa (pv 1) af))))
   (ak (cJ (PW.pt (sy (aO Gz (pv 1) ai (aN _)) (pq (aO qV (aM (iH K) (by rfl) T.dc PySem.boot_len (aa (bj (own:=["count"]) (frees:=[]) (js:=[]) (aB (ah iU) ["web","some","counts"]) rfl (mW K (pv 2)) (fun _ _ _ _=>(br 0 (show(["count"]:List Str).Nodup by decide +kernel))) (fun _ _ _ _=>(dU (aO (Bu K) (pv 0) (cU (aa ai (aa ai af))) (by with_unfolding_all rfl)))) (fun _ _ _ _=>(pv 0))) af)) ai (aN _))))) (av (aH nR)) bh)
   (av (aH (cD eI (aI kN hr T.kE.c aP (aa (pv 0) (aa (pv 1) af))) (aK eK (aK pC (aG (cu K) (pv 0) ai) (aM (iH K) (by rfl) T.dc PySem.boot_len (aa (bj (own:=["count"]) (frees:=[]) (js:=[]) (aB (ah iU) ["web","some","counts"]) rfl (mW K (pv 2)) (fun _ _ _ _=>(br 0 (show(["count"]:List Str).Nodup by decide +kernel))) (fun _ _ _ _=>(dU (aO eI (pv 0) ai (aN _)))) (fun _ _ _ _=>(pv 0))) af))) ai) (aN _)))))),?_⟩
  refine An ?_;intro cE cR dZ;obtain⟨bt,xs,h1,h2,h3⟩:=id hw.ex;have wp:=g.p2;refine(au rfl (au rfl ⟨wb,p,ts,g,_,m,rfl,rfl,hw,hm,fun D H1 s1 rG=>?_⟩))
  refine(au rfl (cj (au rfl (k8 (fun h0=>?_) (fun h0=>?_)))))
  ·have h0:(m:Int)<=0:=of_decide_eq_true h0;exact q H1 false s1 ⟨(fun z=>nomatch z),fun r=>absurd (show m=0 by lia) r.1⟩
  have h0:m≠0:=fun z=>h0 (decide_eq_true (show(m:Int)<=0 by lia))
  refine(au rfl ⟨D,rfl,⟨_,aL.of rG⟩,fun C hC=>aX (xs:=b7 (fun x=>g.N.dg m x) p) (fun i acc H2=>aq H1 H2/\H2 C=some (.lst acc)/\acc.length=RM.cnt (fun x=>!decide (0=g.N.dg m x\/2=g.N.dg m x)) i) ⟨aq.new hC,ae,rfl⟩ (fun i acc H2 _ f=>⟨aL.of (f.1 _ _ rG),f.2.1,by have:=RM.i0 (fun x=>!decide (0=g.N.dg m x\/2=g.N.dg m x)) i;have:=f.2.2;lia⟩) (cV (by rw[bL];lia)) ?_ ?_⟩)
  ·rintro i x acc H2 hx ⟨s2,yV,al⟩;obtain⟨hi,rfl⟩:=i8 hx;refine⟨rfl,au rfl ⟨dl rfl,fun u hu=>(qa rfl (.inr (aV.of ae)) ⟨rfl,rfl,au rfl (?_)⟩)⟩⟩
   have e:LH (.int ((g.N.dg m i:Nat):Int)) [.int 0,.int 2]=decide (0=g.N.dg m i\/2=g.N.dg m i):=Oa _ 0 2;have hc1:RM.cnt (fun x=>!decide (0=g.N.dg m x\/2=g.N.dg m x)) (i+1)=RM.cnt (fun x=>!decide (0=g.N.dg m x\/2=g.N.dg m x)) i+if(!decide (0=g.N.dg m i\/2=g.N.dg m i))=true then 1 else 0:=rfl
   dsimp only;rw[if_pos rfl,e];have Wb:C≠u:=aW yV hu;cases hb:decide (0=g.N.dg m i\/2=g.N.dg m i) with
   | false =>
     rw[hb]at hc1;refine fV (au rfl ⟨by rw[aj Wb];exact yV,(s2.trans (aq.new hu)).put hC,ae,?_⟩)
     rw[List.length_append,hc1,al];rfl
   | true =>
     rw[hb]at hc1;exact fQ ⟨s2.trans (aq.new hu),by rw[aj Wb];exact yV,by rw[hc1,al];rfl⟩
  rintro acc H2 ⟨s2,yV,al⟩;rw[bL]at al;have s12:=s1.trans s2;refine(qa rfl (.inl (aL.of yV)) (cj (au rfl (k8 (fun hpos=>?_) (fun hpos=>?_)))))
  ·have hpos:(0:Int)<(acc.length:Int):=of_decide_eq_true hpos;refine q H2 false s12 ⟨(fun z=>nomatch z),fun r=>?_⟩
   obtain⟨x,hx,hf⟩:=RM.ly (show 0<RM.cnt _ p by rw[<-al];lia)
   have d2:=RM.KR hm r x hx;rw[Bool.not_eq_true',decide_eq_false_iff_not]at hf;exact absurd (d2.imp Eq.symm Eq.symm) hf
  have d2:g.N.D2 m:=fun x hx=>by
   apply Classical.byContradiction;intro hn;have:=RM.mj (f:=fun x=>!decide (0=g.N.dg m x\/2=g.N.dg m x)) (k:=x) (by
    rw[Bool.not_eq_true',decide_eq_false_iff_not];exact fun z=>hn (z.imp Eq.symm Eq.symm)) (show x<p from hx)
   exact hpos (decide_eq_true (show(0:Int)<(acc.length:Int) by lia))
  refine(au rfl (au rfl ⟨wb,p,ts,g,_,m,rfl,rfl,hw.same s12,hm,fun H3 s3=>?_⟩))
  have qK:=s12.trans s3;have nY:=(s2.trans s3) _ _ rG;refine(au rfl (cy (aV.of (qK _ _ h1)) (ao (j:=0) rfl) (?_)));refine(au rfl ⟨D,rfl,⟨_,aL.of nY⟩,fun C2 yV=>aX (xs:=b7 (fun x=>g.N.dg m x) p) (fun i acc H4=>aq H3 H4/\H4 C2=some (.lst acc)/\acc.length=RM.cnt (fun x=>decide (g.N.dg m x=2)) i) ⟨aq.new yV,ae,rfl⟩ (fun i acc H4 _ f=>⟨aL.of (f.1 _ _ nY),f.2.1,by have:=RM.i0 (fun x=>decide (g.N.dg m x=2)) i;have:=f.2.2;lia⟩) (cV (by rw[bL];lia)) ?_ ?_⟩)
  ·rintro i x acc H4 hx ⟨s4,Sd,Se⟩;obtain⟨hi,rfl⟩:=i8 hx;refine⟨rfl,au rfl ⟨rfl,au rfl (?_)⟩⟩;have hc1:RM.cnt (fun x=>decide (g.N.dg m x=2)) (i+1)=RM.cnt (fun x=>decide (g.N.dg m x=2)) i+if decide (g.N.dg m i=2)=true then 1 else 0:=rfl
   have e:decide (V.int ((g.N.dg m i:Nat):Int)=V.int 2)=decide (g.N.dg m i=2):=i9 _ 2;rw[e];cases hb:decide (g.N.dg m i=2) with
   | true =>
     rw[hb]at hc1;refine(au rfl ⟨Sd,s4.put yV,ae,?_⟩);rw[List.length_append,hc1,Se];rfl
   | false =>
     rw[hb]at hc1;exact⟨s4,Sd,by rw[hc1,Se];rfl⟩
  ·rintro acc H4 ⟨s4,Sd,Se⟩;rw[bL]at Se;refine(qa rfl (.inl (aL.of Sd)) (cj (cj ⟨rfl,q H4 _ (qK.trans s4) ?_⟩)));have h:=RM.Ib hm h0 d2;have hcc:RM.cnt (fun x=>decide (g.N.dg m x=2)) p<=p:=by have:=RM.i0 (fun x=>decide (g.N.dg m x=2)) p;lia
   rw[h,decide_eq_true_iff]
   constructor
   ·intro e;have e:=V.int.inj e;show RM.cnt (g.N.root (fun k=>m.testBit k) ts.length) p+RM.cnt (fun x=>decide (g.N.dg m x=2)) p=p+1
    lia
   ·intro e;have e:RM.cnt (g.N.root (fun k=>m.testBit k) ts.length) p+RM.cnt (fun x=>decide (g.N.dg m x=2)) p=p+1:=e
    exact congrArg V.int (by lia)
def Js:Sp:=fun vs H Q _=>∃ w p ts,∃ g:aD p ts,∃(S:Int) (m:Nat),vs=[.ref w,.int S]/\S=(m:Int)/\bg H w p ts/\m<2^ts.length/\∀ H',aq H H'->Q (.int (lenOf ts m)) H'
theorem gB:Ok T T.kF 1 Js:=by
 refine T.kF.ok Ao fun cdv A outer s H vs Q E hr h=>?_
 ·obtain⟨wb,p,ts,g,S,m,rfl,rfl,hw,hm,q⟩:=h;refine⟨_,(av (aH (aM (sumK K rfl) (by rfl) T.Me PyProof.Rows.boot_sum (aa (bj (own:=["k"]) (frees:=["web","some"]) (js:=[0,1]) (aB (ah kr) ["web","some"]) rfl (bF (by rfl) T.bW (aa (aM (iH K) (by rfl) T.dc PySem.boot_len (aa (aG (cu K) (pv 0) ai) af)) af)) (fun _ _ _ _=>(br 0 (show(["k","web","some"]:List Str).Nodup by decide +kernel))) (fun _ _ _ _=>(dU (aO eI (aK dB (aK xn (pv 2) (pv 0)) ai) ai (aN _)))) (fun _ _ _ _=>(aG (cu K) (aG (cu K) (aG (cu K) (pv 1) ai) (pv 0)) ai))) af)))),?_⟩
  obtain⟨bt,xs,h1,h2,h3⟩:=id hw.ex;have yJ:=h3.length;have wl:=g.len;refine(au rfl (cy (aV.of h1) (ao (j:=1) rfl) (qa rfl (.inr (aV.of h2)) (au rfl ⟨(by lia),(by lia),fun D hD=>bX (lo:=0) (m:=xs.length) (fun i acc H2=>aq H H2/\H2 D=some (.lst acc)/\acc=(((List.range i).filter (fun k=>m.testBit k)).map fun k=>(bN ts k).2.2).map V.int) ⟨aq.new hD,ae,rfl⟩ (fun i acc H2 _ z=>⟨z.2.1,by rw[z.2.2,List.length_map,List.length_map];exact Nat.le_trans (List.length_filter_le _ _) (by rw[List.length_range];exact Nat.le_refl _)⟩) (cV (by lia)) ?_ ?_⟩))))
  ·rintro i acc H2 hi ⟨s2,iS,rfl⟩;rw[Int.zero_add];obtain⟨c,hxc,hct⟩:=tK (g:=g) h3 (show i<ts.length by lia)
   refine⟨rfl,au rfl (au rfl (cj ⟨(by lia),cj ⟨(nk rfl),rfl,au rfl (?_)⟩⟩))⟩
   rw[Int.toNat_natCast,Bx,fE];cases hb:m.testBit i with
   | true =>
     refine(au rfl (cy (aV.of (s2 _ _ h1)) (ao (j:=1) rfl) (au rfl (cy (aV.of (s2 _ _ h2)) (ao (j:=i) hxc) (cy (aV.of (s2 _ _ hct)) (ao (j:=2) rfl) ⟨iS,s2.put hD,ae,?_⟩)))));rw[aU,if_pos hb,List.map_append,List.map_append];rfl
   | false =>
     refine⟨s2,iS,?_⟩;rw[aU,if_neg (by rw[hb];decide),List.append_nil]
  ·rintro acc H2 ⟨s2,iS,rfl⟩;refine⟨D,_,rfl,aL.of iS,?_⟩;have e:lenOf ts m=(((List.range xs.length).filter (fun k=>m.testBit k)).map fun k=>(bN ts k).2.2).sum:=by
    unfold lenOf;rw[iI hm,yJ]
   rw[<-e];exact q H2 s2
def Jt:Sp:=fun vs H Q _=>∃ c,vs=[.int c]/\Q (.bl true) H
theorem lY:Ok T T.lT 1 Jt:=by
 refine T.lT.ok yg fun cdv A outer s H vs Q E hr h=>?_
 ·obtain⟨c,rfl,k⟩:=h;refine⟨_,(av (aH (sC (aM (MQ K) (by rfl) T.kH PyProof.Rows.boot_isinstance (aa (pv 0) (aa (GR (by rfl) T.DO PyProof.Rows.boot_int) af))) (sA (Gq (aM (MQ K) (by rfl) T.kH PyProof.Rows.boot_isinstance (aa (pv 0) (aa (GR (by rfl) T.NR PyProof.Rows.boot_bool) af)))))))),?_⟩
  exact(au rfl ⟨_,_,_,_,_,rfl,rfl,.int c,MM K,_,rfl,fV (au rfl ⟨_,_,_,_,_,rfl,rfl,.int c,MN K,_,rfl,k⟩)⟩)
def Ju:Sp:=fun vs H Q _=>∃ w p ts,∃ g:aD p ts,∃(S:Int) (m:Nat),vs=[.ref w,.int S]/\S=(m:Int)/\bg H w p ts/\m<2^ts.length/\∀ H' (d:Bool),aq H H'->(d=true↔g.N.bS m)->Q (.bl d) H'
def Jv:Sp:=fun vs H Q _=>∃ w p ts,∃ g:aD p ts,vs=[.ref w]/\bg H w p ts/\ts.length<=9/\∀ D l H',H D=none->aq H H'->H' D=some (.lst (aA l))->vA p ts g l->Q (.ref D) H'
theorem Lv{p:Nat}{ts:List c5}{g:aD p ts}(h9:ts.length<=9){ps ps' : List (Addr×Int×Int)}{f:Nat->Bool}(hf:∀ r,f r=true↔r<2^ts.length/\g.N.Ring r)(e:ps.map (·.2)=((List.range (2^ts.length)).filter f).map fun r=>(lenOf ts r,(r:Int)))
 (hp:ps'.Perm ps) (hw:ps'.Pairwise (fun x y=>kx x.2<=kx y.2)):vA p ts g (ps'.map fun q=>q.2.2.toNat)/\∀ q∈ps',q.2.2=((q.2.2.toNat:Nat):Int):=by
 have mem:∀ q∈ps,∃ r,f r=true/\q.2=(lenOf ts r,(r:Int)):=fun q hq=>by
  have:q.2∈ps.map (·.2):=List.mem_map.mpr ⟨q,hq,rfl⟩;rw[e]at this;obtain⟨r,hr,e2⟩:=List.mem_map.mp this;exact⟨r,(List.mem_filter.mp hr).2,e2.symm⟩
 have big:(2:Nat)^ts.length<=2^9:=Nat.pow_le_pow_right (by decide) h9
 have e3:ps.map (fun q=>q.2.2.toNat)=(List.range (2^ts.length)).filter f:=by
  have:ps.map (fun q=>q.2.2.toNat)=(ps.map (·.2)).map fun z=>z.2.toNat:=by rw[List.map_map];rfl
  rw[this,e,List.map_map];exact List.map_id _
 have pm:(ps'.map fun q=>q.2.2.toNat).Perm ((List.range (2^ts.length)).filter f):=by rw[<-e3];exact hp.map _
 refine⟨⟨?_,?_,fun r=>?_⟩,fun q hq=>?_⟩
 ·rw[List.pairwise_map];refine List.Pairwise.imp_of_mem (fun {x y} hx hy h=>?_) hw
  obtain⟨r,hr,e1⟩:=mem x (hp.mem_iff.mp hx);obtain⟨r',hr',e2⟩:=mem y (hp.mem_iff.mp hy);have b1:=((hf r).mp hr).1;have b2:=((hf r').mp hr').1;rw[e1,e2]at h ⊢;unfold kx at h;show jo ts ((r:Int).toNat) ((r' : Int).toNat);rw[Int.toNat_natCast,Int.toNat_natCast];unfold jo;have h:lenOf ts r*1073741824+(r:Int)<=lenOf ts r'*1073741824+(r' : Int):=h
  lia
 ·exact pm.nodup_iff.mpr (List.Pairwise.filter _ List.nodup_range)
 ·rw[pm.mem_iff,List.mem_filter,List.mem_range,hf];exact⟨fun z=>z.2,fun z=>⟨z.1,z⟩⟩
 ·obtain⟨r,_,e1⟩:=mem q (hp.mem_iff.mp hq);rw[e1];show(r:Int)=(((r:Int).toNat:Nat):Int);rw[Int.toNat_natCast]
theorem nK:Ok T T.nE 2 Ju:=by
 have eF:=eF T;refine T.nE.ok Am fun cdv A outer s H vs Q E hr h=>?_
 ·obtain⟨wb,p,ts,g,S,m,rfl,rfl,hw,hm,q⟩:=h;refine⟨_,(av (aH (cD (Bu K) ai (bj (own:=["count"]) (frees:=[]) (js:=[]) (aB (ah kq) ["web","some"]) rfl (mW K (aI eF hr T.ik.c aP (aa (pv 0) (aa (pv 1) af)))) (fun _ _ _ _=>(br 0 (show(["count"]:List Str).Nodup by decide +kernel))) (fun _ _ _ _=>bK) (fun _ _ _ _=>(aK dB (pv 0) ai))) (by with_unfolding_all rfl)))),?_⟩
  have wp:=g.p2;refine(au rfl (au rfl ⟨wb,p,ts,g,_,m,rfl,rfl,hw,hm,fun D H1 s1 rG=>?_⟩))
  refine⟨D,rfl,⟨_,aL.of rG⟩,fun C hC=>aX (K:=K) (a:=D) (xs:=b7 (fun x=>g.N.dg m x) p) (fun i acc H2=>aq H1 H2/\H2 C=some (.lst acc)/\acc=aA ((List.range i).map fun x=>g.N.dg m x%2)) ⟨aq.new hC,ae,rfl⟩ (fun i acc H2 _ z=>⟨aL.of (z.1 _ _ rG),z.2.1,by rw[z.2.2,aC,List.length_map,List.length_range];exact Nat.le_refl _⟩) (cV (by rw[bL];lia)) ?_ ?_⟩
  ·rintro i x acc H2 hx ⟨s2,yV,rfl⟩;obtain⟨hi,rfl⟩:=i8 hx;refine⟨rfl,au rfl (cj ⟨(nk rfl),yV,s2.put hC,ae,?_⟩)⟩;rw[List.range_succ,List.map_append,List.map_singleton,bY];rfl
  ·rintro acc H2 ⟨s2,yV,rfl⟩;refine(qa rfl (.inl (aL.of yV)) ⟨rfl,mh _,?_⟩);rw[bL,if_pos rfl];refine q H2 _ (s1.trans s2) ?_;rw[show(V.int 1)=V.int ((1:Nat):Int) from rfl,lq,Bool.not_eq_true',decide_eq_false_iff_not]
   refine⟨fun h x hx=>?_,fun h z=>?_⟩
   ·rw[RM.zE];refine decide_eq_false fun e=>h (List.mem_map.mpr ⟨x,List.mem_range.mpr hx,e⟩)
   ·obtain⟨x,hx,e⟩:=List.mem_map.mp z;have:=h x (List.mem_range.mp hx);rw[RM.zE]at this;exact of_decide_eq_false this e
theorem g7:Ok T T.gY 3 Jv:=by
 have nK:=nK T;have nJ:=nJ T;have gB:=gB T;refine T.gY.ok gn fun cdv A outer s H vs Q E hr h=>?_
 ·obtain⟨wb,p,ts,g,rfl,hw,h9,qq⟩:=h;refine⟨_,(ak (aF (i:=1) gn.nd rfl (Or.inl rfl) (dD af))
   (ak (eJ PassesOwn.never rfl (D5 (by rfl) T.bW (aa ai (aa (aK kZ ai (aM (iH K) (by rfl) T.dc PySem.boot_len (aa (aG (cu K) (pv 0) ai) af))) af))) (br 2 gn.nd)
   (av (cJ (PW.pt (Bc (dJ (aI nK hr T.nE.c aP (aa (pv 0) (aa (pv 2) af)))) (xh (dJ (aI nJ hr T.nF.c aP (aa (pv 0) (aa (pv 2) af))))))) (av (cK (Gf K (kP PySem.F.plainAttrs_list PySem.F.slot_list_append PySem.F.type_list_append cA (pv 1) (aa (cU (aa (aI gB hr T.kF.c aP (aa (pv 0) (aa (pv 2) af))) (aa (pv 2) af))) af))))) bh)))
   (av (aH (bj (own:=["pair"]) (frees:=[]) (js:=[]) (aB (ah eZ) ["web","found","some"]) rfl (mW K (aM (IF K) (by rfl) T.AM PyProof.Rows.boot_sorted (aa (pv 1) af))) (fun _ _ _ _=>(br 0 (show(["pair"]:List Str).Nodup by decide +kernel))) (fun _ _ _ _=>bK) (fun _ _ _ _=>(aG (cu K) (pv 0) ai))))))),?_⟩
  refine m9 ?_;intro cE cR dZ fR;obtain⟨bt,xs,h1,h2,h3⟩:=id hw.ex;have yJ:=h3.length;have big:(2:Nat)^ts.length<=2^9:=Nat.pow_le_pow_right (by decide) h9
  have NH:(1:Int)*2^((xs.length:Nat):Int).toNat=((2^ts.length:Nat):Int):=by rw[l9,yJ]
  have tp:=Nat.two_pow_pos ts.length;refine⟨dl rfl,fun F hF=>?_⟩
  have s1:aq H (upd H F (.lst [])):=aq.new hF;obtain⟨f,hf⟩:∃ f:Nat->Bool,∀ r,f r=true↔r<2^ts.length/\g.N.Ring r:=⟨fun r=>@decide (r<2^ts.length/\g.N.Ring r) (Classical.propDecidable _),fun r=>@decide_eq_true_iff _ (Classical.propDecidable _)⟩
  have f0:f 0=false:=by
   cases h:f 0 with
   | false=>rfl
   | true=>exact absurd rfl ((hf 0).mp h).2.1
  have few:∀(i:Nat) (ps:List (Addr×Int×Int)),ps.map (·.2)=((List.range i).filter f).map (fun r=>(lenOf ts r,(r:Int)))->ps.length<64:=fun i ps e=>by
   have h1:=congrArg List.length e;rw[List.length_map,List.length_map]at h1;have h2:=RM.um (N:=g.N) (l:=(List.range i).filter f) h9 (List.Pairwise.filter _ List.nodup_range) fun m hm=>(hf m).mp (List.mem_filter.mp hm).2
   lia
  refine(au rfl (cy (aV.of (s1 _ _ h1)) (ao (j:=1) rfl) (qa rfl (.inr (aV.of (s1 _ _ h2))) (cj ⟨⟨by lia,by lia,by decide⟩,1,((2^ts.length:Nat):Int),congrArg (fun z=>[V.int 1,V.int z]) NH,⟨by decide,by decide,by lia,by lia⟩,?_⟩))))
  refine gh (lo:=1) (n:=(((2^ts.length:Nat):Int)-1).toNat) (fun i σ H2=>∃(ps:List (Addr×Int×Int)) (v2:Option V),σ=[some (.ref wb),some (.ref F),v2]/\aq H H2/\H2 F=some (.lst (ps.map fun q=>V.ref q.1))/\(∀ q∈ps,H2 q.1=some (.tup [.int q.2.1,.int q.2.2]))/\ps.map (·.2)=((List.range (i+1)).filter f).map fun r=>(lenOf ts r,(r:Int))) ⟨[],none,rfl,s1,ae,(fun q hq=>nomatch hq),?_⟩ ?_ ?_
  ·rw[aU,f0];rfl
  ·rintro i D' σ H2 hi ⟨ps,v2,rfl,s2,Lu,OR,Mj⟩;have xN:i+1<2^ts.length:=by lia
   have ei:(1:Int)+(i:Int)=((i+1:Nat):Int):=by lia
   rw[ei];have fn:∀ H3,aq H2 H3->f (i+1)=false->∃(ps:List (Addr×Int×Int)) (v2:Option V),[some (V.ref wb),some (V.ref F),some (V.int ((i+1:Nat):Int))]=[some (.ref wb),some (.ref F),v2]/\aq H H3/\H3 F=some (.lst (ps.map fun q=>V.ref q.1))/\(∀ q∈ps,H3 q.1=some (.tup [.int q.2.1,.int q.2.2]))/\ps.map (·.2)=((List.range (i+1+1)).filter f).map fun r=>(lenOf ts r,(r:Int)):=fun H3 s3 e =>
    ⟨ps,_,rfl,s2.trans s3,s3 _ _ Lu,fun q hq=>s3 _ _ (OR q hq),by rw[aU,e,Mj];simp⟩
   refine(au rfl (au rfl ⟨wb,p,ts,g,_,i+1,rfl,rfl,hw.same s2,xN,fun H3 d s3 hd=>(au rfl (?_))⟩))
   cases d with
   | false =>
     refine fn H3 s3 ?_;cases h:f (i+1) with
     | false=>rfl
     | true=>exact absurd (hd.mpr ((hf _).mp h).2.2.1) (by decide)
   | true =>
     refine(au rfl (au rfl ⟨wb,p,ts,g,_,i+1,rfl,rfl,hw.same (s2.trans s3),xN,fun H4 d s4 hd=>(au rfl (?_))⟩))
     cases d with
     | false =>
       refine fn H4 (s3.trans s4) ?_;cases h:f (i+1) with
       | false=>rfl
       | true=>exact absurd (hd.mpr ((hf _).mp h).2) (by decide)
     | true =>
       have Sf:=s3.trans s4;have Zh:f (i+1)=true:=(hf _).mpr ⟨xN,hd.mp rfl⟩;refine(au rfl ⟨.inl ⟨rfl,_,aL.of (Sf _ _ Lu)⟩,au rfl (au rfl ⟨wb,p,ts,g,_,i+1,rfl,rfl,hw.same (s2.trans Sf),xN,fun H5 s5=>(au rfl ⟨dl rfl,fun c hc=>?_⟩)⟩)⟩)
       have s6:aq H5 (upd H5 c (.tup [.int (lenOf ts (i+1)),.int ((i+1:Nat):Int)])):=aq.new hc;have UJ:=(Sf.trans s5).trans s6;have R5:=UJ _ _ Lu;have Zi:c≠F:=fun z=>by rw[z,(Sf.trans s5) _ _ Lu]at hc;cases hc
       have pl:=few _ ps Mj;refine⟨F,_,_,rfl,rfl,R5,cW (by rw[List.length_map];lia),?_⟩
       refine⟨ps++[(c,lenOf ts (i+1),((i+1:Nat):Int))],_,rfl,(s2.trans UJ).put hF,?_,fun q hq=>?_,?_⟩
       ·rw[ae,List.map_append];rfl
       ·have Zj:∀ q∈ps,q.1≠F:=fun q hq z=>by
         have:=OR q hq;rw[z,Lu]at this;cases this
        rcases List.mem_append.mp hq with z|z
        ·rw[aj (Zj q z)];exact UJ _ _ (OR q z)
        ·rw[List.mem_singleton.mp z,aj Zi];exact ae
       ·rw[aU,Zh,if_pos rfl,List.map_append,List.map_append,Mj];rfl
  ·rintro σ H2 ⟨ps,v2,rfl,s2,Lu,OR,Mj⟩;have en:(((2^ts.length:Nat):Int)-1).toNat+1=2^ts.length:=by have:=Nat.two_pow_pos ts.length;lia
   rw[en]at Mj;have pl:=few _ ps Mj;have mem:∀ q∈ps,La q.2:=fun q hq=>by
    have:q.2∈ps.map (·.2):=List.mem_map.mpr ⟨q,hq,rfl⟩;rw[Mj]at this;obtain⟨r,hr,e2⟩:=List.mem_map.mp this;have:=((hf r).mp (List.mem_filter.mp hr).2).1;rw[<-e2];unfold La;show 0<=(r:Int)/\(r:Int)<1073741824
    lia
   refine(au rfl ⟨F,ps,rfl,aL.of Lu,OR,mem,pl,fun l ps' hl pm pw=>?_⟩)
   obtain⟨rl,nat⟩:=Lv h9 hf Mj pm pw;have s3:aq H2 (upd H2 l (.lst (ps'.map fun q=>V.ref q.1))):=aq.new hl
   have Ra:upd H2 l (.lst (ps'.map fun q=>V.ref q.1)) l=some (.lst (ps'.map fun q=>V.ref q.1)):=ae
   generalize upd H2 l (.lst (ps'.map fun q=>V.ref q.1))=H3 at s3 Ra
   have pl':=pm.length_eq;refine⟨l,rfl,⟨_,aL.of Ra⟩,fun D hD=>aX (K:=K) (a:=l) (xs:=ps'.map fun q=>V.ref q.1) (fun i acc H4=>aq H3 H4/\H4 D=some (.lst acc)/\acc=aA ((ps'.take i).map fun q=>q.2.2.toNat)) ⟨aq.new hD,ae,rfl⟩ (fun i acc H4 _ z=>⟨aL.of (z.1 _ _ Ra),z.2.1,by rw[z.2.2,aC,List.length_map,List.length_take];lia⟩) (Nat.le_of_lt (cW (by rw[List.length_map];lia))) ?_ ?_⟩
   ·rintro i x acc H4 hx ⟨s4,uR,rfl⟩;rw[List.getElem?_map]at hx;obtain⟨q,hq,rfl⟩:=Option.map_eq_some_iff.mp hx;have hm:=List.mem_of_getElem? hq;have Zk:=(s3.trans s4) _ _ (OR q (pm.mem_iff.mp hm));refine⟨rfl,au rfl (cy (aV.of Zk) (ao (j:=1) rfl) ⟨uR,s4.put hD,ae,?_⟩)⟩;rw[take3 hq,List.map_append,List.map_singleton,bY,<-nat q hm]
   ·rintro acc H4 ⟨s4,uR,rfl⟩;rw[List.length_map,List.take_length]at uR;exact qq D _ H4 ((s2.trans s3).free hD) ((s2.trans s3).trans s4) uR rl
def fP(kept:List Nat):List (Nat×Nat):=kept.map fun b=>(b.log2,b)
def Jw:Sp:=fun vs H Q _=>∃(l:Addr) (kept:List Nat) (x:Nat),vs=[.ref l,.int (x:Int)]/\H l=some (.lst (aA kept))/\(∀ b∈kept,b≠0)/\kept.length<=300/\
 (RM.gU (fP kept) x=0->Q (.bl false) H)/\(RM.gU (fP kept) x≠0->Q (.bl true) (upd H l (.lst (aA (kept++[RM.gU (fP kept) x])))))
def F6:Sp:=fun vs H Q _=>∃(l:Addr) (B:List Nat),vs=[.ref l]/\H l=some (.lst (aA B))/\B.length<=200/\∀ D C H',H D=none->aq H H'->H' D=some (.lst (aA C))->RM.sj B C->Q (.ref D) H'
theorem Jx{rows:List (Nat×Nat)}(h:RM.HM rows){t r:Nat}(ht:r.testBit t=true)(hz:∀ q∈rows,r.testBit q.1=false):RM.HM (rows++[(t,r)]):=by
 induction h with
 | nil=>exact .cons .nil ht (fun q hq=>nomatch hq)
 | cons h hr hz' ih =>
   rename_i t' r' rest
   refine .cons (ih fun q hq=>hz q (List.mem_cons_of_mem _ hq)) hr fun q hq=>?_
   rcases List.mem_append.mp hq with hq|hq
   ·exact hz' q hq
   ·have e:q=(t,r):=by simpa using hq
    rw[e];exact hz (t',r') List.mem_cons_self
theorem A1(kept:List Nat):(fP kept).map (·.2)=kept:=by
 unfold fP;rw[List.map_map];exact List.map_id kept
theorem wZ(kept:List Nat)(y:Nat):fP (kept++[y])=fP kept++[(y.log2,y)]:=by
 unfold fP;rw[List.map_append];rfl
structure Gi(B kept:List Nat):Prop where
 HY:RM.HM (fP kept)
 nz:∀ b∈kept,b≠0
 span:∀ x,RM.Sp kept x↔RM.Sp B x
 le:kept.length<=B.length
 len:kept.length=B.length↔RM.HW B
theorem Gi.start:Gi [] []:=⟨.nil,(fun b hb=>nomatch hb),fun _=>Iff.rfl,Nat.le_refl _,⟨fun _ i b h=>by simp at h,fun _=>rfl⟩⟩
theorem Gi.zero{B kept:List Nat}(h:Gi B kept)(x:Nat):RM.gU (fP kept) x=0↔RM.Sp B x:=by
 rw[RM.wq h.HY,A1];exact h.span x
theorem Gi.skip{B kept:List Nat}{b:Nat}(h:Gi B kept)(hz:RM.gU (fP kept) b=0):Gi (B++[b]) kept:=by
 have hs:=(h.zero b).mp hz;refine⟨h.HY,h.nz,fun x=>?_,?_,?_⟩
 ·rw[h.span]
  constructor
  ·exact fun z=>z.mono fun c hc=>.mem (List.mem_append_left _ hc)
  ·refine fun z=>z.mono fun c hc=>?_
   rcases List.mem_append.mp hc with hc|hc
   ·exact .mem hc
   ·have e:c=b:=by simpa using hc
    rw[e];exact hs
 ·rw[List.length_append];have:=h.le
  lia
 ·rw[List.length_append,RM.p5];have:=h.le;exact⟨fun e=>by have:([b]:List Nat).length=1:=rfl;lia,fun z=>absurd hs z.2⟩
theorem Gi.put{B kept:List Nat}{b:Nat}(h:Gi B kept)(hz:RM.gU (fP kept) b≠0):Gi (B++[b]) (kept++[RM.gU (fP kept) b]):=by
 have hs : ¬ RM.Sp B b:=fun z=>hz ((h.zero b).mpr z)
 have rC:=RM.xQ (fP kept) b;rw[A1]at rC;have hno:=RM.pW h.HY b;generalize RM.gU (fP kept) b=y at hz rC hno;refine⟨by rw[wZ];exact Jx h.HY (RM.xR hz) hno,fun c hc=>?_,fun x=>?_,?_,?_⟩
 ·rcases List.mem_append.mp hc with hc|hc
  ·exact h.nz c hc
  ·have e:c=y:=by simpa using hc
   rw[e];exact hz
 ·have RE:RM.Sp (kept++[y]) y:=.mem (List.mem_append_right _ (by simp))
  have PY:RM.Sp (B++[b]) b:=.mem (List.mem_append_right _ (by simp))
  constructor
  ·refine fun z=>z.mono fun c hc=>?_
   rcases List.mem_append.mp hc with hc|hc
   ·exact((h.span c).mp (.mem hc)).mono fun d hd=>.mem (List.mem_append_left _ hd)
   ·have e:c=y:=by simpa using hc
    rw[e];have:=(((h.span _).mp rC).mono (C:=B++[b]) fun d hd=>.mem (List.mem_append_left _ hd)).xor PY
    rwa [Nat.xor_comm b y,RM.gb]at this
  ·refine fun z=>z.mono fun c hc=>?_
   rcases List.mem_append.mp hc with hc|hc
   ·exact((h.span c).mpr (.mem hc)).mono fun d hd=>.mem (List.mem_append_left _ hd)
   ·have e:c=b:=by simpa using hc
    rw[e];have:=(rC.mono (C:=kept++[y]) fun d hd=>.mem (List.mem_append_left _ hd)).xor RE
    rwa [RM.gb]at this
 ·rw[List.length_append,List.length_append];have:=h.le;exact Nat.add_le_add_right this 1
 ·rw[List.length_append,List.length_append,RM.p5];have h1:∀ x:Nat,([x]:List Nat).length=1:=fun _=>rfl
  rw[h1,h1];have:=h.len;exact⟨fun e=>⟨this.mp (by lia),hs⟩,fun z=>by have:=this.mpr z.1;lia⟩
theorem F8(rows:List (Nat×Nat))(q:Nat×Nat)(x:Nat):RM.gU (rows++[q]) x=if(RM.gU rows x).testBit q.1=true then RM.gU rows x^^^q.2 else RM.gU rows x:=by
 unfold RM.gU;rw[List.foldl_append];rfl
theorem lZ:Ok T T.lU 1 Jw:=by
 refine T.lU.ok ku fun cdv A outer s H vs Q E hr h=>?_
 ·obtain⟨l,kept,x,rfl,hl,nz,hk,q1,q2⟩:=h;refine⟨_,(ak (eJ PassesOwn.never rfl (mW K (pv 0)) (br 2 ku.nd)
   (av (aF (i:=1) ku.nd rfl (Or.inl rfl) (aM (vH rfl) (by rfl) T.DQ PyProof.Rows.boot_min (aa (pv 1) (aa (aK fb (pv 1) (pv 2)) af))))))
   (ak (cJ (aO eI (pv 1) ai (aN _)) (av (aH nR)) bh)
   (ak (cK (Gf K (kP PySem.F.plainAttrs_list PySem.F.slot_list_append PySem.F.type_list_append cA (pv 0) (aa (pv 1) af))))
   (av (aH nR))))),?_⟩
  refine yh ?_;intro cE cR dZ fR iT;refine(au rfl ⟨l,rfl,⟨_,aL.of hl⟩,dm (K:=K) (a:=l) (xs:=aA kept) (fun i σ H2=>∃ v2,σ=[some (.ref l),some (.int ((RM.gU (fP (kept.take i)) x:Nat):Int)),v2]/\H2=H) ⟨none,rfl,rfl⟩ (fun i σ H2 _ ⟨_,_,z⟩=>by rw[z];exact aL.of hl) ?_ ?_⟩)
  ·rintro i y D' σ H2 hi ⟨v2,rfl,rfl⟩;obtain⟨b,hb,rfl⟩:=cg hi;refine(au rfl (au rfl (au rfl (cj ⟨_,_,rfl,some (.int (b:Int)),?_,rfl⟩))));show[_,some (V.int (if Builtin.bitXor _ _<_ then Builtin.bitXor _ _ else _)),_]=_
   rw[xor_int,Dq,RM.KW (nz b (List.mem_of_getElem? hb)),take3 hb,wZ,F8]
  ·rintro σ H2 ⟨v2,rfl,rfl⟩;rw[aC,List.take_length];refine(au rfl ⟨rfl,au rfl (k8 (fun h0=>?_) (fun h0=>?_))⟩)
   ·have h0:=V.int.inj (of_decide_eq_true h0);exact q1 (by lia)
   ·have h0:RM.gU (fP kept) x≠0:=fun z=>h0 (decide_eq_true (by rw[z];rfl))
    refine(au rfl ⟨.inl ⟨rfl,_,aL.of hl⟩,au rfl ⟨l,_,_,rfl,rfl,hl,cW (by rw[aC];lia),?_⟩⟩)
    have:=q2 h0;rw[bY]at this;exact this
theorem kO:Ok T T.kG 2 F6:=by
 have lZ:=lZ T;refine T.kG.ok ng fun cdv A outer s H vs Q E hr h=>?_
 ·obtain⟨l,B,rfl,hl,hB,q⟩:=h;refine⟨_,(ak (aF (i:=1) ng.nd rfl (Or.inr rfl) (dD af))
   (av (aH (bj (own:=["some"]) (frees:=["kept"]) (js:=[1]) (aB (ah ic) ["sets","kept"]) rfl (mW K (pv 0)) (fun _ _ _ _=>(br 0 (show(["some","kept"]:List Str).Nodup by decide +kernel))) (fun _ _ _ _=>(dU (dJ (aI lZ hr T.lU.c aP (aa (pv 1) (aa (pv 0) af)))))) (fun _ _ _ _=>(pv 0)))))),?_⟩
  refine gE ?_;intro cE;refine⟨dl rfl,fun Kp Wc=>?_⟩
  have s1:aq H (upd H Kp (.lst [])):=aq.new Wc;have UK:upd H Kp (.lst []) Kp=some (.lst (aA [])):=ae;generalize upd H Kp (.lst [])=H1 at s1 UK;refine(au rfl ⟨l,rfl,⟨_,aL.of (s1 _ _ hl)⟩,fun D hD=>aX (xs:=aA B) (fun i acc H2=>∃ kept C,aq H H2/\H2 Kp=some (.lst (aA kept))/\H2 D=some (.lst acc)/\Gi (B.take i) kept/\acc=aA C/\RM.sj (B.take i) C) ⟨[],[],s1.trans (aq.new hD),aq.new hD _ _ UK,ae,Gi.start,rfl,.nil⟩ ?_ (Nat.le_of_lt (cW (by rw[aC];lia))) ?_ ?_⟩)
  ·rintro i acc H2 hi ⟨kept,C,s2,Sg,iS,kp,rfl,ch⟩;refine⟨aL.of (s2 _ _ hl),iS,?_⟩;have:=ch.sub.length_le;rw[List.length_take]at this;rw[aC]
   lia
  ·rintro i x acc H2 hx ⟨kept,C,s2,Sg,iS,kp,rfl,ch⟩;obtain⟨b,hb,rfl⟩:=cg hx;have xN:=(List.getElem?_eq_some_iff.mp hb).1;have tk:B.take (i+1)=B.take i++[b]:=take3 hb;have l6:kept.length<=300:=by have:=kp.le;rw[List.length_take]at this;lia
   have RV:D≠Kp:=(aW UK hD).symm;have Jf:H D=none:=s1.free hD;refine⟨rfl,au rfl (au rfl ⟨Kp,kept,b,rfl,Sg,kp.nz,l6,fun hz=>(au rfl (?_)),fun hz=>(au rfl (?_))⟩)⟩
   ·refine⟨kept,C,s2,Sg,iS,?_,rfl,?_⟩
    ·rw[tk];exact kp.skip hz
    ·rw[tk];exact .skip ch ((kp.zero b).mp hz)
   ·have nY:upd H2 Kp (.lst (aA (kept++[RM.gU (fP kept) b]))) D=some (.lst (aA C)):=by rw[aj RV];exact iS
    refine(au rfl ⟨nY,kept++[RM.gU (fP kept) b],C++[b],(s2.put Wc).put Jf,by rw[aj RV.symm,ae],ae,?_,(bY _ _).symm,?_⟩)
    ·rw[tk];exact kp.put hz
    ·rw[tk];exact .put ch fun z=>hz ((kp.zero b).mpr z)
  ·rintro acc H2 ⟨kept,C,s2,Sg,iS,kp,rfl,ch⟩;rw[aC,List.take_length]at ch;exact q D C H2 (s1.free hD) s2 iS ch
theorem mV{K:bJ}{H:Hp}:∀ l:List Int,DatVs K H (l.map V.int) (l.map PyData.int)
 | []=>.nil
 | x::r=>.cons (.int x) (mV r)
theorem lay_ints:∀ l:List Int,PyData.canLayAll0 (l.map PyData.int)=true
 | []=>rfl
 | x::r=>by
   have ih:=lay_ints r;have e:(PyData.int x).canLay0=true:=by simp[PyData.canLay0]
   simp only[List.map_cons,PyData.canLayAll0,ih,Bool.and_true,e]
theorem w4:∀ l:List Int,PyData.depthAll (l.map PyData.int)=0
 | []=>rfl
 | x::r=>by
   show max (PyData.depth (PyData.int x)) (PyData.depthAll (r.map PyData.int))=0;rw[w4 r];rfl
theorem shaped_ints(l:List Int):SeqAt.shaped (.list (l.map PyData.int))=true:=by
 unfold SeqAt.shaped;have e:(PyData.list (l.map PyData.int)).canLay0=PyData.canLayAll0 (l.map PyData.int):=by simp[PyData.canLay0]
 rw[e,lay_ints,Bool.true_and];refine decide_eq_true ?_;have e2:PyData.depth (PyData.list (l.map PyData.int))=PyData.depthAll (l.map PyData.int)+1:=by simp[PyData.depth]
 rw[e2,w4]
 lia
theorem A2(l:List Int):(PyData.list (l.map PyData.int)).canLay0=true:=by
 have e:(PyData.list (l.map PyData.int)).canLay0=PyData.canLayAll0 (l.map PyData.int):=by simp[PyData.canLay0]
 rw[e,lay_ints]
theorem A3{ts:List c5}{l:List Nat}(h:l.Pairwise (jo ts)):l.Pairwise fun x y=>lenOf ts x<=lenOf ts y:=h.imp fun {x y} z=>by
 unfold jo at z
 lia
theorem uO{p:Nat}{ts:List c5}{g:aD p ts}{m:Nat}(h:m<2^ts.length):RM.len g.N (bz ts) m=lenOf ts m:=(BS h).symm
theorem A4{p:Nat}{ts:List c5}{g:aD p ts}{l C rs:List Nat}(R:vA p ts g l)(ch:RM.sj l C)(lb:RM.LB g.N (bz ts) rs)(pw:rs.Pairwise (jo ts)):C.map (lenOf ts)=rs.map (lenOf ts):=by
 have pl:=A3 R.pw;have pc:C.Pairwise fun x y=>lenOf ts x<=lenOf ts y:=pl.sublist ch.sub
 have pr:=A3 pw;have hC:∀ c∈C,c<2^ts.length/\g.N.Ring c:=fun c hc=>(R.all c).mp (ch.sub.mem hc)
 have h1:∀ b∈C,RM.Sp (rs.filter fun c=>decide (lenOf ts c<=lenOf ts b)) b:=fun b hb=>by
  obtain⟨b1,b2⟩:=hC b hb;refine(lb.parts b2 b1).mono fun c hc=>.mem ?_
  obtain⟨c1,c2⟩:=List.mem_filter.mp hc;refine List.mem_filter.mpr ⟨c1,?_⟩
  rwa [uO (lb.1.ring c c1).2,uO b1]at c2
 have h2:∀ b∈rs,RM.Sp (C.filter fun c=>decide (lenOf ts c<=lenOf ts b)) b:=fun b hb=>ch.parts pl b ((R.all b).mpr ⟨(lb.1.ring b hb).2,(lb.1.ring b hb).1⟩)
 have f1:=RM.x9 ch.ind fun b hb=>(h1 b hb).mono fun c hc=>.mem (List.mem_filter.mp hc).1
 have f2:=RM.x9 lb.1.ind fun b hb=>(h2 b hb).mono fun c hc=>.mem (List.mem_filter.mp hc).1
 exact RM.II (by lia) (RM.Ah pc pr lb.1.ind h2) (RM.Ah pr pc ch.ind h1)
theorem w5{K:bJ}{H:Hp}(l:List Nat):DatVs K H (aA l) ((l.map fun x=>((x:Nat):Int)).map PyData.int):=by
 have e:aA l=(l.map fun x=>((x:Nat):Int)).map V.int:=iM l
 rw[e];exact mV _
def yR(K:bJ)(tb:rF):Sp:=fun vs H Q _=>∃(a:Addr) (ns:List Int),vs=[.ref a]/\aL K H a (ns.map V.int)/\ns.length<=63/\TabsAt tb H/\∀ H',Q (.bl true) H'
theorem Rk:Ok T T.Mb 12 (yR K [(a.dQ,oM "by_length",cX),(a.cY,oM "least_ways",cI)]):=by
 have qS:=qS T;have g7:=g7 T;have kO:=kO T;have gB:=gB T;have lY:=lY T;have kL:=kL T;have qP:=qP T;have qQ:=qQ T;refine T.Mb.ok uD fun cdv A outer s H vs Q E hr h=>?_
 ·obtain⟨b,ns,rfl,hS,hn,hT,fin⟩:=h;have Ll:=hT _ List.mem_cons_self;have Lj:=hT _ (List.mem_cons_of_mem _ List.mem_cons_self);refine⟨_,(ak (aF (i:=1) uD.nd rfl (Or.inr rfl) (aI qS hr T.qJ.c aP (aa (pv 0) (aa ai (aa ai af)))))
   (ak (aF (i:=2) uD.nd rfl (Or.inl rfl) (aI kO hr T.kG.c aP (aa (aI g7 hr T.gY.c aP (aa (pv 1) af)) af)))
   (ak (eJ PassesOwn.never rfl (bF (by rfl) T.bW (aa ai af)) (br 3 uD.nd)
   (ak (aF (i:=4) uD.nd rfl (Or.inl rfl) (aI kL hr T.kC.c qX (aa (pv 1) af)))
   (ak (cJ (PW.pt (sy (pA (dJ (aM (MQ K) (by rfl) T.kH PyProof.Rows.boot_isinstance (aa (pv 4) (aa (GR (by rfl) T.Cy PyProof.Rows.boot_list) af))))) (sy (aO (MP K hr.units) (pv 4) (pv 2) (aN _)) (pq (aO qV (aM (iH K) (by rfl) T.dc PySem.boot_len (aa (bj (own:=["ring"]) (frees:=[]) (js:=[]) (aB (ah Aq) ["script","web","due","turn","found"]) rfl (mW K (pv 4)) (fun _ _ _ _=>(br 0 (show(["ring"]:List Str).Nodup by decide +kernel))) (fun _ _ _ _=>(dU (pA (dJ (aI lY hr T.lT.c aP (aa (pv 0) af)))))) (fun _ _ _ _=>(pv 0))) af)) ai (aN _)))))) (av (aH nR)) bh)
   (av (cK (Gf K (kP PySem.F.plainAttrs_list PySem.F.slot_list_append PySem.F.type_list_append cA (pv 4) (aa ai af))))))))
   (av (aH (sC (cD Yn (aI qP hr T.qG.c aP (aa (pv 1) (aa (pv 2) af))) nR (aN _)) (sA (cD (Bt K hr.units) (aI qQ hr T.qH.c aP (aa (pv 1) af)) (bj (own:=["ring"]) (frees:=["web"]) (js:=[1]) (aB (ah Aq) ["script","web","due","turn","found"]) rfl (mW K (pv 2)) (fun _ _ _ _=>(br 0 (show(["ring","web"]:List Str).Nodup by decide +kernel))) (fun _ _ _ _=>bK) (fun _ _ _ _=>(aI gB hr T.kF.c aP (aa (pv 1) (aa (pv 0) af))))) (aN _))))))))),?_⟩
  refine NO ?_;intro cE cR dZ fR iT uv Ak;refine(au rfl ⟨b,ns,9,8,rfl,hS,hn,by decide,fun wb p ts H1 s1 g p2 p6 t10 hw=>?_⟩)
  have Zl:=s1 _ _ Lj;have htb:=s1 _ _ Ll;refine(au rfl ⟨wb,p,ts,g,rfl,hw,by lia,fun L l H2 TZ s2 hL R=>?_⟩)
  have Y8:=R.few (by lia)
  have Zm:∀ r∈l,r<2^ts.length:=fun r hr=>((R.all r).mp hr).1
  have h8:g.N.ay.length<=8:=by
   by_cases h0:0<g.N.n
   ·have:=RM.EZ h0;have h2:g.N.n=ts.length:=rfl
    lia
   ·have h1:g.N.ay.length<=(List.range g.N.n).length:=List.length_filter_le ..;rw[List.length_range]at h1
    lia
  refine⟨L,l,rfl,hL,by lia,fun Du C H3 Jf s3 nY ch=>?_⟩
  have Cl:=ch.sub.length_le;have Bs:=ch.base (N:=g.N) fun r=>R.all r
  have qK:=s2.trans s3;have Zn:=s2.free Jf;refine(au rfl ⟨(by decide),(by decide),?_⟩)
  refine gh (lo:=0) (n:=(2:Int).toNat) (fun i σ H7=>∃ v3 v4,σ=[some (.ref b),some (.ref wb),some (.ref Du),v3,v4]/\aq H1 H7/\H7 Du=some (.lst (aA C))) ⟨none,none,rfl,qK,nY⟩ ?_ ?_
  ·rintro i D' σ H7 hi ⟨v3,v4,rfl,s7,Rl⟩;refine(au rfl ⟨wb,p,ts,g,rfl,hw.same s7,s7 _ _ htb,.inl ⟨h8,by lia,fun D l' B H8 hD s8 MJ R' ch'=>?_⟩⟩)
   obtain rfl:l' = l:=R'.uniq R;obtain rfl:B=C:=ch'.uniq ch rfl;have N5:=s8 _ _ Rl;have Zo:Du≠D:=fun z=>by rw[<-z,Rl]at hD;cases hD
   have rG:H1 D=none:=s7.free hD;refine(au rfl ⟨_,_,_,_,_,rfl,rfl,.lst MJ,MO K,_,rfl,fQ ?_⟩);refine(au rfl (au rfl ⟨_,_,.lst (aL.of MJ) (w5 _),.lst (aL.of N5) (w5 _),shaped_ints _,shaped_ints _,_,rfl,?_⟩));rw[SeqAt.eqv_refl _ (A2 _)];refine fQ ?_;refine(au rfl ⟨D,rfl,⟨_,aL.of MJ⟩,fun D2 iS=>aX (K:=K) (a:=D) (xs:=aA B) (fun i acc H9=>aq H8 H9/\H9 D2=some (.lst acc)/\acc=[]) ⟨aq.new iS,ae,rfl⟩ (fun i acc H9 _ z=>⟨aL.of (z.1 _ _ MJ),z.2.1,by rw[z.2.2];exact Nat.zero_le _⟩) (Nat.le_of_lt (cW (by rw[aC];lia))) ?_ ?_⟩)
   ·rintro n y acc H9 hy ⟨s9,OS,rfl⟩;obtain⟨x,_,rfl⟩:=cg hy;exact⟨rfl,au rfl (au rfl (au rfl ⟨s9,OS,rfl⟩))⟩
   rintro acc H9 ⟨s9,OS,rfl⟩;refine(qa rfl (.inl (aL.of OS)) (cj (au rfl (k8 (fun z=>absurd (of_decide_eq_true z) (by decide)) (fun _=>?_)))))
   have Rm:=s9 _ _ MJ;refine(au rfl ⟨(.inl ⟨rfl,_,aL.of Rm⟩),D,_,_,rfl,rfl,Rm,cW (by rw[aC];lia),?_⟩)
   exact⟨_,_,rfl,((s7.trans s8).trans s9).put rG,by rw[aj Zo];exact s9 _ _ N5⟩
  ·rintro σ H7 ⟨v3,v4,rfl,s7,Rl⟩;refine(au rfl (au rfl ⟨wb,p,ts,g,Du,C.map (fun x=>((x:Nat):Int)),rfl,hw.same s7,by rw[<-iM];exact Rl,by rw[List.length_map];lia,fun H8 d s8 hd=>?_⟩))
   have e:d=true:=hd.mpr ⟨C,rfl,Bs⟩;rw[e];refine⟨true,true,rfl,rfl,au rfl (fV ?_)⟩;have Sh:=s7.trans s8;refine(au rfl ⟨wb,p,ts,g,rfl,hw.same Sh,Sh _ _ Zl,Sh _ _ htb,fun D rs H9 hD s9 OS lb pw lr=>?_⟩)
   rw[<-A4 R ch lb pw]at OS;have R7:=Sh.trans s9;have Rf:=(s8.trans s9) _ _ Rl;refine(au rfl ⟨Du,rfl,⟨_,aL.of Rf⟩,fun Y hY=>aX (K:=K) (a:=Du) (xs:=aA C) (fun i acc JH=>aq H9 JH/\JH Y=some (.lst acc)/\acc=((C.take i).map (lenOf ts)).map V.int) ⟨aq.new hY,ae,rfl⟩ (fun i acc JH _ z=>⟨aL.of (z.1 _ _ Rf),z.2.1,by rw[z.2.2,List.length_map,List.length_map,List.length_take];lia⟩) (Nat.le_of_lt (cW (by rw[aC];lia))) ?_ ?_⟩)
   ·rintro i x acc JH hx ⟨Mh,Lw,rfl⟩;obtain⟨r,Ga,rfl⟩:=cg hx;refine⟨rfl,au rfl (au rfl ⟨wb,p,ts,g,_,r,rfl,rfl,hw.same (R7.trans Mh),Zm r (ch.sub.mem (List.mem_of_getElem? Ga)),fun H11 OJ=>⟨OJ _ _ Lw,(Mh.trans OJ).put hY,ae,?_⟩⟩)⟩
    rw[take3 Ga,List.map_append,List.map_append];rfl
   rintro acc JH ⟨Mh,Lw,rfl⟩;rw[aC,List.take_length]at Lw;refine⟨_,_,.lst (aL.of (Mh _ _ OS)) (mV _),.lst (aL.of Lw) (mV _),shaped_ints _,shaped_ints _,?_⟩;rw[SeqAt.eqv_refl _ (A2 _)];exact fin _
end
section
variable {l:PySem.W.OpenLaw}{w:World}{K:bJ}{h:Heap}{mg:kU}{fa f0 f1 f2 f3 f4 f5 f6 f7 f8 f9 Wd We Wf Wg Wh Wi Wj Wm Wn Wo Wq Wr Ws Wu Wv Ww WA WB WC WD WE WG f32 WH WI WJ WK WL WM WN WO WQ WR WS WT WU WV WW WX WY WZ W0 W2 W3 W4 W5 W6 Zp uP uQ qT qU o8 eG nh dz:Addr}{d0 d1 d2 d3 d4 d5 d6 d7 d8 d9 Zq Zr Zs Zt Zu Zv Zw Zx Zy Zz ZA ZC ZD ZE ZF ZG ZH ZI ZJ ZK ZL ZM ZN ZO ZP ZQ ZR ZS ZT ZU ZV ZW ZX ZY ZZ Z0 Z1 Z2 Z3 Z4 Z5 Z6 Z7 Z8 Z9 d55 d56 d57:FuncData}{ts:List Addr}{A5:Tok}
open PySem.W
theorem all_mk(X:K.In h)(G:h.Ns mainGlobals mg)(hfa:mg "law"=some (.ref fa))(te:ts=[dz,eG])
 (d_BadSet:nsIn K mainGlobals "BadSet"=some (some (.ref uP)))
 (d_BadPoint:nsIn K mainGlobals "BadPoint"=some (some (.ref uQ)))
 (d_NoChord:nsIn K mainGlobals "NoChord"=some (some (.ref qT)))
 (d_TooMany:nsIn K mainGlobals "TooMany"=some (some (.ref qU)))
 (xc_BadSet:excIn K uP [.type "ValueError",.type "Exception",.type "BaseException",.type "object"] "ValueError.__new__"=true)
 (xc_NoChord:excIn K qT [.type "ValueError",.type "Exception",.type "BaseException",.type "object"] "ValueError.__new__"=true)
 (xc_TooMany:excIn K qU [.type "ValueError",.type "Exception",.type "BaseException",.type "object"] "ValueError.__new__"=true)
 (nt:noTabs K=true) (pn:([eG,dz]:List Addr).Nodup) (pi:∀ p∈([eG,dz]:List Addr),p∈ts)
 (a0:Dk K "has_tie" qb f0 d0)
 (a1:Dk K "ties_in" mJ f1 d1)
 (a2:Dk K "set_of" uq f2 d2)
 (a3:Dk K "all_ties" nA f3 d3)
 (a4:Dk K "is_set" ur f4 d4)
 (a5:Dk K "check_set" lH f5 d5)
 (a6:Dk K "triples_in" hU f6 d6)
 (a7:Dk K "length_of" jf f7 d7)
 (a8:Dk K "odd_points" ia f8 d8)
 (a9:Dk K "drawn_together" ee f9 d9)
 (T9:Dk K "pieces" oR Wd Zq)
 (Ua:Dk K "rank" Ca We Zr)
 (Ub:Dk K "is_even" qf Wf Zs)
 (a13:Dk K "forest_trails" eX Wg Zt)
 (a14:Dk K "forest" uw Wh Zu)
 (a15:Dk K "chords" ux Wi Zv)
 (a16:Dk K "ring_closed" jv Wj Zw)
 (a17:Dk K "chord_ring" j6 Wm Zx)
 (a18:Dk K "is_ring" mO Wn Zy)
 (a19:Dk K "is_ring_number" gi Wo Zz)
 (W9:NK K "by_length" jh Wq ZA o8 eG)
 (a21:Dk K "common" uz Wr ZC)
 (a22:Dk K "bears_oddly" jw Ws ZD)
 (a23:Dk K "is_side" qh Wu ZE)
 (a24:Dk K "cut_of" oW Wv ZF)
 (a25:Dk K "side_of" mP Ww ZG)
 (a26:Dk K "steps_by_point" eg WA ZH)
 (Xa:NK K "least_ways" fK WB ZI nh dz)
 (a28:Dk K "length_of_way" gW WC ZJ)
 (a29:Dk K "worths_of_ways" ez WD ZK)
 (a30:Dk K "all_least_ways" eA WE ZL)
 (a31:Dk K "worths_of_all" eY WG ZM)
 (a32:Dk K "least_odd" ji f32 ZN)
 (a33:Dk K "reduced" qk WH ZO)
 (a34:Dk K "with_row" nB WI ZP)
 (a35:Dk K "rows_of" ql WJ ZQ)
 (a36:Dk K "is_base" mQ WK ZR)
 (a37:Dk K "least_rings" eV WL ZS)
 (a38:Dk K "lengths" mR WM ZT)
 (a39:Dk K "check_rank" kc WN ZU)
 (a40:Dk K "even_sets" jj WO ZV)
 (a41:Dk K "all_rings" jk WQ ZW)
 (a42:Dk K "first_base" kg WR ZX)
 (a43:Dk K "_law_cell_at" jy WS ZY)
 (a44:Dk K "_law_mixed" lM WT ZZ)
 (a45:Dk K "_law_length" ki WU Z0)
 (a46:Dk K "_law_tie" qm WV Z1)
 (a47:Dk K "_law_web" gm WW Z2)
 (a48:Dk K "_law_whole" lN WX Z3)
 (a49:Dk K "_law_counts" ko WY Z4)
 (a50:Dk K "_law_pieces" fM WZ Z5)
 (a51:Dk K "_law_even" kq W0 Z6)
 (a52:Dk K "_law_ring" iU W2 Z7)
 (a53:Dk K "_law_long" kr W3 Z8)
 (a54:Dk K "_law_added" lO W4 Z9)
 (a55:Dk K "_law_chosen" ic W5 d55)
 (a56:Dk K "_law_all_rings" eZ W6 d56)
 (UL:Dk K "law" Aq Zp d57)
 (yS:Ng K "ValueError")
 (Rn:Ng K "all")
 (Oc:Ng K "bool")
 (A6:Ng K "enumerate")
 (Ro:Ng K "int")
 (yT:Ng K "isinstance")
 (Rp:Ng K "len")
 (Od:Ng K "list")
 (Rq:Ng K "max")
 (Rr:Ng K "min")
 (Lx:Ng K "range")
 (Rt:Ng K "set")
 (Jy:Ng K "sorted")
 (Ru:Ng K "sum")
 (Ly:Ng K "tuple")
 (Rv:Ng K "zip")
 (A7:nsIn K mainGlobals "MOST_RANK"=some (some (.int 8 A5)))
 : ∃(fd:FuncData) (tb:rF),((tb.map (·.1)).Nodup/\noTabs K=true/\∀ p∈tb,p.1∈ts/\∃ c,codeHdIn K c p.1=true)/\(∀(s:Shared) (v:Value),BindsTo s fd ⟨[v],[]⟩ [("script",v)])/\∀ base:Heap,K.In base->base.Ns mainGlobals mg->k6 l.prog w K mg base C8 12 fa fd ["script"] (yR K tb):=by
 have e:=hfa.symm.trans (mg_of X G UL.n);cases e;have T:∀ base,Txt l.prog w base K mg ⟨f0,_,f1,_,f2,_,f3,_,f4,_,f5,_,f6,_,f7,_,f8,_,f9,_,Wd,_,We,_,Wf,_,Wg,_,Wh,_,Wi,_,Wj,_,Wm,_,Wn,_,Wo,_,Wq,_,Wr,_,Ws,_,Wu,_,Wv,_,Ww,_,WA,_,WB,_,WC,_,WD,_,WE,_,WG,_,f32,_,WH,_,WI,_,WJ,_,WK,_,WL,_,WM,_,WN,_,WO,_,WQ,_,WR,_,WS,_,WT,_,WU,_,WV,_,WW,_,WX,_,WY,_,WZ,_,W0,_,W2,_,W3,_,W4,_,W5,_,W6,_,fa,_,uP,uQ,qT,qU,o8,eG,nh,dz⟩:=fun _=>⟨m7 X G a0,wR X G a1,m7 X G a2,wR X G a3,m7 X G a4,m7 X G a5,m7 X G a6,m7 X G a7,m7 X G a8,RX X G a9,m7 X G T9,wR X G Ua,m7 X G Ub,wR X G a13,wR X G a14,wR X G a15,RX X G a16,m7 X G a17,m7 X G a18,m7 X G a19,Yl X G W9,m7 X G a21,m7 X G a22,m7 X G a23,m7 X G a24,m7 X G a25,m7 X G a26,Ym X G Xa,wR X G a28,wR X G a29,m7 X G a30,wR X G a31,m7 X G a32,m7 X G a33,m7 X G a34,wR X G a35,m7 X G a36,wR X G a37,wR X G a38,wR X G a39,wR X G a40,wR X G a41,wR X G a42,m7 X G a43,m7 X G a44,m7 X G a45,RX X G a46,RX X G a47,wR X G a48,m7 X G a49,m7 X G a50,m7 X G a51,m7 X G a52,m7 X G a53,m7 X G a54,wR X G a55,wR X G a56,wR X G UL,mg_none_of X G yS.n,mg_none_of X G Rn.n,mg_none_of X G Oc.n,mg_none_of X G A6.n,mg_none_of X G Ro.n,mg_none_of X G yT.n,mg_none_of X G Rp.n,mg_none_of X G Od.n,mg_none_of X G Rq.n,mg_none_of X G Rr.n,mg_none_of X G Lx.n,mg_none_of X G Rt.n,mg_none_of X G Jy.n,mg_none_of X G Ru.n,mg_none_of X G Ly.n,mg_none_of X G Rv.n,⟨_,mg_of X G A7⟩,mg_of X G d_BadSet,mg_of X G d_BadPoint,mg_of X G d_NoChord,mg_of X G d_TooMany,fun h1 X1 G1=>Bw X1 G1 d_BadSet xc_BadSet,fun h1 X1 G1=>Bw X1 G1 d_NoChord xc_NoChord,fun h1 X1 G1=>Bw X1 G1 d_TooMany xc_TooMany⟩
 exact⟨_,[(eG,oM "by_length",cX),(dz,oM "least_ways",cI)],⟨pn,nt,fun p hp=>⟨pi _ (List.mem_map_of_mem (f:=(·.1)) hp),by simp only[List.mem_cons,List.not_mem_nil,or_false]at hp;rcases hp with rfl | rfl;all_goals first | exact⟨_,W9.F.hd⟩ | exact⟨_,Xa.F.hd⟩⟩⟩,NL UL,fun base _ _=>Rk (T base)⟩
end
theorem walk{l:PySem.W.OpenLaw}{q:Program}{loose:List Str}{XP:(Str->Option Value)->Heap->Prop}{YP:World->Heap->Prop}{d:DefRec}{K:Params->bJ}{ts:List Addr}(hn:l.most=some 63)(LI:d.params.defaults=[])
 (hY:∀(w:World) (h:Heap),YP w h->(K w.params).In h/\∀ P∈ts,h.get? P=some (PySem.W.tabObj #[]))
 (F:∀(w:World) (mg:kU) (fa:Addr) (h:Heap),(K w.params).In h->h.Ns mainGlobals mg->mg d.name=some (.ref fa)->
  ∃(fd:FuncData) (tb:rF),((tb.map (·.1)).Nodup/\PySem.W.noTabs (K w.params)=true/\∀ p∈tb,p.1∈ts/\∃ c,PySem.W.codeHdIn (K w.params) c p.1=true)/\(∀(s:Shared) (u:Value),BindsTo s fd ⟨[u],[]⟩ [("script",u)])/\∀ base:Heap,(K w.params).In base->base.Ns mainGlobals mg->k6 l.prog w (K w.params) mg base C8 12 fa fd ["script"] (yR (K w.params) tb)) :
 PySem.W.WalkO q loose XP YP l.row.toRowW d [] (fun f vs=>PySem.call f vs) :=
 L2.Ir (n:=63) (k:=12) (x:="script") (CX:=fun _=>C8) (sp:=fun w=>yR (K w.params)) hn (by decide) LI ⟨rfl,by decide,by decide⟩ hY F (fun _ _ a ns tb hl hT hS=>⟨a,ns,rfl,hS,hl,hT,fun _=>rfl⟩) fun _ _ _ _ _ z=>z
end K34
namespace PySem.W.Fast
def tw13908134845049970271:=()
def tw2738049487821750204:=()
def tw5618813843512276005:=()
def tw14371773595584187510:=()
def tw3119747081477035744:=()
def tw17945321386229290121:=()
def tw6666575921352452924:=()
def tw14985877038602191800:=()
def tw14683417194106743788:=()
def tw10732746928557667417:=()
def tw11680659326811811294:=()
def tw12522730082171821314:=()
def tw6276266703118218911:=()
def tw1559779221732748691:=()
def tw14418879740221275191:=()
def tw7923209586640620361:=()
def tw2580642798866149585:=()
def tw1803206213709639763:=()
def tw11702378257346144299:=()
def tw2812301412149519576:=()
def tw14996316214948529262:=()
def tw10962299488181340078:=()
def tw3167680614241746069:=()
def tw6803791684806273209:=()
def tw5365509131376910904:=()
def tw6745192999809223452:=()
def tw5997416442268843954:=()
def tw10443840155898674148:=()
def tw1299708465511761019:=()
def tw3327571842732258656:=()
def tw6709372930304097948:=()
def tw7844846088301541626:=()
def tw2250439233457703836:=()
def tw2236218532011729405:=()
def tw1652499212653375104:=()
def tw8174522533203326617:=()
def tw13153938574711168181:=()
def tw7412969069699632305:=()
def tw1985520596808093976:=()
def tw15777051112675736915:=()
def tw8785617971382159439:=()
def tw11509457830518645655:=()
def tw2332310501454787664:=()
def tw2650153229825724963:=()
def tw11878784858915424366:=()
def tw11635041964942712928:=()
def tw104145881243645048:=()
def tw9036199073452604771:=()
def tw1779090232753553647:=()
def tw2976183869382714910:=()
def tw9249359549264389843:=()
def tw3441361206998324285:=()
def tw5225861543405357816:=()
def tw13165439302629041454:=()
def tw14281733335588420272:=()
def tw5644726687615539210:=()
def tw6182811198934838349:=()
def tw3222837235387155693:=()
def tw5365200105080510525:=()
def tw6354667539019875997:=()
def tw9950104897555725170:=()
def tw12673553294804788087:=()
def tw2136451979968137987:=()
def tw15814416066847865021:=()
def tw11064974195659105564:=()
def tw12966330312547603176:=()
def tw4816783840388876308:=()
def tw12464324374253142843:=()
def tw8433305462599020516:=()
def tw12845411414618670013:=()
def tw13758757291434305831:=()
def tw14220070618714876201:=()
def tw5780476266229779021:=()
def tw7357751672354913185:=()
def tw13652143695479932232:=()
def tw840136830147058064:=()
def tw3675408805415731595:=()
def tw6976827939845595529:=()
def tw2296818855563703441:=()
def tw11623801990486772791:=()
def tw11412581583021690335:=()
def tw6585754458939410478:=()
def tw12544289443763978071:=()
def tw6562361684706198317:=()
def tw5931408566683182764:=()
def tw3630030173478716274:=()
def tw1005901326013451691:=()
def tw2624664466737042103:=()
end PySem.W.Fast
open PySem PySem.W PyProof.Rows
set_option maxRecDepth 100000 in
set_option maxHeartbeats 0 in
theorem PySem.Challenge.cw_ringbase_k34_first_bases_holds : PySem.Challenge.rw_ringbase_k34_first_bases.Holds := by
 w_on;o_law;k_head;(case hw=>w_witness2)
 k_fill
 refine K34.walk (l:=PySem.Challenge.rw_ringbase_k34_first_bases) rfl rfl (fun w h Y=>⟨PySem.W.km_in_of Y,PySem.W.km_tabs_of Y⟩) ?F
 case F =>
  intro w mg fa h KX G hmg;refine' K34.all_mk KX G hmg ?te ?d_BadSet ?d_BadPoint ?d_NoChord ?d_TooMany ?xc_BadSet ?xc_NoChord ?xc_TooMany ?nt ?pn ?pi ..
  (case te=>exact rfl)
  (case d_BadSet=>k_is)
  (case d_BadPoint=>k_is)
  (case d_NoChord=>k_is)
  (case d_TooMany=>k_is)
  any_goals (refine' L2.dk ?ga ?gl ?gc ?gk;(case ga=>k_is);(case gl=>k_is);(case gc=>k_is);(case gk=>k_is))
  any_goals (refine' L2.Yj ?ga ?gl ?gc ?gk ?gd;(case ga=>k_is);(case gl=>k_is);(case gd=>kernel_rfl);(case gc=>k_is);(case gk=>k_is))
  any_goals (refine' L2.Ng.mk ?ga;(case ga=>k_is))
  any_goals k_is
  (case xc_BadSet=>k_exc)
  (case xc_NoChord=>k_exc)
  (case xc_TooMany=>k_exc)
  (case nt=>kernel_rfl)
  (case pn=>decide)
  (case pi=>decide)
