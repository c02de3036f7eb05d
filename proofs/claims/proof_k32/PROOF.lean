import PyProof.Rows.All
import Wide.All
import OpenK.AllK
import Wide.FinOn
import Lean
import PyProof.EqAt
import PyProof.EqKinds
import PyProof.TupleCall
import PySem.Challenge.RW_ringbase_k32_whole_no_base_is_shorter
set_option Elab.async false
set_option linter.all false
set_option maxRecDepth 100000
abbrev cD:=@decide_eq_true
abbrev cR:=@decide_eq_false
abbrev iG:=@of_decide_eq_true
abbrev gZ:=@List.mem_append_right
abbrev jY:=@List.mem_cons_of_mem
abbrev gy:=@List.mem_of_getElem?
abbrev iH:=@List.getElem?_eq_some_iff
abbrev vn:=@Option.map_eq_some_iff
abbrev vV:=@List.mem_append_left
abbrev OV:=@Bool.and_eq_true_iff
abbrev aR:=List (PySem.Addr×PySem.Obj)
abbrev di:=PySem.Value->PySem.Shared->Prop
abbrev mZ:=PySem.Str->Option PySem.Value
abbrev bX:=PySem.W.Frag
namespace L2
open PySem PySem.Spec PyProof.Rows
abbrev aP:=@wpAny_bind
abbrev Key:=Sum Int Str
def vW:Key->Value->Bool
 | .inl k,v=>Value.isInt k v
 | .inr x,v=>Value.isStrOf x v
def Su(w:World):Key->Int
 | .inl k=>hashInt k
 | .inr x=>hashStr w x
theorem cJ:∀{k:Key} {v:Value},vW k v=true->(∃ i t,k=Sum.inl i/\v=Value.int i t)\/(∃ x t,k=Sum.inr x/\v=Value.str x t)
 | .inl i,v,h=>by
   obtain⟨t,e⟩:=Value.isInt_shape (k:=i) (v:=v) h;exact .inl ⟨i,t,rfl,e⟩
 | .inr x,v,h=>by
   obtain⟨t,e⟩:=Value.isStrOf_shape (x:=x) (v:=v) h;exact .inr ⟨x,t,rfl,e⟩
theorem DT(i:Int)(t:Tok):vW (.inl i) (.int i t)=true:=by simp[vW,Value.isInt]
theorem DU(x:Str)(t:Tok):vW (.inr x) (.str x t)=true:=by simp[vW,Value.isStrOf]
theorem Ms(a b:Int):decide ((Sum.inl a:Key)=Sum.inl b)=(a==b):=by
 by_cases e:a=b
 ·subst e;simp
 ·have h : ¬(Sum.inl a:Key)=Sum.inl b:=fun q=>e (Sum.inl.inj q)
  rw[cR h];exact(beq_eq_false_iff_ne.mpr e).symm
theorem Mt(a b:Str):decide ((Sum.inr a:Key)=Sum.inr b)=decide (a=b):=by
 by_cases e:a=b
 ·subst e;simp
 ·have h : ¬(Sum.inr a:Key)=Sum.inr b:=fun q=>e (Sum.inr.inj q)
  rw[cR h,cR e]
theorem Mu(a:Int)(b:Str):decide ((Sum.inl a:Key)=Sum.inr b)=false:=cR (fun q=>nomatch q)
theorem Mv(a:Str)(b:Int):decide ((Sum.inr a:Key)=Sum.inl b)=false:=cR (fun q=>nomatch q)
def ck(prog:Program)(w:World):PySem.KeyKind prog w Key where
 is:=vW
 hash:=Su w
 inj:=fun v a b ha hb=>by
  rcases cJ ha with⟨i,t,rfl,rfl⟩|⟨x,t,rfl,rfl⟩
  ·rcases cJ hb with⟨j,u,rfl,e⟩|⟨y,u,rfl,e⟩
   ·injection e with e1 _;rw[e1]
   ·exact nomatch e
  ·rcases cJ hb with⟨j,u,rfl,e⟩|⟨y,u,rfl,e⟩
   ·exact nomatch e
   ·injection e with e1 _;rw[e1]
 byValue:=fun k v h=>by
  rcases cJ h with⟨i,t,rfl,rfl⟩|⟨x,t,rfl,rfl⟩<;>rfl
 pyHash:=fun hv h=>by
  rcases cJ hv with⟨i,t,rfl,rfl⟩|⟨x,t,rfl,rfl⟩
  ·exact wpAny_pyHash_int h
  ·exact wpAny_pyHash_str h
 eqBool:=fun hu hv h=>by
  rcases cJ hu with⟨i,t,rfl,rfl⟩|⟨x,t,rfl,rfl⟩
  ·rcases cJ hv with⟨j,u,rfl,rfl⟩|⟨y,u,rfl,rfl⟩
   ·rw[Ms]at h;exact wpAny_eqBool_int h
   ·rw[Mu]at h;exact SeqAt.EqAt.int_str i t y u _ _ _ _ h
  ·rcases cJ hv with⟨j,u,rfl,rfl⟩|⟨y,u,rfl,rfl⟩
   ·rw[Mv]at h;exact SeqAt.EqAt.str_int x t j u _ _ _ _ h
   ·rw[Mt]at h;exact wpAny_eqBool_str h
 «strs»:=fun k x t v h=>by
  rcases cJ h with⟨i,u,rfl,e⟩|⟨y,u,rfl,e⟩
  ·exact nomatch e
  ·injection e with e1 _
   subst e1;cases v<;>rfl
theorem yU(prog:Program)(w:World)(i:Int)(t:Tok):(ck prog w).is (.inl i) (.int i t)=true:=DT i t
theorem yV(prog:Program)(w:World)(x:Str)(t:Tok):(ck prog w).is (.inr x) (.str x t)=true:=DU x t
inductive V where
 | dU | bl (b:Bool) | int (i:Int) | str (x:Str) | Gb (b:Array UInt8) | Sv (b:UInt64) | ref (a:Addr) | ty (n:String)
 deriving DecidableEq
def RelV:V->Value->Prop
 | .dU,u=>u=Value.none
 | .bl b,u=>u=Value.bool b
 | .int i,u=>∃ t,u=Value.int i t
 | .str x,u=>∃ t,u=Value.str x t
 | .Gb b,u=>∃ t,u=Value.bytes b t
 | .Sv b,u=>∃ t,u=Value.float b t
 | .ref a,u=>u=Value.ref a
 | .ty n,u=>u=Value.type n
abbrev Vals:List V->List Value->Prop:=Paired RelV
theorem Vals.length{xs:List V}{us:List Value}(r:Vals xs us):xs.length=us.length:=Paired.length r
theorem Vals.get:∀{xs:List V} {us:List Value} {i:Nat} {x:V},Vals xs us->xs[i]?=some x->∃ u,us[i]?=some u/\RelV x u
 | _,_,_,_,.nil,e=>by simp at e
 | _,_,0,_,.cons r _,e=>by simp at e;subst e;exact⟨_,rfl,r⟩
 | _,_,i+1,x,.cons _ t,e=>by
   obtain⟨u,h1,h2⟩:=Vals.get (i:=i) (x:=x) t (by simpa using e)
   exact⟨u,by simpa using h1,h2⟩
theorem Vals.set{x:V}{u:Value}(r:RelV x u):∀{xs:List V} {us:List Value} (i:Nat),Vals xs us->Vals (xs.set i x) (us.set i u)
 | _,_,_,.nil=>.nil
 | _,_,0,.cons _ t=>.cons r t
 | _,_,i+1,.cons q t=>.cons q (Vals.set r i t)
theorem Vals.append:∀{xs ys:List V} {us ws:List Value},Vals xs us->Vals ys ws->Vals (xs++ys) (us++ws)
 | _,_,_,_,.nil,s=>s
 | _,_,_,_,.cons r t,s=>.cons r (Vals.append t s)
theorem Vals.take:∀{xs:List V} {us:List Value} (n:Nat),Vals xs us->Vals (xs.take n) (us.take n)
 | _,_,0,_=>.nil
 | _,_,_+1,.nil=>.nil
 | _,_,n+1,.cons r t=>.cons r (Vals.take n t)
theorem Vals.drop:∀{xs:List V} {us:List Value} (n:Nat),Vals xs us->Vals (xs.drop n) (us.drop n)
 | _,_,0,r=>r
 | _,_,_+1,.nil=>.nil
 | _,_,n+1,.cons _ t=>Vals.drop n t
def pN:Option V->Option Value->Prop
 | some v,some u=>RelV v u
 | none,none=>True
 | _,_=>False
def KV{κ:Type}:List (κ×V)->List (κ×Value)->Prop:=Paired fun(p:κ×V) (q:κ×Value)=>p.1=q.1/\RelV p.2 q.2
def kV:Key->V
 | .inl i=>.int i
 | .inr x=>.str x
inductive HO where
 | lst (xs:List V)
 | tup (xs:List V)
 | dK (kvs:List (Key×V)) | dT (kvs:List (List Key×V))
 | set (S:Int->Bool) (n:Nat)
 | ins (C dx:Addr) (fs:List (Str×V))
 | own (x:Addr)
 | xd (fs:List (Str×V))
 | met (f x:Addr)
 | DV (lo hi:Int)
 | k9 (o:Obj) (u:HO)
 | jJ (ps:Array Value)
 | ext (φ:Heap->Prop)
abbrev Hp:=Addr->Option HO
def upd(H:Hp)(a:Addr)(o:HO):Hp:=fun b=>if b=a then some o else H b
theorem ae{H:Hp}{a:Addr}{o:HO}:upd H a o a=some o:=by unfold upd;rw[if_pos rfl]
theorem ao{H:Hp}{a b:Addr}{o:HO}(h:b≠a):upd H a o b=H b:=by unfold upd;rw[if_neg h]
theorem aS{H:Hp}{a b:Addr}{o u:HO}(h:H a=some o)(h' : H b=some u)(d:o≠u):a≠b:=by
 intro e;subst e;rw[h]at h';exact d (Option.some.inj h')
theorem aW{H:Hp}{a b:Addr}{o:HO}(h:H a=some o)(h' : H b=none):a≠b:=by
 intro e;subst e;rw[h]at h';cases h'
def JP(qs:Array Value):Str:=match (qs[0]?:Option Value) with | some (Value.str q _)=>q | _=>""
section
variable (P:Program)(w:World)
def bz(H:Hp)(h:Heap)(a:Addr):HO->Prop
 | .lst xs=>xs.length<=sizeLine/\∃(its:List Value) (n:Nat),Vals xs its/\h.get? a=some { cls:=.type "list",data:=.seq its.toArray n}
 | .tup xs=>xs.length<=sizeLine/\∃ its:List Value,Vals xs its/\IsTup h a its.toArray
 | .dK kvs=>kvs.length<=sizeLine/\(a==sysModules)=false/\∃ vs,KV kvs vs/\h.DictOf (ck P w) a vs
 | .dT kvs=>kvs.length<=sizeLine/\(a==sysModules)=false/\∃ xs:List (List Key×Addr×Value),
  Paired (fun(p:List Key×V) (q:List Key×Addr×Value)=>p.1=q.1/\H q.2.1=some (.tup (p.1.map kV))/\RelV p.2 q.2.2) kvs xs/\
  ∃ o es ep,h.get? a=some o/\o.ExactDict/\o.data = .dict es ep/\es.toList=xs.map (entryOfKey (tupleKind (ck P w)))/\(xs.map (·.1)).Nodup
 | .set S n=>h.SetOf (intKind P w) a S n
 | .ins C dx fs=>H dx=some (.own a)/\fs.length<=1000/\dx≠a/\h.get? a=some (PySem.W.instObj C dx)/\
  ∃ mA,h.Ns1 dx mA/\(∀ f,pN (fs.lookup f) (mA f))/\PySem.Within mA (fs.map (·.1))
 | .own _=>∃ o,h.get? a=some o
 | .xd fs=>∃ mA,h.Ns1 a mA/\∀ f,pN (fs.lookup f) (mA f)
 | .DV lo hi=>∃ t u v,h.get? a=some { cls:=.type "range",data:=.fields #[.int lo t,.int hi u,.int 1 v]}
 | .k9 o u=>h.get? a=some o/\bz H h a u
 | .jJ qs=>∃ ps:Array Value,h.get? a=some { cls:=.none,data:=.fields ps}/\((qs.size=3/\(ps = #[]\/∃ c,ps = #[qs.getD 1 .none,qs.getD 2 .none,.ref c]/\H c=some (.own a)/\h.CodeRec (.ref c) (JP qs)))\/∃ q l k,qs = #[q,l,k]++ps/\ps.size=3)
 | .met f x=>h.get? a=some (PySem.W.methodObj (.ref f) (.ref x))
 | .ext φ=>φ h/\(∃ o,h.get? a=some o)/\∀ h1 h2:Heap,φ h1->(∀ o,h1.get? a=some o->h2.get? a=some o)->φ h2
def l8(H:Hp)(h:Heap):Prop:=∀ a o,H a=some o->bz P w H h a o
end
section
variable {P:Program}{w:World}{H H' : Hp}{h h' : Heap}{a:Addr}{o:HO}
theorem bz.lt(x:bz P w H h a o):a<h.objs.size:=by
 cases o with
 | lst xs=>obtain⟨_,_,_,_,e⟩:=x;exact Heap.lt_size e
 | tup xs=>obtain⟨_,_,_,p⟩:=x;exact p.lt
 | dK kvs=>obtain⟨_,_,_,_,o,_,_,e,_⟩:=x;exact Heap.lt_size e
 | dT kvs=>obtain⟨_,_,_,_,o,_,_,e,_⟩:=x;exact Heap.lt_size e
 | set S n=>obtain⟨o,_,_,_,e,_⟩:=x;exact Heap.lt_size e
 | ins C dx fs=>obtain⟨_,_,_,e,_⟩:=x;exact Heap.lt_size e
 | own y=>obtain⟨_,e⟩:=x;exact Heap.lt_size e
 | xd fs=>obtain⟨_,⟨_,_,_,e,_⟩,_⟩:=x;exact Heap.lt_size e
 | DV lo hi=>obtain⟨_,_,_,e⟩:=x;exact Heap.lt_size e
 | k9 ob u=>obtain⟨e,_⟩:=x;exact Heap.lt_size e
 | jJ ps=>obtain⟨_,e,_⟩:=x;exact Heap.lt_size e
 | met f y=>exact Heap.lt_size (show h.get? a=some _ from x)
 | ext φ=>obtain⟨_,⟨_,e⟩,_⟩:=x;exact Heap.lt_size e
theorem Paired.xG{α β:Type}{F G:α->β->Prop}:∀{l₁:List α} {l₂:List β},Paired F l₁ l₂->(∀ a b,F a b->G a b)->Paired G l₁ l₂
 | _,_,.nil,_=>.nil
 | _,_,.cons r t,f=>.cons (f _ _ r) (Paired.xG t f)
theorem Paired.imp'{α β:Type}{F G:α->β->Prop}(f:∀ a b,F a b->G a b){l₁:List α}{l₂:List β}(r:Paired F l₁ l₂):Paired G l₁ l₂:=Paired.xG r f
theorem bz.stay(x:bz P w H h a o)(k:∀ b u,(b=a\/H b=some (.own a))->h.get? b=some u->h'.get? b=some u)
 (ho:∀ b,H b=some (.own a)->H' b=some (.own a)) (ht:∀ b xs,H b=some (.tup xs)->H' b=some (.tup xs)):bz P w H' h' a o:=by
 induction o with
 | lst xs=>obtain⟨z,its,n,r,e⟩:=x;exact⟨z,its,n,r,k _ _ (.inl rfl) e⟩
 | tup xs=>obtain⟨z,its,r,ob,e,c⟩:=x;exact⟨z,its,r,ob,k _ _ (.inl rfl) e,c⟩
 | dK kvs=>obtain⟨z,y,vs,r,ob,es,ep,e,c⟩:=x;exact⟨z,y,vs,r,ob,es,ep,k _ _ (.inl rfl) e,c⟩
 | dT kvs =>
   obtain⟨z,y,xs,r,ob,es,ep,e,c⟩:=x;exact⟨z,y,xs,Paired.xG r fun p q z=>⟨z.1,ht _ _ z.2.1,z.2.2⟩,ob,es,ep,k _ _ (.inl rfl) e,c⟩
 | set S n=>obtain⟨ob,es,ep,t,e,c⟩:=x;exact⟨ob,es,ep,t,k _ _ (.inl rfl) e,c⟩
 | ins C dx fs =>
   obtain⟨d,z,ne,e,mA,⟨od,es,ep,e2,c⟩,r⟩:=x;exact⟨ho _ d,z,ne,k _ _ (.inl rfl) e,mA,⟨od,es,ep,k _ _ (.inr d) e2,c⟩,r⟩
 | own y=>obtain⟨ob,e⟩:=x;exact⟨ob,k _ _ (.inl rfl) e⟩
 | xd fs=>obtain⟨mA,⟨od,es,ep,e,c⟩,r⟩:=x;exact⟨mA,⟨od,es,ep,k _ _ (.inl rfl) e,c⟩,r⟩
 | DV lo hi=>obtain⟨t,u,v,e⟩:=x;exact⟨t,u,v,k _ _ (.inl rfl) e⟩
 | k9 ob u ih=>obtain⟨e,q⟩:=x;exact⟨k _ _ (.inl rfl) e,ih q⟩
 | jJ qs =>
   obtain⟨ps,e,f⟩:=x;refine⟨ps,k _ _ (.inl rfl) e,?_⟩;rcases f with⟨hz,f|⟨c,e1,e2,c',oc,vs,tq,hc,ho',hd,hv⟩⟩|f
   ·exact .inl ⟨hz,.inl f⟩
   ·cases hc;exact .inl ⟨hz,.inr ⟨c,e1,ho _ e2,c,oc,vs,tq,rfl,k _ _ (.inr e2) ho',hd,hv⟩⟩
   ·exact .inr f
 | met f y =>
   have e:h.get? a=some (PySem.W.methodObj (.ref f) (.ref y)):=x;show h'.get? a=some (PySem.W.methodObj (.ref f) (.ref y));exact k a _ (.inl rfl) e
 | ext φ=>obtain⟨p,⟨o,e⟩,st⟩:=x;exact⟨st _ _ p fun o q=>k _ _ (.inl rfl) q,⟨o,k _ _ (.inl rfl) e⟩,st⟩
theorem l8.lt(x:l8 P w H h)(e:H a=some o):a<h.objs.size:=(x a o e).lt
theorem l8.fresh(x:l8 P w H h)(e:h.objs.size<=a):H a=none:=by
 cases q:H a with
 | none=>rfl
 | some u=>exact absurd (Nat.lt_of_lt_of_le (x.lt q) e) (Nat.lt_irrefl _)
theorem l8.kept(x:l8 P w H h)(k:∀ b u,h.get? b=some u->h'.get? b=some u):l8 P w H h':=fun a o e =>
 (x a o e).stay (fun b u _ q=>k b u q) (fun _ q=>q) fun _ _ q=>q
theorem l8.laid(x:l8 P w H h)(k:∀ b u,h.get? b=some u->h'.get? b=some u)(hp:h.objs.size<=a)(new:bz P w (upd H a o) h' a o):l8 P w (upd H a o) h':=fun b u e=>by
 have hn:=x.fresh hp
 by_cases hb:b=a
 ·subst hb;rw[ae]at e;cases e;exact new
 ·rw[ao hb]at e;exact(x b u e).stay (fun c v _ q=>k c v q) (fun c q=>by rw[ao (aW q hn)];exact q) fun c xs q=>by rw[ao (aW q hn)];exact q
end
def Rd(H:Hp)(a:Addr)(u:HO):Prop:=H a=some u\/∃ o,H a=some (.k9 o u)
theorem Rd.ok{P:Program}{w:World}{H:Hp}{h:Heap}{a:Addr}{u:HO}(r:Rd H a u)(x:l8 P w H h):bz P w H h a u:=by
 rcases r with r|⟨o,r⟩
 ·exact x a u r
 ·obtain⟨_,q⟩:=x a _ r;exact q
def OX:Option HO->Prop
 | some (.lst _)=>True
 | some (.dK _)=>True
 | some (.dT _)=>True
 | some (.set _ _)=>True
 | some (.ins _ _ _)=>True
 | some (.ext _)=>True
 | _=>False
section
variable {P:Program}{w:World}{H:Hp}{h h' : Heap}{x e:Addr}{o' : HO}
theorem l8.write(ok:l8 P w H h)(mu:OX (H x))(he:e=x\/H e=some (.own x))(k:∀ b u,b≠e->h.get? b=some u->h'.get? b=some u)(Ol:∃ u,h'.get? e=some u)
 (new:bz P w (upd H x o') h' x o'):l8 P w (upd H x o') h':=fun b u q=>by
 have OY:∀ c y,H c=some (.own y)->c≠x:=fun c y r z=>by subst z;rw[r]at mu;exact mu
 have Sw:∀ c xs,H c=some (.tup xs)->c≠x:=fun c xs r z=>by subst z;rw[r]at mu;exact mu
 by_cases hb:b=x
 ·subst hb;rw[ae]at q;cases q;exact new
 ·rw[ao hb]at q
  by_cases Mw:b=e
  ·have q' : H b=some (.own x):=by
    rcases he with z|z
    ·exact absurd (Mw.trans z) hb
    ·rw[Mw];exact z
   rw[q]at q';cases q';obtain⟨v,hv⟩:=Ol;exact⟨v,by rw[Mw];exact hv⟩
  ·refine(ok b u q).stay (fun c v hc r=>k c v ?_ r) (fun c r=>by rw[ao (OY c b r)];exact r) fun c xs r=>by rw[ao (Sw c xs r)];exact r
   rcases hc with rfl|hc
   ·exact Mw
   ·rintro rfl;rcases he with z|z
    ·exact OY c b hc z
    ·rw[hc]at z;cases z;exact hb rfl
end
structure Un(fs ex:List Addr)(H H' : Hp)(h h' : Heap):Prop where
 keep:∀ b o,h.get? b=some o->H b=none->b∉fs->b∉ex->h'.get? b=some o
 slot:∀ b o,h.get? b=some o->H b=none->b∈fs->b∉ex->∃ sl,h'.get? b=some { o with slots:=sl}
 free:∀ b o,h.get? b=some o->H b=none->b∉ex->H' b=none
 there:∀ b o,h.get? b=some o->b∉ex->∃ o',h'.get? b=some o'
 tups:∀ b xs,H b=some (.tup xs)->H' b=some (.tup xs)
 jZ:∀ b o u,H b=some (.k9 o u)->H' b=some (.k9 o u)
 lg:∀ b ps,H b=some (.jJ ps)->∃ more,H' b=some (.jJ (ps++more))
section
variable {fs fs' ex ex' : List Addr}{H H1 H2:Hp}{h h1 h2 h' : Heap}{a x e:Addr}{o:HO}
theorem Un.any(u:Un fs ex H H1 h h1){b:Addr}{ob:Obj}(q:h.get? b=some ob)(n:H b=none)(hx:b∉ex):∃ sl,h1.get? b=some { ob with slots:=sl}:=by
 by_cases hb:b∈fs
 ·exact u.slot b ob q n hb hx
 ·exact⟨ob.slots,u.keep b ob q n hb hx⟩
theorem Un.kept(k:∀ b u,h.get? b=some u->h'.get? b=some u):Un fs ex H H h h' :=
 ⟨fun b ob q _ _ _=>k b ob q,fun b ob q _ _ _=>⟨ob.slots,k b ob q⟩,fun _ _ _ n _=>n,fun b ob q _=>⟨ob,k b ob q⟩,fun _ _ q=>q,fun _ _ _ q=>q,fun _ ps q=>⟨#[],by rw[q];simp⟩⟩
theorem Un.refl:Un fs ex H H h h:=Un.kept fun _ _ q=>q
theorem Un.laid(k:∀ b u,h.get? b=some u->h'.get? b=some u)(hp:h.objs.size<=a)(hn:H a=none):Un fs ex H (upd H a o) h h' where
 keep:=fun b u q _ _ _=>k b u q
 slot:=fun b u q _ _ _=>⟨u.slots,k b u q⟩
 free:=fun b u q n _=>by rw[ao (Nat.ne_of_lt (Nat.lt_of_lt_of_le (Heap.lt_size q) hp))];exact n
 there:=fun b u q _=>⟨u,k b u q⟩
 tups:=fun b xs q=>by rw[ao (aW q hn)];exact q
 jZ:=fun b u xs q=>by rw[ao (aW q hn)];exact q
 lg:=fun b ps q=>⟨#[],by rw[ao (aW q hn),q];simp⟩
theorem Un.write(mu:OX (H x))(he:e=x\/H e=some (.own x))(k:∀ b u,b≠e->h.get? b=some u->h'.get? b=some u)(Ol:∃ u,h'.get? e=some u):Un fs ex H (upd H x o) h h':=by
 have hx:∀ b,H b=none->b≠x:=fun b n z=>by subst z;rw[n]at mu;exact mu
 have hb:∀ b,H b=none->b≠e:=fun b n z=>by
  subst z;rcases he with r|r
  ·exact hx b n r
  ·rw[n]at r;cases r
 have hm:∀ b u,H b=some u->¬ OX (some u)->b≠x:=fun b u q nm z=>by subst z;rw[q]at mu;exact nm mu
 refine⟨fun b u q n _ _=>k b u (hb b n) q,fun b u q n _ _=>⟨u.slots,k b u (hb b n) q⟩,fun b u q n _=>by rw[ao (hx b n)];exact n,fun b u q _=>?_,
  fun b xs q=>by rw[ao (hm b _ q fun z=>z)];exact q,fun b u xs q=>by rw[ao (hm b _ q fun z=>z)];exact q,fun b ps q=>⟨#[],by rw[ao (hm b _ q fun z=>z),q];simp⟩⟩
 by_cases Mw:b=e
 ·subst Mw;exact Ol
 ·exact⟨u,k b u Mw q⟩
end
def Om(h:Heap)(H:Hp):List Addr:=(List.range h.objs.size).filter fun a=>(H a).isSome
def yW(h:Heap)(H:Hp):Heap:=PySem.W.hideAll h (Om h H)
theorem DW(h:Heap)(H:Hp):(yW h H).objs.size=h.objs.size:=PySem.W.hideAll_size _ _
theorem sW{h:Heap}{H:Hp}{b:Addr}{o:Obj}(e:h.get? b=some o)(n:H b=none):(yW h H).get? b=some o :=
 PySem.W.hideAll_get _ e fun hm=>by
  have q:(H b).isSome=true:=(List.mem_filter.mp hm).2;rw[n]at q;simp at q
theorem JQ{h:Heap}{H:Hp}{b:Addr}{o:Obj}(e:(yW h H).get? b=some o):h.get? b=some o/\H b=none:=by
 have e' : h.get? b=some o:=PySem.W.of_hideAll (Om h H) e;refine⟨e',?_⟩;cases q:H b with
 | none=>rfl
 | some x =>
   have hm:b∈Om h H:=List.mem_filter.mpr ⟨List.mem_range.mpr (Heap.lt_size e'),by simp[q]⟩
   have z:(yW h H).get? b=none:=PySem.W.hideAll_none (Om h H) hm;rw[z]at e;cases e
def sE(g h:Heap)(L:Addr):aR:=(List.range h.objs.size).filterMap fun a=>if a=L\/(g.get? a).isSome=true then none else(h.get? a).map fun o=>(a,o)
theorem yX{g h:Heap}{L a:Addr}{o:Obj}(h1:a≠L)(h2:g.get? a=none)(h3:h.get? a=some o):(a,o)∈sE g h L :=
 List.mem_filterMap.mpr ⟨a,List.mem_range.mpr (Heap.lt_size h3),by simp[h1,h2,h3]⟩
theorem sX{g h:Heap}{L:Addr}{p:Addr×Obj}(hp:p∈sE g h L):p.1≠L/\g.get? p.1=none/\h.get? p.1=some p.2:=by
 obtain⟨b,_,e⟩:=List.mem_filterMap.mp hp
 split at e
 ·cases e
 ·rename_i hn
  cases q:h.get? b with
  | none=>rw[q]at e;simp at e
  | some u =>
    rw[q]at e;simp only[Option.map_some,Option.some.injEq]at e;subst e;refine⟨fun z=>hn (.inl z),?_,q⟩
    show g.get? b=none;cases r:g.get? b with
    | none=>rfl
    | some v=>exact(hn (.inr (by simp[r]))).elim
def rest(g h:Heap)(L d:Addr):aR:=(sE g h L).filter fun p=>decide (p.1≠d)
theorem CM{g h:Heap}{L d:Addr}:∀ p∈rest g h L d,p.1≠d:=fun p hp=>iG (List.mem_filter.mp hp).2
theorem Gd{g h:Heap}{L d a:Addr}{o:Obj}(h1:a≠L)(h2:g.get? a=none)(h3:h.get? a=some o)(h4:a≠d):(a,o)∈rest g h L d :=
 List.mem_filter.mpr ⟨yX h1 h2 h3,cD h4⟩
theorem Ge{g h:Heap}{L:Addr}:News g L h (sE g h L):=fun p hp=>let⟨a,b,c⟩:=sX hp;⟨c,a,b⟩
theorem nV{g h h' : Heap}{L d:Addr}{m:mZ}(k:∀ b o,g.get? b=some o->h.get? b=some o)(F:Fr g L h' m)(N:News g L h' (rest g h L d)):
 ∀ b o,b≠L->b≠d->h.get? b=some o->h'.get? b=some o:=fun b o h1 h2 e=>by
 cases q:g.get? b with
 | some u =>
   have:=k b u q;rw[e]at this;cases this;exact F.keep b _ q
 | none=>exact(N (b,o) (Gd h1 q e h2)).1
structure Mod(K:bX)(mg:mZ)(base:Heap):Prop where
 RA:K.In base
 glob:base.Ns mainGlobals mg
 blt:∃ mb,base.Ns builtinsNs mb/\∀ x:Str,x≠"__name__"->mb x=bootBuiltins x
 nolimit:base.NoLimit
 bmain:∃ bm ob,mg "__builtins__"=some (.ref bm)/\bm≠builtinsNs/\base.get? bm=some ob/\ob.cls = .type "module"/\ob.dict=some builtinsNs/\ob.data = .plain
structure Cx where
 prog:Program
 w:World
 K:bX
 mg:Str->Option Value
 base:Heap
 A:Around
 N:List Str
 s₀:Shared
 H₀:Hp
 env:Env
 outer:List Env
 stack:List Env
 ex:List Addr
 fn:Str->Bool
 calm:Bool
 pn:aR
 xe:Value->Shared->Prop
def frs(l:List Env):List Addr:=l.filterMap (·.frame)
abbrev Cx.fs(X:Cx):List Addr:=frs X.outer
def RB(sc:Scope)(x:Str):Prop:=sc.names.lookup x=some .local\/sc.names.lookup x=some .cell\/sc.names.lookup x=some .free
def Loc(sc:Scope)(x:Str):Prop:=sc.names.lookup x=some .local\/sc.names.lookup x=some .cell
def Look(env:Env)(h:Heap)(m:mZ)(x:Str)(u:Value):Prop :=
 (env.kindOf x=some .local/\m x=some u)\/((env.kindOf x=some .cell\/env.kindOf x=some .free)/\∃ c,env.cells.lookup x=some c/\h.IsCell c (some u))
structure Cx.Ok(X:Cx):Prop where
 mod:Mod X.K X.mg X.base
 kind:X.env.scope.kind = .function
 glob:X.env.globals=mainGlobals
 blt:X.env.builtins=builtinsNs
 above:X.s₀.heap.objs.size<=X.env.locals
 inj:∀ x y c,X.env.cells.lookup x=some c->X.env.cells.lookup y=some c->x=y
 has:∀ x,(X.env.kindOf x=some .cell\/X.env.kindOf x=some .free)->∃ c,X.env.cells.lookup x=some c
 OZ:∀ x c,X.fn x=true->X.env.cells.lookup x=some c->X.s₀.heap.objs.size<=c
 hd:X.calm=true->X.A.handled=none
 frames:X.A.frames=some X.stack
 JR:X.stack=X.outer\/(X.stack=X.env::X.outer/\X.env.frame=some X.env.locals)
 U6:∀ b∈X.ex,b≠X.env.locals/\∀ x c,X.env.cells.lookup x=some c->c≠b
 bs:∀ b o,X.base.get? b=some o->X.s₀.heap.get? b=some o/\X.H₀ b=none
 JS:X.base.objs.size<=X.s₀.heap.objs.size
 Gf:∀ b o,X.base.get? b=some o->b∉X.ex
 JT:∀ b∈X.ex,b∉X.fs
 funs:X.s₀.heap.FunFrames X.base X.outer
 Mx:∀ b∈X.fs,X.H₀ b=none
structure Inv(X:Cx)(pq:aR)(σ:List (Option V))(H:Hp)(s:Shared):Prop where
 ok:X.Ok
 os:s.os=X.s₀.os
 bare:AllBare s.gens
 base:Un X.fs X.ex X.H₀ H X.s₀.heap s.heap
 loc:∃ m,s.heap.Ns X.env.locals m/\∀(i:Nat) (x:Str) (v:V),X.N[i]?=some x->σ[i]?=some (some v)->RB X.env.scope x->∃ u,RelV v u/\Look X.env s.heap m x u
 cell:∀ x c,X.env.cells.lookup x=some c->∃ v,s.heap.IsCell c v
 free:H X.env.locals=none
 eZ:∀ x c,X.env.cells.lookup x=some c->H c=none
 pin:∀ p∈X.pn++pq,s.heap.get? p.1=some p.2/\H p.1=none/\p.1≠X.env.locals/\p.1∉X.fs/\∀ v,p.2.data≠.cell v
 hok:l8 X.prog X.w H s.heap
 len:σ.length=X.N.length
section
variable {X:Cx}{pq:aR}{σ:List (Option V)}{H H' : Hp}{s:Shared}{h' : Heap}
theorem Cx.Ok.Sx(ok:X.Ok){b:Addr}{o:Obj}(e:X.base.get? b=some o):b∉X.fs:=fun hb=>by
 have:=(ok.funs.mem hb).1;rw[e]at this;cases this
theorem Inv.bs(I:Inv X pq σ H s):∀ b o,X.base.get? b=some o->s.heap.get? b=some o/\H b=none:=fun b o e =>
 ⟨I.base.keep b o (I.ok.bs b o e).1 (I.ok.bs b o e).2 (I.ok.Sx e) (I.ok.Gf b o e),I.base.free b o (I.ok.bs b o e).1 (I.ok.bs b o e).2 (I.ok.Gf b o e)⟩
theorem Inv.bk(I:Inv X pq σ H s):∀ b o,X.base.get? b=some o->s.heap.get? b=some o:=fun b o e=>(I.bs b o e).1
theorem Inv.mod(I:Inv X pq σ H s):Mod X.K X.mg X.base:=I.ok.mod
theorem Inv.My(I:Inv X pq σ H s):X.K.In s.heap:=I.ok.mod.RA.keeps I.bk
theorem Inv.nolimit(I:Inv X pq σ H s):s.heap.NoLimit:=I.ok.mod.nolimit.keeps I.bk
theorem Inv.fr(I:Inv X pq σ H s):∃ m,Fr X.base X.env.locals s.heap m :=
 let⟨m,hn,_⟩:=I.loc
 ⟨m,hn,I.bk,Nat.le_trans I.ok.JS I.ok.above⟩
theorem Inv.lt(I:Inv X pq σ H s):X.env.locals<s.heap.objs.size:=let⟨_,hn,_⟩:=I.loc;hn.lt
theorem Inv.sz(I:Inv X pq σ H s):X.s₀.heap.objs.size<=s.heap.objs.size:=Nat.le_trans I.ok.above (Nat.le_of_lt I.lt)
theorem Inv.O0(I:Inv X pq σ H s){a:Addr}(h:s.heap.objs.size<=a):a∉X.fs:=fun hb=>by
 obtain⟨_,o,ho,_⟩:=I.ok.funs.mem hb;exact absurd (Nat.lt_of_lt_of_le (Heap.lt_size ho) (Nat.le_trans I.sz h)) (Nat.lt_irrefl _)
theorem Inv.Mz(I:Inv X pq σ H s):∀ x c,X.env.cells.lookup x=some c->c≠X.env.locals:=fun x c e z=>by
 obtain⟨v,o,ho,hd⟩:=I.cell x c e;obtain⟨m,⟨o',es,ep,ho',hd',_⟩,_⟩:=I.loc;rw[z,ho']at ho;cases ho;rw[hd']at hd;cases hd
theorem Inv.funs(I:Inv X pq σ H s):s.heap.FunFrames X.base X.outer:=by
 have all:∀(l:List Env),(∀ b∈frs l,b∈X.fs)->X.s₀.heap.FunFrames X.base l->s.heap.FunFrames X.base l:=by
  intro l
  induction l with
  | nil=>intro _ _;trivial
  | cons env r ih =>
    intro hs hl;obtain⟨hk,⟨L,o,hf,hn,ho,hd⟩,hr⟩:=hl;have hL:L∈X.fs:=hs L (by unfold frs;rw[List.filterMap_cons,hf];exact List.mem_cons_self)
    obtain⟨sl,e⟩:=I.base.slot L o ho (I.ok.Mx L hL) hL fun z=>I.ok.JT L z hL
    exact⟨hk,⟨L,_,hf,hn,e,hd⟩,ih (fun b hb=>hs b (by unfold frs;rw[List.filterMap_cons,hf];exact jY _ hb)) hr⟩
 exact all X.outer (fun _ hb=>hb) I.ok.funs
theorem Inv.stack(I:Inv X pq σ H s):s.heap.FunFrames X.base X.stack:=by
 rcases I.ok.JR with e|⟨e,hf⟩
 ·rw[e];exact I.funs
 ·rw[e];obtain⟨m,hn,_⟩:=I.loc;refine .cons (by rw[I.ok.kind];decide) hf hn ?_ I.funs
  exact Heap.get?_none_of_le (Nat.le_trans I.ok.JS I.ok.above)
theorem Inv.sY(I:Inv X pq σ H s):∀ b∈frs X.stack,b∈X.env.locals::X.fs:=fun b hb=>by
 rcases I.ok.JR with e|⟨e,hf⟩
 ·rw[e]at hb;exact jY _ hb
 ·rw[e]at hb;unfold frs at hb;rw[List.filterMap_cons,hf]at hb;exact hb
theorem Inv.xH(I:Inv X pq σ H s):∀ b∈frs X.stack,H b=none:=fun b hb=>by
 rcases List.mem_cons.mp (I.sY b hb) with e|hb
 ·rw[e];exact I.free
 ·obtain⟨_,o,ho,_⟩:=I.ok.funs.mem hb;exact I.base.free b o ho (I.ok.Mx b hb) fun z=>I.ok.JT b z hb
theorem Inv.step{g' : Array GenState}{t' : Nat}{d' : Drawn}{ch:List Addr}(I:Inv X pq σ H s)
 (hch:∀ b∈ch,(b∈X.ex\/X.s₀.heap.objs.size<=b)/\b≠X.env.locals/\(∀ x c,X.env.cells.lookup x=some c->c≠b)/\∀ p∈X.pn++pq,p.1≠b)
 (keep:∀ b o,b≠X.env.locals->b∉X.fs->b∉ch->s.heap.get? b=some o->H b=none->h'.get? b=some o)
 (slot:∀ b o,b≠X.env.locals->b∈X.fs->b∉ch->s.heap.get? b=some o->H b=none->∃ sl,h'.get? b=some { o with slots:=sl}) (free:∀ b o,b∉ch->s.heap.get? b=some o->H b=none->H' b=none)
 (there:∀ b o,b∉ch->s.heap.get? b=some o->∃ o',h'.get? b=some o')
 (tups:∀ b xs,H b=some (.tup xs)->H' b=some (.tup xs)) (jZ:∀ b o u,H b=some (.k9 o u)->H' b=some (.k9 o u)) (lg:∀ b ps,H b=some (.jJ ps)->∃ more,H' b=some (.jJ (ps++more)))
 (ns:∀ m,s.heap.Ns X.env.locals m->h'.Ns X.env.locals m) (hok:l8 X.prog X.w H' h') (hg:AllBare g') :
 Inv X pq σ H' { s with heap:=h',gens:=g',drawn:=d',toks:=t'}:=by
 have U7:∀ b o,X.s₀.heap.get? b=some o->b≠X.env.locals:=fun b o e=>Nat.ne_of_lt (Nat.lt_of_lt_of_le (Heap.lt_size e) I.ok.above)
 have RC:∀ b o,X.s₀.heap.get? b=some o->b∉X.ex->b∉ch:=fun b o e hx hb=>by
  rcases(hch b hb).1 with z|z
  ·exact hx z
  ·exact absurd (Nat.lt_of_lt_of_le (Heap.lt_size e) z) (Nat.lt_irrefl _)
 have cellK:∀ x c,X.env.cells.lookup x=some c->∀ v,s.heap.IsCell c v->h'.IsCell c v:=fun x c e v ⟨o,ho,hd⟩=>by
  have O3:c∉ch:=fun z=>(hch c z).2.2.1 x c e rfl
  by_cases hc:c∈X.fs
  ·obtain⟨sl,q⟩:=slot c o (I.Mz x c e) hc O3 ho (I.eZ x c e);exact⟨_,q,hd⟩
  ·exact⟨o,keep c o (I.Mz x c e) hc O3 ho (I.eZ x c e),hd⟩
 refine⟨I.ok,I.os,hg,⟨fun b o e n hb hx=>?_,fun b o e n hb hx=>?_,fun b o e n hx=>?_,fun b o e hx=>?_,fun b xs e=>tups b xs (I.base.tups b xs e),fun b o xs e=>jZ b o xs (I.base.jZ b o xs e),fun b ps e=>?_⟩,?_,fun x c e=>?_,?_,fun x c e=>?_,fun p hp=>?_,hok,I.len⟩
 ·exact keep b o (U7 b o e) hb (RC b o e hx) (I.base.keep b o e n hb hx) (I.base.free b o e n hx)
 ·obtain⟨sl,e1⟩:=I.base.slot b o e n hb hx;obtain⟨RD,e2⟩:=slot b _ (U7 b o e) hb (RC b o e hx) e1 (I.base.free b o e n hx);exact⟨RD,e2⟩
 ·obtain⟨o',e1⟩:=I.base.there b o e hx;exact free b o' (RC b o e hx) e1 (I.base.free b o e n hx)
 ·obtain⟨o',e1⟩:=I.base.there b o e hx;exact there b o' (RC b o e hx) e1
 ·obtain⟨m1,e1⟩:=I.base.lg b ps e;obtain⟨m2,e2⟩:=lg b _ e1;exact⟨m1++m2,by rw[e2,Array.append_assoc]⟩
 ·obtain⟨m,hn,hl⟩:=I.loc;refine⟨m,ns m hn,fun i x v e1 e2 e3=>?_⟩
  obtain⟨u,r,l⟩:=hl i x v e1 e2 e3;refine⟨u,r,?_⟩;rcases l with l|⟨k,c,e,z⟩
  ·exact .inl l
  ·exact .inr ⟨k,c,e,cellK x c e _ z⟩
 ·obtain⟨v,z⟩:=I.cell x c e;exact⟨v,cellK x c e v z⟩
 ·obtain⟨m,⟨o,_,_,ho,_⟩,_⟩:=I.loc;exact free _ o (fun z=>(hch _ z).2.1 rfl) ho I.free
 ·obtain⟨v,o,ho,hd⟩:=I.cell x c e;exact free c o (fun z=>(hch c z).2.2.1 x c e rfl) ho (I.eZ x c e)
 ·obtain⟨e,n,ne,nf,d⟩:=I.pin p hp;have O3:p.1∉ch:=fun z=>(hch p.1 z).2.2.2 p hp rfl
  exact⟨keep p.1 p.2 ne nf O3 e n,free p.1 p.2 O3 e n,ne,nf,d⟩
theorem Inv.un{t' : Nat}(I:Inv X pq σ H s)(u:Un X.fs [] H H' s.heap h')(hok:l8 X.prog X.w H' h'):Inv X pq σ H' { s with heap:=h',toks:=t'}:=by
 obtain⟨m,⟨o,es,ep,ho,r⟩,_⟩:=id I.loc;obtain⟨sl,hL⟩:=u.any ho I.free (by simp)
 exact I.step (g':=s.gens) (d':=s.drawn) (ch:=[]) (fun _ z=>nomatch z) (fun b o _ hb _ e n=>u.keep b o e n hb (by simp)) (fun b o _ hb _ e n=>u.slot b o e n hb (by simp)) (fun b o _ e n=>u.free b o e n (by simp)) (fun b o _ e=>u.there b o e (by simp)) u.tups u.jZ u.lg (fun m' hm=>by
  obtain⟨o',es',CN,ho',r'⟩:=hm;rw[ho]at ho';cases ho';exact⟨_,es',CN,hL,r'⟩) hok I.bare
theorem Inv.call{g' : Array GenState}{t' : Nat}{d' : Drawn}{ch:List Addr}(I:Inv X pq σ H s)(u:Un (frs X.stack) ch H H' s.heap h')(hok:l8 X.prog X.w H' h')(hg:AllBare g')
 (hch:∀ b∈ch,(b∈X.ex\/X.s₀.heap.objs.size<=b)/\b≠X.env.locals/\(∀ x c,X.env.cells.lookup x=some c->c≠b)/\∀ p∈X.pn++pq,p.1≠b) :
 Inv X pq σ H' { s with heap:=h',gens:=g',drawn:=d',toks:=t'}:=by
 obtain⟨m,⟨o,es,ep,ho,r⟩,_⟩:=id I.loc;obtain⟨sl,hL⟩:=u.any ho I.free fun z=>(hch _ z).2.1 rfl
 exact I.step (ch:=ch) hch (fun b o hL hb hc e n=>u.keep b o e n (fun z=>(List.mem_cons.mp (I.sY b z)).elim hL hb) hc) (fun b o _ _ hc e n=>u.any e n hc) (fun b o hc e n=>u.free b o e n hc) (fun b o hc e=>u.there b o e hc) u.tups u.jZ u.lg (fun m' hm=>by
  obtain⟨o',es',CN,ho',r'⟩:=hm;rw[ho]at ho';cases ho';exact⟨_,es',CN,hL,r'⟩) hok hg
theorem Inv.turned{t' : Nat}{it:Addr}(I:Inv X pq σ H s)(k:∀ b o,b≠it->s.heap.get? b=some o->h'.get? b=some o)(hn:H it=none)(hL:it≠X.env.locals)
 (h1:it∈X.ex\/X.s₀.heap.objs.size<=it) (h2:∀ x c,X.env.cells.lookup x=some c->c≠it) (h3:∀ p∈X.pn++pq,p.1≠it):Inv X pq σ H { s with heap:=h',toks:=t'}:=by
 have U8:∀ b u,H b=some u->b≠it:=fun b u e z=>by rw[z,hn]at e;cases e
 refine I.step (g':=s.gens) (d':=s.drawn) (ch:=[it]) (fun b hb=>?_) (fun b o _ _ hc e _=>k b o (fun z=>hc (by simp[z])) e) (fun b o _ _ hc e _=>⟨o.slots,k b o (fun z=>hc (by simp[z])) e⟩) (fun _ _ _ _ n=>n)
  (fun b o hc e=>⟨o,k b o (fun z=>hc (by simp[z])) e⟩) (fun _ _ e=>e) (fun _ _ _ e=>e) (fun b ps e=>⟨#[],by rw[e];simp⟩) (fun m hm=>?_) (fun b u e=>?_) I.bare
 ·have e:b=it:=by simpa using hb
  subst e;exact⟨h1,hL,h2,h3⟩
 ·obtain⟨o,es,ep,ho,r⟩:=hm;exact⟨o,es,ep,k _ o (Ne.symm hL) ho,r⟩
 ·refine(I.hok b u e).stay (fun c v hc q=>k c v ?_ q) (fun _ q=>q) fun _ _ q=>q
  rcases hc with z|z
  ·rw[z];exact U8 b u e
  ·exact U8 c _ z
theorem Inv.tok(I:Inv X pq σ H s)(t:Nat):Inv X pq σ H { s with toks:=t}:=I.un (h':=s.heap) (t':=t) Un.refl I.hok
theorem Inv.kept{t' : Nat}(I:Inv X pq σ H s)(k:∀ b u,s.heap.get? b=some u->h'.get? b=some u):Inv X pq σ H { s with heap:=h',toks:=t'}:=I.un (Un.kept k) (I.hok.kept k)
theorem Inv.laid{a:Addr}{o:HO}{t' : Nat}(I:Inv X pq σ H s)(k:∀ b u,s.heap.get? b=some u->h'.get? b=some u)(hp:s.heap.objs.size<=a)(new:bz X.prog X.w (upd H a o) h' a o):
 Inv X pq σ (upd H a o) { s with heap:=h',toks:=t'}:=I.un (Un.laid k hp (I.hok.fresh hp)) (I.hok.laid k hp new)
theorem Inv.write{x e:Addr}{o:HO}{t' : Nat}(I:Inv X pq σ H s)(mu:OX (H x))(he:e=x\/H e=some (.own x))(k:∀ b u,b≠e->s.heap.get? b=some u->h'.get? b=some u)(Ol:∃ u,h'.get? e=some u)
 (new:bz X.prog X.w (upd H x o) h' x o):Inv X pq σ (upd H x o) { s with heap:=h',toks:=t'}:=I.un (Un.write mu he k Ol) (I.hok.write mu he k Ol new)
theorem Inv.weak{σ' : List (Option V)}(I:Inv X pq σ H s)(hl:σ'.length=σ.length)(w:∀(i:Nat) v,σ'[i]?=some (some v)->σ[i]?=some (some v)):Inv X pq σ' H s :=
 ⟨I.ok,I.os,I.bare,I.base,let⟨m,hn,hl'⟩:=I.loc;⟨m,hn,fun i x v e1 e2 e3=>hl' i x v e1 (w i v e2) e3⟩,I.cell,I.free,I.eZ,I.pin,I.hok,hl.trans I.len⟩
theorem Inv.fR{RE:aR}(I:Inv X pq σ H s)(h:∀ p∈RE,s.heap.get? p.1=some p.2/\H p.1=none/\p.1≠X.env.locals/\p.1∉X.fs/\∀ v,p.2.data≠.cell v):Inv X RE σ H s :=
 ⟨I.ok,I.os,I.bare,I.base,I.loc,I.cell,I.free,I.eZ,fun p hp=>(List.mem_append.mp hp).elim (fun z=>I.pin p (vV _ z)) (h p),I.hok,I.len⟩
theorem yY{N:List Str}(hN:N.Nodup){i j:Nat}{x:Str}(a:N[i]?=some x)(b:N[j]?=some x):i=j:=by
 obtain⟨h1,e1⟩:=iH.mp a;obtain⟨h2,e2⟩:=iH.mp b;exact(List.getElem_inj hN).mp (e1.trans e2.symm)
theorem DX{M:Model}{A:Around}{E:di}{i:Nat}{x:Str}{v:V}{u:Value}{Q:Unit->Shared->Prop}(I:Inv X pq σ H s)(hN:X.N.Nodup)(hi:X.N[i]?=some x)(hx:Loc X.env.scope x)(r:RelV v u)
 (h:∀ s',Inv X pq (σ.set i (some v)) H s'->(∃ a,Heap.SameBut a s.heap s'.heap/\(a=X.env.locals\/X.env.cells.lookup x=some a))->Q () s') (hf:X.fn x=true\/X.env.scope.names.lookup x=some .local:=by first | exact .inl rfl | exact .inr rfl | assumption):wpAny M A (storeName X.env x u) Q E s:=by
 obtain⟨m,hn,hl⟩:=id I.loc;have hcls:(X.env.scope.kind == .class || (X.env.scope.kind == .module&&X.env.locals != X.env.globals))=false:=by rw[I.ok.kind];rfl
 have U9:i<σ.length:=by rw[I.len];exact(iH.mp hi).1
 have Mz:=I.Mz;have tracked:∀{a:Addr} {h' : Heap},(∃ o,s.heap.get? a=some o/\H a=none)->Heap.SameBut a s.heap h'->l8 X.prog X.w H h':=fun {a h'} ha hs b ob e=>by
  obtain⟨_,_,hfree⟩:=ha;refine(I.hok b ob e).stay (fun c w' hc q=>(hs.2 c ?_).trans q) (fun _ q=>q) fun _ _ q=>q
  rintro rfl;rcases hc with rfl|hc
  ·rw[hfree]at e;cases e
  ·rw[hfree]at hc;cases hc
 rcases hx with hk|hk
 ·refine wpAny_storeName_local hk hn (fun h' hn' hs=>?_) hcls
  obtain⟨oL,_,_,A1,_⟩:=id hn;refine h _ ⟨I.ok,I.os,I.bare,⟨fun b o e n hb hx=>?_,fun b o e n hb hx=>?_,I.base.free,fun b o e hx=>?_,I.base.tups,I.base.jZ,I.base.lg⟩,⟨_,hn',fun j y v' e1 e2 e3=>?_⟩,fun y c e=>?_,I.free,I.eZ,fun p hp=>?_,tracked ⟨oL,A1,I.free⟩ hs,by simpa using I.len⟩ ⟨_,hs,.inl rfl⟩
  ·exact(hs.2 b (Nat.ne_of_lt (Nat.lt_of_lt_of_le (Heap.lt_size e) I.ok.above))).trans (I.base.keep b o e n hb hx)
  ·obtain⟨sl,e1⟩:=I.base.slot b o e n hb hx;exact⟨sl,(hs.2 b (Nat.ne_of_lt (Nat.lt_of_lt_of_le (Heap.lt_size e) I.ok.above))).trans e1⟩
  ·obtain⟨o',e1⟩:=I.base.there b o e hx;exact⟨o',(hs.2 b (Nat.ne_of_lt (Nat.lt_of_lt_of_le (Heap.lt_size e) I.ok.above))).trans e1⟩
  ·by_cases hj:j=i
   ·subst hj;rw[hi]at e1;cases e1;rw[List.getElem?_set_self U9]at e2;cases e2;exact⟨u,r,.inl ⟨hk,by simp⟩⟩
   ·rw[List.getElem?_set_ne (Ne.symm hj)]at e2;obtain⟨u',r',q⟩:=hl j y v' e1 e2 e3;refine⟨u',r',?_⟩;rcases q with⟨k,e⟩|⟨k,c,e,z⟩
    ·refine .inl ⟨k,?_⟩;have:y≠x:=fun e=>hj (yY hN e1 (e▸hi))
     simp[this,e]
    ·exact .inr ⟨k,c,e,z.sameBut hs (Mz y c e)⟩
  ·obtain⟨w',z⟩:=I.cell y c e;exact⟨w',z.sameBut hs (Mz y c e)⟩
  ·obtain⟨e,n,ne,nf,d⟩:=I.pin p hp;exact⟨(hs.2 p.1 ne).trans e,n,ne,nf,d⟩
 ·have hfn:X.fn x=true:=by
   rcases hf with z|z
   ·exact z
   ·rw[z]at hk;cases hk
  obtain⟨c,hc⟩:=I.ok.has x (.inl hk);obtain⟨w',z⟩:=I.cell x c hc;refine wpAny_storeName_cell I.ok.kind hk hc z (fun h' hc' hs=>?_)
  obtain⟨oc,hoc,Sy⟩:=id z;refine h { s with heap:=h'} ⟨I.ok,I.os,I.bare,⟨fun b o e n hb hx=>?_,fun b o e n hb hx=>?_,I.base.free,fun b o e hx=>?_,I.base.tups,I.base.jZ,I.base.lg⟩,⟨m,hn.sameBut hs (Ne.symm (Mz x c hc)),fun j y v' e1 e2 e3=>?_⟩,fun y c' e=>?_,I.free,I.eZ,fun p hp=>?_,tracked ⟨oc,hoc,I.eZ x c hc⟩ hs,by simpa using I.len⟩ ⟨c,hs,.inr hc⟩
  ·exact(hs.2 b (Nat.ne_of_lt (Nat.lt_of_lt_of_le (Heap.lt_size e) (I.ok.OZ x c hfn hc)))).trans (I.base.keep b o e n hb hx)
  ·obtain⟨sl,e1⟩:=I.base.slot b o e n hb hx;exact⟨sl,(hs.2 b (Nat.ne_of_lt (Nat.lt_of_lt_of_le (Heap.lt_size e) (I.ok.OZ x c hfn hc)))).trans e1⟩
  ·obtain⟨o',e1⟩:=I.base.there b o e hx;exact⟨o',(hs.2 b (Nat.ne_of_lt (Nat.lt_of_lt_of_le (Heap.lt_size e) (I.ok.OZ x c hfn hc)))).trans e1⟩
  ·by_cases hj:j=i
   ·subst hj;rw[hi]at e1;cases e1;rw[List.getElem?_set_self U9]at e2;cases e2;exact⟨u,r,.inr ⟨.inl hk,c,hc,hc'⟩⟩
   ·rw[List.getElem?_set_ne (Ne.symm hj)]at e2;obtain⟨u',r',q⟩:=hl j y v' e1 e2 e3;refine⟨u',r',?_⟩;rcases q with q|⟨k,c',e,z'⟩
    ·exact .inl q
    ·refine .inr ⟨k,c',e,z'.sameBut hs ?_⟩;rintro rfl;exact hj (yY hN e1 (I.ok.inj _ _ _ e hc▸hi))
  ·by_cases hcc:c' = c
   ·subst hcc;exact⟨_,hc'⟩
   ·obtain⟨w2,z2⟩:=I.cell y c' e;exact⟨w2,z2.sameBut hs hcc⟩
  ·obtain⟨e,n,ne,nf,d⟩:=I.pin p hp;refine⟨(hs.2 p.1 ?_).trans e,n,ne,nf,d⟩;intro q;rw[q,hoc]at e;have q' : oc=p.2:=Option.some.inj e;exact d w' (by rw[<-q'];exact Sy)
theorem nW{M:Model}{A:Around}{E:di}{i:Nat}{x:Str}{v:V}{u:Value}{Q:Unit->Shared->Prop}(I:Inv X pq σ H s)(hN:X.N.Nodup)(hi:X.N[i]?=some x)(hx:Loc X.env.scope x)(r:RelV v u)
 (h:∀ s',Inv X pq (σ.set i (some v)) H s'->Q () s') (hf:X.fn x=true\/X.env.scope.names.lookup x=some .local:=by first | exact .inl rfl | exact .inr rfl | assumption):wpAny M A (storeName X.env x u) Q E s :=
 DX I hN hi hx r (fun s' I' _=>h s' I') hf
theorem Inv.Gg{s' : Shared}{ch:List Addr}(I:Inv X pq σ H s)(ho:s'.os=s.os)(u:Un (frs X.stack) ch H H' s.heap s'.heap)(hok:l8 X.prog X.w H' s'.heap)(hg:AllBare s'.gens)
 (hch:∀ b∈ch,(b∈X.ex\/X.s₀.heap.objs.size<=b)/\b≠X.env.locals/\(∀ x c,X.env.cells.lookup x=some c->c≠b)/\∀ p∈X.pn++pq,p.1≠b):Inv X pq σ H' s':=by
 obtain⟨h',g',d',t',o'⟩:=s';have e:o' = s.os:=ho;subst e;exact I.call (g':=g') (t':=t') (d':=d') u hok hg hch
end
abbrev XK:=Value->Option Addr->Hp->Prop
abbrev St:=List (Option V)
abbrev VK:=V->Hp->Prop
abbrev TE:=St->Hp->VK->Prop
abbrev TT:=St->Hp->(Bool->Hp->Prop)->Prop
abbrev TA:=St->Hp->(List V->Hp->Prop)->Prop
structure Ends where
 nx:St->Hp->Prop
 rt:VK
 bk:St->Hp->Prop:=fun _ _=>False
 ct:St->Hp->Prop:=fun _ _=>False
abbrev TS:=Ends->St->Hp->Prop
def EP(X:Cx)(pq:aR)(σ:St)(Q:VK)(u:Value)(s' : Shared):Prop:=∃ v H',Inv X pq σ H' s'/\RelV v u/\Q v H'
def TP(X:Cx)(pq:aR)(σ:St)(Q:Bool->Hp->Prop)(b:Bool)(s' : Shared):Prop:=∃ H',Inv X pq σ H' s'/\Q b H'
def AP(X:Cx)(pq:aR)(σ:St)(Q:List V->Hp->Prop)(us:List Value)(s' : Shared):Prop:=∃ vs H',Inv X pq σ H' s'/\Vals vs us/\Q vs H'
def SP(X:Cx)(pq:aR)(D:Ends)(f:Flow)(s' : Shared):Prop :=
 match f with
 | .next=>∃ σ' H',Inv X pq σ' H' s'/\D.nx σ' H'
 | .brk=>∃ σ' H',Inv X pq σ' H' s'/\D.bk σ' H'
 | .cont=>∃ σ' H',Inv X pq σ' H' s'/\D.ct σ' H'
 | .ret u=>∃ v σ' H',Inv X pq σ' H' s'/\RelV v u/\D.rt v H'
def PE(X:Cx)(e:Expr)(t:TE):Prop :=
 ∀(pq:aR) (s:Shared) (σ:St) (H:Hp) (Q:VK),Inv X pq σ H s->t σ H Q->wpAny (model X.prog X.w) X.A (eval e X.env) (EP X pq σ Q) X.xe s
def PT(X:Cx)(e:Expr)(t:TT):Prop :=
 ∀(pq:aR) (s:Shared) (σ:St) (H:Hp) (Q:Bool->Hp->Prop),Inv X pq σ H s->t σ H Q->wpAny (model X.prog X.w) X.A (isTrue e X.env (eval e X.env)) (TP X pq σ Q) X.xe s
def PW(X:Cx)(e:Expr)(t:TT):Prop :=
 ∀(whole:Sem Value) (pq:aR) (s:Shared) (σ:St) (H:Hp) (Q:Bool->Hp->Prop),Inv X pq σ H s->t σ H Q->wpAny (model X.prog X.w) X.A (isTrue e X.env whole) (TP X pq σ Q) X.xe s
theorem PW.pt{X:Cx}{e:Expr}{t:TT}(h:PW X e t):PT X e t:=h _
def PA(X:Cx)(es:List Expr)(t:TA):Prop :=
 ∀(pos:Pos) (pq:aR) (s:Shared) (σ:St) (H:Hp) (Q:List V->Hp->Prop),Inv X pq σ H s->t σ H Q->wpAny (model X.prog X.w) X.A (spliced (backTo pos (starEach es X.env))) (AP X pq σ Q) X.xe s
def PS(X:Cx)(st:Stmt)(t:TS):Prop :=
 ∀(pq:aR) (s:Shared) (σ:St) (H:Hp) (D:Ends),Inv X pq σ H s->t D σ H->wpAny (model X.prog X.w) X.A (exec st X.env) (SP X pq D) X.xe s
def vX(X:Cx)(st:List Stmt)(t:TS):Prop :=
 ∀(pq:aR) (s:Shared) (σ:St) (H:Hp) (D:Ends),Inv X pq σ H s->t D σ H->wpAny (model X.prog X.w) X.A (execs st X.env) (SP X pq D) X.xe s
theorem cK{α:Type}{t:Sem α}{Q Q' : α->Shared->Prop}{M:Model}{A:Around}{E:di}{s:Shared}(h:wpAny M A t Q E s)(hQ:∀ a s,Q a s->Q' a s):wpAny M A t Q' E s:=wpAny_mono h hQ fun _ _ x=>x
section
variable {X:Cx}
def O4(i:Nat):TE:=fun σ H Q=>∃ v,σ[i]?=some (some v)/\Q v H
def tC(v:V):TE:=fun _ H Q=>Q v H
theorem MA{i:Nat}{x:Str}{pos:Pos}(hN:X.N[i]?=some x)(hv:RB X.env.scope x)(hd:(x==("__debug__":Str))=false:=by decide)(hcd:(x==("__classdict__":Str))=false:=by decide):PE X (.Name x pos) (O4 i):=by
 intro pq s σ H Q I h;obtain⟨v,e,h⟩:=h;obtain⟨m,hn,hl⟩:=I.loc;obtain⟨u,r,l⟩:=hl i x v hN e hv;have fin:EP X pq σ Q u s:=⟨v,H,I,r,h⟩;rcases l with⟨hk,hm⟩|⟨hk,c,hc,hcell⟩
 ·exact wpAny_Name (wpAny_loadName_local I.ok.kind hk hn hm fin) hd
 ·rcases hk with hk|hk
  ·exact wpAny_Name (wpAny_loadName_cell I.ok.kind hk hc hcell fin) hd
  ·exact wpAny_Name (wpAny_loadName_free I.ok.kind hk hc hcell fin hcd) hd
theorem ah{i j pos}:PE X (.Constant (.int i) j pos) (tC (.int i)):=fun _ _ _ H _ I h=>wpAny_Constant_int ⟨.int i,H,I.tok _,⟨_,rfl⟩,h⟩
theorem nX{b j pos}:PE X (.Constant (.bool b) j pos) (tC (.bl b)):=fun _ _ _ H _ I h=>Constant_bool ⟨.bl b,H,I,rfl,h⟩
theorem ni{j pos}:PE X (.Constant .none j pos) (tC .dU):=fun _ _ _ H _ I h=>Constant_none ⟨.dU,H,I,rfl,h⟩
theorem sZ{x j pos}:PE X (.Constant (.str x) j pos) (tC (.str x)):=fun _ _ _ H _ I h=>Calls.Constant_str ⟨.str x,H,I.tok _,⟨_,rfl⟩,h⟩
def Gl(X:Cx)(x:Str):Prop:=X.env.kindOf x=some .globalImplicit
theorem CO{E:di}{pq:aR}{s:Shared}{σ:St}{H:Hp}{x:Str}{u:Value}{pos:Pos}{Q:di}(I:Inv X pq σ H s)(hg:Gl X x)(hm:X.mg x=some u)(h:Q u s)
 (hd:(x==("__debug__":Str))=false:=by decide):wpAny (model X.prog X.w) X.A (eval (.Name x pos) X.env) Q E s :=
 Calls.Name_function_global I.ok.kind hg (Calls.loadGlobal_global (by rw[I.ok.glob];exact I.mod.glob.keeps I.bk) hm h) hd
theorem lq{E:di}{pq:aR}{s:Shared}{σ:St}{H:Hp}{x:Str}{u:Value}{pos:Pos}{Q:di}(I:Inv X pq σ H s)(hg:Gl X x)(hm:X.mg x=none)(hv:bootBuiltins x=some u)(h:Q u s)
 (hn:x≠"__name__":=by decide) (hd:(x==("__debug__":Str))=false:=by decide):wpAny (model X.prog X.w) X.A (eval (.Name x pos) X.env) Q E s:=by
 obtain⟨mb,h1,h2⟩:=I.mod.blt;exact Calls.Name_function_global I.ok.kind hg (Calls.loadGlobal_builtin (by rw[I.ok.glob];exact I.mod.glob.keeps I.bk) hm (by rw[I.ok.blt];exact h1.keeps I.bk) ((h2 x hn).trans hv) h) hd
variable {a b:Expr}{ta tb:TE}{pos:Pos}
def PC(X:Cx)(op:CmpOp)(a b:Expr)(t:TE):Prop :=
 ∀(pq:aR) (s:Shared) (σ:St) (H:Hp) (Q:VK),Inv X pq σ H s->t σ H Q->
  wpAny (model X.prog X.w) X.A (eval a X.env) (fun v s₁=>wpAny (model X.prog X.w) X.A (eval b X.env) (fun u s₂=>wpAny (model X.prog X.w) X.A (compareOp op v u) (EP X pq σ Q) X.xe s₂) X.xe s₁) X.xe s
def tB(t:TE):TT:=fun σ H Q=>t σ H fun x H1=>∃ c,x = .bl c/\Q c H1
theorem MB{op:CmpOp}{t:TE}(h:PC X op a b t)(h1:behindInMarks op b=false:=by first | exact nobehind _ (by decide) (by decide) | rfl):PT X (.Compare a [op] [b] pos) (tB t):=by
 intro pq s σ H Q I hw;refine wpAny_isTrue_Compare1 (cK (h pq s σ H _ I hw) fun v s1 h1=>cK h1 fun u s2 h2=>cK h2 fun c s3 ⟨x,H1,I1,r1,q1⟩=>?_) h1
 obtain⟨d,rfl,q⟩:=q1;cases r1;exact wpAny_truthy_bool ⟨H1,I1,q⟩
theorem fT{e:Expr}{t:TE}(h:PE X e t)(he:∀ whole,isTrue e X.env whole=(do let v←whole;standAt e.pos;holding [v] (truthy v)):=by intro _;rfl):PT X e (tB t):=by
 intro pq s σ H Q I hw;refine isTrue_plain (cK (h pq s σ H _ I hw) fun v s1 ⟨x,H1,I1,r1,q1⟩=>?_) (he _)
 obtain⟨d,rfl,q⟩:=q1;cases r1;exact wpAny_truthy_bool ⟨H1,I1,q⟩
variable {tA RG:TT}{rest:List Expr}
def Sz(t u:TT):TT:=fun σ H Q=>t σ H fun c H1=>if c=true then u σ H1 Q else Q false H1
def Xw(t u:TT):TT:=fun σ H Q=>t σ H fun c H1=>if c=true then Q true H1 else u σ H1 Q
def SA(t:TT):TT:=fun σ H Q=>t σ H fun c H1=>Q (!c) H1
theorem sF(ha:PT X a tA):PW X (.BoolOp .And [a] pos) tA:=by
 intro wh pq s σ H Q I h;refine isTrue_and (cK (ha pq s σ H Q I h) fun c s1 e=>?_)
 cases c with
 | true=>exact isTrue_and_nil e
 | false=>exact e
theorem pO(ha:PT X a tA):PW X (.BoolOp .Or [a] pos) tA:=by
 intro wh pq s σ H Q I h;refine isTrue_or (cK (ha pq s σ H Q I h) fun c s1 e=>?_)
 cases c with
 | false=>exact isTrue_or_nil e
 | true=>exact e
theorem xJ(ha:PT X a tA)(hb:PW X (.BoolOp .And (b::rest) pos) RG):PW X (.BoolOp .And (a::b::rest) pos) (Sz tA RG):=by
 intro wh pq s σ H Q I h;refine isTrue_and (cK (ha pq s σ H _ I h) fun c s1 ⟨H1,I1,q1⟩=>?_)
 cases c with
 | true=>exact hb wh pq s1 σ H1 Q I1 q1
 | false=>exact⟨H1,I1,q1⟩
theorem vY(ha:PT X a tA)(hb:PW X (.BoolOp .Or (b::rest) pos) RG):PW X (.BoolOp .Or (a::b::rest) pos) (Xw tA RG):=by
 intro wh pq s σ H Q I h;refine isTrue_or (cK (ha pq s σ H _ I h) fun c s1 ⟨H1,I1,q1⟩=>?_)
 cases c with
 | true=>exact⟨H1,I1,q1⟩
 | false=>exact hb wh pq s1 σ H1 Q I1 q1
theorem pP(ha:PT X a tA):PT X (.UnaryOp .Not a pos) (SA tA):=by
 intro pq s σ H Q I h;exact isTrue_not (ha pq s σ H (fun c H1=>Q (!c) H1) I h)
def O5(ta tb:TE):TE:=fun σ H Q=>ta σ H fun x H1=>∃ c,x = .bl c/\if c=true then tb σ H1 Q else Q (.bl false) H1
def O6(ta:TE):TE:=fun σ H Q=>ta σ H fun x H1=>∃ c,x = .bl c/\Q (.bl (!c)) H1
theorem A7{op}{t:TE}(h:PE X a t):PE X (.BoolOp op [a] pos) t:=fun pq s σ H Q I hw=>BoolOp_one (h pq s σ H Q I hw)
theorem A8(ha:PE X a ta)(hb:PE X (.BoolOp .And (b::rest) pos) tb):PE X (.BoolOp .And (a::b::rest) pos) (O5 ta tb):=by
 intro pq s σ H Q I h;refine BoolOp_and (cK (ha pq s σ H _ I h) fun v s1 ⟨x,H1,I1,r1,q1⟩=>?_)
 obtain⟨c,rfl,q1⟩:=q1;cases r1;refine wpAny_truthy_bool ?_;cases c with
 | true=>exact hb pq s1 σ H1 Q I1 q1
 | false=>exact⟨.bl false,H1,I1,rfl,q1⟩
theorem MC(ha:PE X a ta):PE X (.UnaryOp .Not a pos) (O6 ta):=by
 intro pq s σ H Q I h;refine UnaryOp_ (cK (ha pq s σ H _ I h) fun v s1 ⟨x,H1,I1,r1,q1⟩=>?_)
 obtain⟨c,rfl,q1⟩:=q1;cases r1;exact not_of (wpAny_truthy_bool ⟨.bl (!c),H1,I1,rfl,q1⟩)
def Xx(t:TT)(ta tb:TE):TE:=fun σ H Q=>t σ H fun c H1=>if c=true then ta σ H1 Q else tb σ H1 Q
theorem ly{c:Expr}(hc:PT X c tA)(ha:PE X a ta)(hb:PE X b tb):PE X (.IfExp c a b pos) (Xx tA ta tb):=by
 intro pq s σ H Q I h;refine wpAny_IfExp (cK (hc pq s σ H _ I h) fun d s1 ⟨H1,I1,q1⟩=>?_)
 cases d with
 | true=>exact ha pq s1 σ H1 Q I1 q1
 | false=>exact hb pq s1 σ H1 Q I1 q1
end
def aK(K:bX)(H:Hp)(a:Addr)(xs:List V):Prop :=
 Rd H a (.lst xs)\/
  ∃(o:Obj) (its:Array Value) (n:Nat),K.lookup a=some o/\o.cls = .type "list"/\o.dict=none/\o.data = .seq its n/\its.size<=sizeLine/\Vals xs its.toList
def aQ(K:bX)(H:Hp)(a:Addr)(xs:List V):Prop :=
 Rd H a (.tup xs)\/
  ∃(o:Obj) (its:Array Value) (n:Nat),K.lookup a=some o/\o.cls = .type "tuple"/\o.data = .seq its n/\its.size<=sizeLine/\Vals xs its.toList
def SD:Value->Option V
 | .none=>some .dU
 | .bool b=>some (.bl b)
 | .int i _=>some (.int i)
 | .str x _=>some (.str x)
 | .bytes b _=>some (.Gb b)
 | .float b _=>some (.Sv b)
 | .ref a=>some (.ref a)
 | .type n=>some (.ty n)
 | _=>none
theorem RelV.abs{x:V}{u:Value}(r:RelV x u):SD u=some x:=by
 cases x with
 | dU=>cases r;rfl
 | bl _=>cases r;rfl
 | int _=>obtain⟨t,rfl⟩:=r;rfl
 | str _=>obtain⟨t,rfl⟩:=r;rfl
 | Gb _=>obtain⟨t,rfl⟩:=r;rfl
 | Sv _=>obtain⟨t,rfl⟩:=r;rfl
 | ref _=>cases r;rfl
 | ty _=>cases r;rfl
theorem RelV.inj{x y:V}{u:Value}(r:RelV x u)(q:RelV y u):x=y:=Option.some.inj (r.abs.symm.trans q.abs)
theorem Vals.inj:∀{xs ys:List V} {us:List Value},Vals xs us->Vals ys us->xs=ys
 | _,_,_,.nil,.nil=>rfl
 | _,_,_,.cons r t,.cons r' t'=>by rw[r.inj r',Vals.inj t t']
section
variable {X:Cx}{pq:aR}{σ:St}{H:Hp}{s:Shared}{a:Addr}{xs ys:List V}
theorem aK.of{K:bX}(h:H a=some (.lst xs)):aK K H a xs:=.inl (.inl h)
theorem aQ.of{K:bX}(h:H a=some (.tup xs)):aQ K H a xs:=.inl (.inl h)
theorem Inv.list(I:Inv X pq σ H s)(h:aK X.K H a xs):∃ its:List Value,Vals xs its/\PlainL s.heap a its.toArray/\xs.length<=sizeLine:=by
 rcases h with h|⟨o,its,n,hk,hc,hd,hs,hz,r⟩
 ·obtain⟨z,its,n,r,e⟩:=h.ok I.hok;exact⟨its,r,⟨_,n,e,rfl,rfl,rfl⟩,z⟩
 ·refine⟨its.toList,r,⟨o,n,I.My a o hk,hc,hd,by simpa using hs⟩,?_⟩
  have e:=r.length;simp only[Array.length_toList]at e
  lia
theorem Inv.tuple(I:Inv X pq σ H s)(h:aQ X.K H a xs):∃ its:List Value,Vals xs its/\IsTup s.heap a its.toArray/\xs.length<=sizeLine:=by
 rcases h with h|⟨o,its,n,hk,hc,hs,hz,r⟩
 ·obtain⟨z,its,r,p⟩:=h.ok I.hok;exact⟨its,r,p,z⟩
 ·refine⟨its.toList,r,⟨o,I.My a o hk,hc,n,by simpa using hs⟩,?_⟩
  have e:=r.length;simp only[Array.length_toList]at e
  lia
theorem Inv.nY(I:Inv X pq σ H s)(h:aK X.K H a xs)(h' : aK X.K H a ys):xs=ys:=by
 obtain⟨its,r,⟨o,n,e,_,_,d⟩,_⟩:=I.list h;obtain⟨its',r',⟨o',n',e',_,_,d'⟩,_⟩:=I.list h';rw[e]at e';cases e';rw[d]at d';injection d' with d1 _
 have:its=its':=by simpa using congrArg Array.toList d1
 subst this;exact r.inj r'
theorem Inv.DY(I:Inv X pq σ H s)(h:aQ X.K H a xs)(h' : aQ X.K H a ys):xs=ys:=by
 obtain⟨its,r,⟨o,e,_,n,d⟩,_⟩:=I.tuple h;obtain⟨its',r',⟨o',e',_,n',d'⟩,_⟩:=I.tuple h';rw[e]at e';cases e';rw[d]at d';injection d' with d1 _
 have:its=its':=by simpa using congrArg Array.toList d1
 subst this;exact r.inj r'
end
abbrev Cx.tu(X:Cx)(E:di):Cx:={ X with xe:=E}
abbrev Cx.A2(X:Cx):Cx:=X.tu fun _ _=>False
theorem Cx.Ok.tu{X:Cx}(ok:X.Ok)(E:di):(X.tu E).Ok :=
 ⟨ok.mod,ok.kind,ok.glob,ok.blt,ok.above,ok.inj,ok.has,ok.OZ,ok.hd,ok.frames,ok.JR,ok.U6,ok.bs,ok.JS,ok.Gf,ok.JT,ok.funs,ok.Mx⟩
theorem Cx.Ok.iT{X:Cx}{E:di}(ok:(X.tu E).Ok):X.Ok :=
 ⟨ok.mod,ok.kind,ok.glob,ok.blt,ok.above,ok.inj,ok.has,ok.OZ,ok.hd,ok.frames,ok.JR,ok.U6,ok.bs,ok.JS,ok.Gf,ok.JT,ok.funs,ok.Mx⟩
section
variable {X:Cx}{pq:aR}{σ:St}{H:Hp}{s:Shared}{E:di}
theorem Inv.tu(I:Inv X pq σ H s)(E:di):Inv (X.tu E) pq σ H s:=⟨I.ok.tu E,I.os,I.bare,I.base,I.loc,I.cell,I.free,I.eZ,I.pin,I.hok,I.len⟩
theorem Inv.iT(I:Inv (X.tu E) pq σ H s):Inv X pq σ H s:=⟨I.ok.iT,I.os,I.bare,I.base,I.loc,I.cell,I.free,I.eZ,I.pin,I.hok,I.len⟩
theorem SP.iT{D:Ends}{f:Flow}{s' : Shared}(h:SP (X.tu E) pq D f s'):SP X pq D f s':=by
 cases f with
 | next=>obtain⟨σ',H',I,q⟩:=h;exact⟨σ',H',I.iT,q⟩
 | brk=>obtain⟨σ',H',I,q⟩:=h;exact⟨σ',H',I.iT,q⟩
 | cont=>obtain⟨σ',H',I,q⟩:=h;exact⟨σ',H',I.iT,q⟩
 | ret u=>obtain⟨v,σ',H',I,r,q⟩:=h;exact⟨v,σ',H',I.iT,r,q⟩
theorem vX.A2{st:List Stmt}{t:TS}(h:vX X.A2 st t):vX X st t:=fun pq s σ H D I hw =>
 wpAny_mono (h pq s σ H D (I.tu _) hw) (fun _ _ q=>q.iT) fun _ _ z=>False.elim z
end
section
variable {X:Cx}{st:Stmt}{rest:List Stmt}{t u:TS}{e:Expr}{te:TE}{pos:Pos}
def bC:TS:=fun D σ H=>D.nx σ H
def Ends.on(D:Ends)(u:TS):Ends:={ D with nx:=u D}
def ay(t u:TS):TS:=fun D σ H=>t (D.on u) σ H
theorem bh:vX X [] bC:=fun _ _ σ H _ I h=>wpAny_execs_nil ⟨σ,H,I,h⟩
theorem aj(h1:PS X st t)(h2:vX X rest u):vX X (st::rest) (ay t u):=by
 intro pq s σ H D I h;refine wpAny_execs_cons (cK (h1 pq s σ H { D with nx:=u D} I h) fun f s1 q=>?_)
 cases f with
 | next =>
   obtain⟨σ',H',I',q⟩:=q;exact h2 pq s1 σ' H' D I' q
 | ret v=>exact q
 | brk=>exact q
 | cont=>exact q
theorem av(h1:PS X st t):vX X [st] t:=by
 intro pq s σ H D I h;refine wpAny_execs_cons (cK (h1 pq s σ H D I h) fun f s1 q=>?_)
 cases f with
 | next=>exact wpAny_execs_nil q
 | ret v=>exact q
 | brk=>exact q
 | cont=>exact q
theorem Inv.quiet{pq:aR}{σ:St}{H:Hp}{s:Shared}(I:Inv X pq σ H s):interactive X.env=false:=by simp[interactive,I.ok.kind]
def O7(te:TE):TS:=fun D σ H=>te σ H fun _ H1=>D.nx σ H1
theorem c8(he:PE X e te)(hs:swapsWith e none pos.line X.env=pure false:=by rfl):PS X (.Expr e pos) (O7 te):=by
 intro pq s σ H D I h;exact wpAny_Expr_any (cK (he pq s σ H _ I h) fun v s1 ⟨x,H1,I1,r1,q1⟩=>⟨σ,H1,I1,q1⟩) I.quiet hs
def SE(te:TE):TS:=fun D σ H=>te σ H D.rt
theorem aH(he:PE X e te):PS X (.Return (some e) pos) (SE te):=by
 intro pq s σ H D I h;exact wpAny_Return_some (cK (he pq s σ H _ I h) fun v s1 ⟨x,H1,I1,r1,q1⟩=>⟨x,σ,H1,I1,r1,q1⟩)
def cE(c:TT)(t u:TS):TS:=fun D σ H=>c σ H fun b H1=>if b=true then t D σ H1 else u D σ H1
theorem cG{c:Expr}{a b:List Stmt}{tc:TT}(hc:PT X c tc)(ha:vX X a t)(hb:vX X b u):PS X (.If c a b pos) (cE tc t u):=by
 intro pq s σ H D I h;refine wpAny_If (cK (hc pq s σ H _ I h) fun d s1 ⟨H1,I1,q1⟩=>?_)
 cases d with
 | true=>exact ha pq s1 σ H1 D I1 q1
 | false=>exact hb pq s1 σ H1 D I1 q1
def MD:TS:=fun _ _ _=>False
theorem vZ{sts:List Stmt}:vX X sts MD:=fun _ _ _ _ _ _ h=>h.elim
end
abbrev TG:=V->St->Hp->(St->Hp->Prop)->Prop
abbrev Jy:=List V->St->Hp->(St->Hp->Prop)->Prop
def PG(X:Cx)(target:Expr)(t:TG):Prop :=
 ∀(pq:aR) (s:Shared) (σ:St) (H:Hp) (v:V) (u:Value) (Q:St->Hp->Prop),Inv X pq σ H s->RelV v u->t v σ H Q->
  wpAny (model X.prog X.w) X.A (assign target X.env u) (fun _ s'=>∃ σ' H',Inv X pq σ' H' s'/\Q σ' H') X.xe s
def Oo(X:Cx)(ts:List Expr)(t:Jy):Prop :=
 ∀(pq:aR) (s:Shared) (σ:St) (H:Hp) (vs:List V) (us:List Value) (Q:St->Hp->Prop),Inv X pq σ H s->Vals vs us->t vs σ H Q->
  wpAny (model X.prog X.w) X.A (assignInOrder ((assignEach ts X.env).map (·.2)) us) (fun _ s'=>∃ σ' H',Inv X pq σ' H' s'/\Q σ' H') X.xe s
abbrev Gh:=V->V->V->Hp->(Hp->Prop)->Prop
def ME(X:Cx)(t:Gh):Prop :=
 ∀(pq:aR) (s:Shared) (σ:St) (H:Hp) (o i v:V) (ov iv u:Value) (Q:Hp->Prop),Inv X pq σ H s->RelV o ov->RelV i iv->RelV v u->t o i v H Q->
  wpAny (model X.prog X.w) X.A (setItem ov iv u) (fun _ s'=>∃ H',Inv X pq σ H' s'/\Q H') X.xe s
abbrev O8:=V->V->Hp->VK->Prop
def Va(X:Cx)(op:Operator)(t:O8):Prop :=
 ∀(pq:aR) (s:Shared) (σ:St) (H:Hp) (x y:V) (v u:Value) (Q:VK),Inv X pq σ H s->RelV x v->RelV y u->t x y H Q->
  wpAny (model X.prog X.w) X.A (inplaceOp op v u) (EP X pq σ Q) X.xe s
section
variable {X:Cx}{pos:Pos}
def Gi(i:Nat):TG:=fun v σ H Q=>Q (σ.set i (some v)) H
theorem xK{i:Nat}{x:Str}(hN:X.N.Nodup)(hi:X.N[i]?=some x)(hx:Loc X.env.scope x)(hf:X.fn x=true\/X.env.scope.names.lookup x=some .local:=by first | exact .inl rfl | exact .inr rfl | assumption):PG X (.Name x pos) (Gi i):=by
 intro pq s σ H v u Q I r h;exact wpAny_assign_Name (nW I hN hi hx r (fun s' I'=>⟨_,H,I',h⟩) hf)
def SG:Jy:=fun vs σ H Q=>vs=[]/\Q σ H
def O9(t:TG)(u:Jy):Jy:=fun vs σ H Q=>∃ v r,vs=v::r/\t v σ H fun σ' H'=>u r σ' H' Q
theorem fU:Oo X [] SG:=by
 intro pq s σ H vs us Q I r h;obtain⟨e,h⟩:=h;subst e;cases r;exact assignInOrder_nil ⟨σ,H,I,h⟩
theorem aV{e:Expr}{es:List Expr}{t:TG}{u:Jy}(h1:PG X e t)(h2:Oo X es u)
 (hs:(assignEach (e::es) X.env).map (·.2)=assign e X.env::(assignEach es X.env).map (·.2):=by rfl):Oo X (e::es) (O9 t u):=by
 intro pq s σ H vs us Q I r h;obtain⟨v,vr,e1,h⟩:=h;subst e1;cases r with
 | cons r rr =>
   rw[hs];refine assignInOrder_cons (cK (h1 pq s σ H _ _ _ I r h) fun _ s1 ⟨σ1,H1,I1,q1⟩=>?_)
   exact h2 pq s1 σ1 H1 _ _ Q I1 rr q1
def Pa(K:bX)(n:Nat)(t:Jy):TG:=fun v σ H Q=>∃ a xs,v = .ref a/\aQ K H a xs/\xs.length=n/\t xs σ H Q
theorem MF{es:List Expr}{k:Nat}{t:Jy}{n:Nat}(hc:X.calm=true)(h:Oo X es t)
 (hn:(assignEach es X.env).length=n:=by rfl) (hst:(assignEach es X.env).findIdx? (·.1)=none:=by rfl):PG X (.Tuple es k pos) (Pa X.K n t):=by
 intro pq s σ H v u Q I r hw;obtain⟨a,xs,e1,hq,hl,hw⟩:=hw;subst e1;cases r;obtain⟨its,rv,ht,hz⟩:=I.tuple hq;refine assign_Tuple_tuple (I.ok.hd hc) ht (by simp[hn,<-hl,rv.length]) hst fun h' hx=>?_
 have I1:Inv X pq σ H { s with heap:=h'}:=I.kept (t':=s.toks) fun b o e=>hx b o (Nat.ne_of_lt (Heap.lt_size e)) e
 exact h pq _ σ H xs _ Q I1 (by simpa using rv) hw
def SH(to ti:TE)(t:Gh):TG:=fun v σ H Q=>to σ H fun o H1=>ti σ H1 fun i H2=>t o i v H2 fun H3=>Q σ H3
theorem xM{o i:Expr}{to ti:TE}{t:Gh}(ho:PE X o to)(hi:PE X i ti)(hs:ME X t)
 (ha:∀ v,assign (.Subscript o i pos) X.env v=(do
  let ov←holding [v] (eval o X.env)
  let iv←holding [v,ov] (eval i X.env)
  standAt pos
  holding [v,ov,iv] (setItem ov iv v)
  release [v,ov,iv] []):=by intro _;rfl):PG X (.Subscript o i pos) (SH to ti t):=by
 intro pq s σ H v u Q I r h;rw[ha];refine aP (wpAny_holding (cK (ho pq s σ H _ I h) fun ov s1 ⟨x,H1,I1,r1,q1⟩=>?_))
 refine aP (wpAny_holding (cK (hi pq s1 σ H1 _ I1 q1) fun iv s2 ⟨y,H2,I2,r2,q2⟩=>?_))
 refine aP (wpAny_standAt (aP (wpAny_holding (cK (hs pq s2 σ H2 x y v ov iv u _ I2 r1 r2 r q2) fun _ s3 ⟨H3,I3,q3⟩=>?_))))
 exact wpAny_release ⟨σ,H3,I3,q3⟩
def Pb(te:TE)(g:TG):TS:=fun D σ H=>te σ H fun x H1=>g x σ H1 D.nx
theorem tw{tg e:Expr}{te:TE}{g:TG}(he:PE X e te)(hg:PG X tg g)(hs:swapsWithSole [tg] e pos.line X.env=pure false:=by rfl)(hw:swappedStores [tg] e X.env=pure none:=by rfl)
 (h1:(assignEach [tg] X.env).map (·.2)=[assign tg X.env]:=by rfl):PS X (.Assign [tg] e pos) (Pb te g):=by
 intro pq s σ H D I h;refine wpAny_Assign_stores (cK (he pq s σ H _ I h) fun v s1 ⟨x,H1,I1,r1,q1⟩=>?_) hs hw
 rw[h1];exact cK (hg pq s1 σ H1 x v _ I1 r1 q1) fun _ s2 q=>q
theorem aC{i:Nat}{x:Str}{e:Expr}{te:TE}{pos' : Pos}(hN:X.N.Nodup)(hi:X.N[i]?=some x)(hx:Loc X.env.scope x)(he:PE X e te)(hs:swapsWith e (some (.Name x pos')) pos.line X.env=pure false:=by rfl)(hf:X.fn x=true\/X.env.scope.names.lookup x=some .local:=by first | exact .inl rfl | exact .inr rfl | assumption):
 PS X (.Assign [.Name x pos'] e pos) (Pb te (Gi i)):=by
 intro pq s σ H D I h;refine wpAny_Assign_Name (cK (he pq s σ H _ I h) fun v s1 ⟨y,H1,I1,r1,q1⟩=>?_) hs
 exact nW I1 hN hi hx r1 (fun s2 I2=>⟨_,H1,I2,q1⟩) hf
def SJ(i:Nat)(te:TE)(ti:O8):TS:=fun D σ H=>∃ x,σ[i]?=some (some x)/\te σ H fun y H1=>ti x y H1 fun z H2=>D.nx (σ.set i (some z)) H2
theorem xN{i:Nat}{x:Str}{e:Expr}{te:TE}{op:Operator}{ti:O8}{pos' : Pos}(hN:X.N.Nodup)(hi:X.N[i]?=some x)(hx:Loc X.env.scope x)(he:PE X e te)(ho:Va X op ti)(hf:X.fn x=true\/X.env.scope.names.lookup x=some .local:=by first | exact .inl rfl | exact .inr rfl | assumption):
 PS X (.AugAssign (.Name x pos') op e pos) (SJ i te ti):=by
 intro pq s σ H D I h;obtain⟨v,e1,h⟩:=h;obtain⟨m,hn,hl⟩:=I.loc;have Xy:RB X.env.scope x:=by rcases hx with k | k;exact .inl k;exact .inr (.inl k)
 obtain⟨u,r,l⟩:=hl i x v hi e1 Xy;refine wpAny_AugAssign_Name ?_;have go:wpAny (model X.prog X.w) X.A (eval e X.env) (fun w s₂=>wpAny (model X.prog X.w) X.A (inplaceOp op u w) (fun r s₃=>wpAny (model X.prog X.w) X.A (storeName X.env x r) (fun _=>SP X pq D .next) X.xe s₃) X.xe s₂) X.xe s:=by
  refine cK (he pq s σ H _ I h) fun w s1 ⟨y,H1,I1,r1,q1⟩=>?_
  refine cK (ho pq s1 σ H1 v y u w _ I1 r r1 q1) fun z s2 ⟨zv,H2,I2,r2,q2⟩=>?_
  exact nW I2 hN hi hx r2 (fun s3 I3=>⟨_,H2,I3,q2⟩) hf
 rcases l with⟨hk,hm⟩|⟨hk,c,hc,hcell⟩
 ·exact wpAny_loadName_local I.ok.kind hk hn hm go
 ·rcases hk with hk|hk
  ·exact wpAny_loadName_cell I.ok.kind hk hc hcell go
  ·rcases hx with k|k
   ·have:X.env.scope.names.lookup x=some .free:=hk;rw[k]at this;cases this
   ·have:X.env.scope.names.lookup x=some .free:=hk;rw[k]at this;cases this
def Pc(to ti te:TE)(JU:V->V->Hp->VK->Prop)(RH:O8)(JV:Gh):TS:=fun D σ H=>to σ H fun o H1=>ti σ H1 fun i H2=>JU o i H2 fun x H3=>te σ H3 fun y H4=>RH x y H4 fun z H5=>JV o i z H5 fun H6=>D.nx σ H6
def Pd(X:Cx)(t:V->V->Hp->VK->Prop):Prop :=
 ∀(pq:aR) (s:Shared) (σ:St) (H:Hp) (o i:V) (ov iv:Value) (Q:VK),Inv X pq σ H s->RelV o ov->RelV i iv->t o i H Q->
  wpAny (model X.prog X.w) X.A (getItem ov iv) (EP X pq σ Q) X.xe s
theorem CP{o i e:Expr}{to ti te:TE}{JU:V->V->Hp->VK->Prop}{RH:O8}{JV:Gh}{op:Operator}{tpos:Pos}(ho:PE X o to)(hi:PE X i ti)(hg:Pd X JU)(he:PE X e te)(hp:Va X op RH)(hs:ME X JV)
 (ha:∀ ov iv new,augStore i ov iv new=(do holding [new,ov,iv] (setItem ov iv new);release [new,ov,iv] [];pure .next):=by intros;rfl):PS X (.AugAssign (.Subscript o i tpos) op e pos) (Pc to ti te JU RH JV):=by
 intro pq s σ H D I h;refine wpAny_AugAssign_SubscriptAny (cK (ho pq s σ H _ I h) fun ov s1 ⟨x1,H1,I1,r1,q1⟩=>?_) ha
 refine cK (hi pq s1 σ H1 _ I1 q1) fun iv s2 ⟨x2,H2,I2,r2,q2⟩=>?_
 refine cK (hg pq s2 σ H2 x1 x2 ov iv _ I2 r1 r2 q2) fun old s3 ⟨x3,H3,I3,r3,q3⟩=>?_
 refine cK (he pq s3 σ H3 _ I3 q3) fun v s4 ⟨x4,H4,I4,r4,q4⟩=>?_
 refine cK (hp pq s4 σ H4 x3 x4 old v _ I4 r3 r4 q4) fun new s5 ⟨x5,H5,I5,r5,q5⟩=>?_
 exact cK (hs pq s5 σ H5 x1 x2 x5 ov iv new _ I5 r1 r2 r5 q5) fun _ s6 ⟨H6,I6,q6⟩=>⟨σ,H6,I6,q6⟩
def nj(c:TT)(tb:TS):TS:=fun D σ H=>∃ W:Nat->St->Hp->Prop,(∃ m,W m σ H)/\∀ m σ H,W m σ H->
 c σ H fun b H1=>if b=true then ∃ N:St->Hp->Prop,(∀ σ' H',N σ' H'->∃ m',m'<m/\W m' σ' H')/\tb { D with nx:=N,ct:=N,bk:=D.nx} σ H1 else D.nx σ H1
theorem tD{c:Expr}{body:List Stmt}{tc:TT}{tb:TS}(hp:PassesOwn (model X.prog X.w) X.A X.env X.xe)(hc:PT X c tc)(hb:vX X body tb):PS X (.While c body [] pos) (nj tc tb):=by
 intro pq s σ H D I h;obtain⟨W,⟨m0,w0⟩,turn⟩:=h;refine wpAny_While (codeAny_whileLoop (fun n s'=>∃ σ' H',Inv X pq σ' H' s'/\W n σ' H') ?_ m0 ⟨σ,H,I,w0⟩)
 rintro n s1 ⟨σ1,H1,I1,w1⟩;refine wpAny_passesOwn hp (cK (hc pq s1 σ1 H1 _ I1 (turn n σ1 H1 w1)) fun b s2 ⟨H2,I2,q2⟩=>?_)
 cases b with
 | true =>
   obtain⟨N,hN,q2⟩:=q2;rw[if_pos rfl];refine wpAny_passesOwn hp (cK (hb pq s2 σ1 H2 _ I2 q2) fun f s3 q3=>?_)
   cases f with
   | next =>
     obtain⟨σ3,H3,I3,n3⟩:=q3;obtain⟨m',hm,w3⟩:=hN σ3 H3 n3;exact⟨m',hm,σ3,H3,I3,w3⟩
   | cont =>
     obtain⟨σ3,H3,I3,n3⟩:=q3;obtain⟨m',hm,w3⟩:=hN σ3 H3 n3;exact⟨m',hm,σ3,H3,I3,w3⟩
   | brk=>exact q3
   | ret v=>exact q3
 | false =>
   rw[if_neg Bool.false_ne_true];exact wpAny_execs_nil ⟨σ1,H2,I2,q2⟩
end
structure It where
 go:Nat->Hp->Prop
 Jz:Nat->Hp->V->Hp->Prop
 stop:Nat->Hp->Prop
def nk(X:Cx)(pq:aR)(H:Hp)(b:Addr):Prop :=
 H b=none/\b≠X.env.locals/\b∉X.fs/\(b∈X.ex\/X.s₀.heap.objs.size<=b)/\(∀ x c,X.env.cells.lookup x=some c->c≠b)/\∀ p∈X.pn++pq,p.1≠b
theorem Inv.DZ{X:Cx}{pq:aR}{σ:St}{H H' : Hp}{s:Shared}{b:Addr}(I:Inv X pq σ H s)(hb:s.heap.objs.size<=b)(hn:H' b=none):nk X pq H' b:=by
 refine⟨hn,Nat.ne_of_gt (Nat.lt_of_lt_of_le I.lt hb),I.O0 hb,.inr (Nat.le_trans I.sz hb),fun x c e z=>?_,fun p hp z=>?_⟩
 ·obtain⟨v,q⟩:=I.cell x c e;exact absurd (Nat.lt_of_lt_of_le q.lt (by rw[z];exact hb)) (Nat.lt_irrefl _)
 ·exact absurd (Nat.lt_of_lt_of_le (Heap.lt_size (I.pin p hp).1) (by rw[z];exact hb)) (Nat.lt_irrefl _)
structure Turn(P:Program)(w:World)(K:bX)(tg:Expr)(J:It)(fp:List Addr)(it:Addr)(tn:Nat->Heap->Prop):Prop where
 mem:it∈fp
 obj:∀ i h,tn i h->∀ b∈fp,∃ o,h.get? b=some o/\∀ v,o.data≠.cell v
 keep:∀ i h h',tn i h->(∀ b∈fp,∀ o,h.get? b=some o->h'.get? b=some o)->tn i h'
 item:∀(X:Cx),X.prog=P->X.w=w->X.K=K->X.calm=true->∀(i:Nat) (pq:aR) (s:Shared) (σ:St) (H:Hp) (E:di),Inv X pq σ H s->(∀ b∈fp,nk X pq H b)->tn i s.heap->J.go i H->
  wpAny (model P w) X.A (pyNext (.ref it)) (fun r s1=>∃ u,r=some u/\
   wpAny (model P w) X.A (letOwnedTupleGo tg (.ref it) u) (fun _ s2=>∃ x H',Inv X pq σ H' s2/\RelV x u/\J.Jz i H x H'/\tn (i+1) s2.heap/\∀ b∈fp,H' b=none) E s1) E s
 done:∀(X:Cx),X.prog=P->X.w=w->X.K=K->X.calm=true->∀(i:Nat) (pq:aR) (s:Shared) (σ:St) (H:Hp) (E:di),Inv X pq σ H s->(∀ b∈fp,nk X pq H b)->tn i s.heap->J.stop i H->
  wpAny (model P w) X.A (pyNext (.ref it)) (fun r s1=>r=none/\Inv X pq σ H s1) E s
 self:∀(A:Around) (i:Nat) (s:Shared) (Q:di) (E:di),tn i s.heap->Q (.ref it) s->wpAny (model P w) A (pyIter (.ref it)) Q E s
abbrev TI:=St->Hp->(It->Hp->Prop)->Prop
def Vb(X:Cx)(pq:aR)(σ:St)(tg:Expr)(R:It->Hp->Prop)(itv:Value)(s2:Shared):Prop :=
 ∃(it:Addr) (fp:List Addr) (tn:Nat->Heap->Prop) (J:It) (H' : Hp),itv = .ref it/\Inv X pq σ H' s2/\Turn X.prog X.w X.K tg J fp it tn/\tn 0 s2.heap/\(∀ b∈fp,nk X pq H' b)/\R J H'
def PI(X:Cx)(tg iter:Expr)(wi:TI):Prop :=
 ∀(pq:aR) (s:Shared) (σ:St) (H:Hp) (R:It->Hp->Prop),Inv X pq σ H s->wi σ H R->
  wpAny (model X.prog X.w) X.A (eval iter X.env) (fun v s1=>wpAny (model X.prog X.w) X.A (pyIter v) (Vb X pq σ tg R) X.xe s1) X.xe s
theorem LJ{M:Model}{A:Around}{E:di}{s:Shared}{tg:Expr}{it:Addr}{u:Value}{o:Obj}{n:String}{vs:Array Value}{Q:Unit->Shared->Prop}(ho:s.heap.get? it=some o)(hc:o.cls = .type n)(hd:o.data = .fields vs)
 (hn:["enumerate","zip","dict_itemiterator","dict_reverseitemiterator","odict_iterator","itertools.zip_longest","itertools.pairwise"].contains n=false) (hQ:Q () s):wpAny M A (letOwnedTupleGo tg (.ref it) u) Q E s:=by
 unfold letOwnedTupleGo;cases tg<;>first
  | exact wpAny_pure hQ
  | (cases u<;>first
   | exact wpAny_pure hQ
   | (refine aP (wpAny_load ho ?_)
      rw[hc,hd];show wpAny M A (if(["enumerate","zip","dict_itemiterator","dict_reverseitemiterator","odict_iterator","itertools.zip_longest","itertools.pairwise"].contains n&&vs[0]? == some (rawInt _))=true then _ else _) Q E s
      rw[if_neg (by intro h;rw[hn,Bool.false_and]at h;cases h)]
      exact wpAny_pure hQ))
def JW(K:bX)(a:Addr):It :=
 ⟨fun i H=>∃ xs x,aK K H a xs/\xs[i]?=some x,fun i H x H'=>H' = H/\∀ xs,aK K H a xs->xs[i]?=some x,fun i H=>∃ xs,aK K H a xs/\xs.length<=i⟩
def JA(lo:Int)(n:Nat):It:=⟨fun i _=>i<n,fun i H x H'=>H' = H/\x = .int (lo+i),fun i _=>n<=i⟩
theorem D0{P:Program}{w:World}{K:bX}{tg:Expr}(a it:Addr):Turn P w K tg (JW K a) [it] it (fun i h=>h.IsListIter it a i) where
 mem:=by simp
 obj:=fun i h st b hb=>by
  have e:b=it:=by simpa using hb
  subst e;obtain⟨o,e,c,d⟩:=st;exact⟨o,e,fun v z=>by rw[d]at z;cases z⟩
 keep:=fun i h h' st k=>st.at fun o e=>k it (by simp) o e
 item:=by
  intro X hP hw hK hc i pq s σ H E I hf st hg;subst hP hw hK;obtain⟨xs,x,hq,hx⟩:=hg;obtain⟨its,rv,p,hz⟩:=I.list hq;obtain⟨u,hu,ru⟩:=rv.get hx;obtain⟨f0,f1,f2,f3,f4,f5⟩:=hf it (by simp)
  refine wpAny_pyNext_list_item st p.isList (x:=u) (by simpa using hu) fun h' st' sb=>?_
  have I1:Inv X pq σ H { s with heap:=h'}:=I.turned (t':=s.toks) (fun b o hb e=>(sb.2 b hb).trans e) f0 f1 f3 f4 f5
  obtain⟨o,e,c,d⟩:=id st';exact⟨u,rfl,LJ (s:={ s with heap:=h'}) e c d (by decide) ⟨x,H,I1,ru,⟨rfl,fun ys hy=>by rw[I.nY hy hq];exact hx⟩,st',fun b hb=>(hf b hb).1⟩⟩
 done:=by
  intro X hP hw hK hc i pq s σ H E I hf st hg;subst hP hw hK;obtain⟨xs,hq,hx⟩:=hg;obtain⟨its,rv,p,hz⟩:=I.list hq;obtain⟨f0,f1,f2,f3,f4,f5⟩:=hf it (by simp)
  have hl:=rv.length;exact wpAny_pyNext_list_end (I.ok.hd hc) st p.isList (by simp;lia) fun h' eb=>⟨rfl,I.turned (t':=s.toks) (fun b o hb e=>eb b o hb e) f0 f1 f3 f4 f5⟩
 self:=fun _ _ _ _ _ st h=>wpAny_pyIter_listiter st h
theorem A9{P:Program}{w:World}{K:bX}{tg:Expr}(it:Addr)(lo:Int)(n:Nat):Turn P w K tg (JA lo n) [it] it (fun i h=>IsRangeIter h it (lo+(i:Nat)*1) ((n:Int)-(i:Nat)) 1) where
 mem:=by simp
 obj:=fun i h st b hb=>by
  have e:b=it:=by simpa using hb
  subst e;exact⟨_,st,fun v z=>by
   have z' : Data.fields _=Data.cell v:=z;cases z'⟩
 keep:=fun i h h' st k=>k it (by simp) _ st
 item:=by
  intro X hP hw hK hc i pq s σ H E I hf st hg;subst hP hw hK;obtain⟨f0,f1,f2,f3,f4,f5⟩:=hf it (by simp)
  have W:=Walks.range (prog:=X.prog) (w:=X.w) (I.ok.hd hc) it lo 1 n;refine W.item i s _ _ hg st fun v h' tk hv st' kk=>?_
  obtain⟨t,rfl⟩:=hv;have I1:Inv X pq σ H { s with heap:=h',toks:=tk}:=I.turned (fun b o hb e=>kk b o (by simpa using hb) e) f0 f1 f3 f4 f5
  refine⟨_,rfl,LJ (s:={ s with heap:=h',toks:=tk}) (n:="range_iterator") st' rfl rfl (by decide) ⟨.int (lo+i),H,I1,⟨t,?_⟩,⟨rfl,rfl⟩,st',fun b hb=>(hf b hb).1⟩⟩
  rw[Int.mul_one]
 done:=by
  intro X hP hw hK hc i pq s σ H E I hf st hg;subst hP hw hK;obtain⟨f0,f1,f2,f3,f4,f5⟩:=hf it (by simp)
  exact wpAny_pyNext_range_end (I.ok.hd hc) st (by have:n<=i:=hg;lia) fun h' eb=>⟨rfl,I.turned (t':=s.toks) (fun b o hb e=>eb b o hb e) f0 f1 f3 f4 f5⟩
 self:=fun _ _ _ _ _ st h=>wpAny_pyIter_rangeiter st h
section
variable {X:Cx}{tg:Expr}
def LK(K:bX)(tl:TE):TI:=fun σ H R=>tl σ H fun x H1=>∃ a,x = .ref a/\(∃ xs,aK K H1 a xs)/\R (JW K a) H1
theorem JX{l:Expr}{tl:TE}(hl:PE X l tl):PI X tg l (LK X.K tl):=by
 intro pq s σ H R I h;refine cK (hl pq s σ H _ I h) fun v s1 ⟨x,H1,I1,r1,q1⟩=>?_
 obtain⟨a,e,⟨xs,hq⟩,q⟩:=q1;subst e;cases r1;obtain⟨its,rv,p,hz⟩:=I1.list hq;refine wpAny_pyIter_list p.isList ?_;refine⟨s1.heap.objs.size,[s1.heap.objs.size],_,_,H1,rfl,I1.kept (t':=s1.toks) fun b o e=>Heap.get?_push_of_some _ e,D0 a _,⟨_,Heap.get?_push_size _ rfl,rfl,rfl⟩,fun b hb=>?_,q⟩
 have e:b=s1.heap.objs.size:=by simpa using hb
 subst e;exact I1.DZ (Nat.le_refl _) (I1.hok.fresh (Nat.le_refl _))
theorem Gj{pq:aR}{σ:St}{H:Hp}{s:Shared}{R:It->Hp->Prop}{E:di}{lo hi:Int}{t u v:Tok}{tk:Nat}(I:Inv X pq σ H s)(h1 : -(2^62)<=lo)(h2:lo<2^62)(h3 : -(2^62)<=hi)(h4:hi<2^62)
 (q:R (JA lo (hi-lo).toNat) H):wpAny (model X.prog X.w) X.A (pyIter (.ref s.heap.objs.size)) (Vb X pq σ tg R) E { s with heap:=s.heap.push { cls:=.type "range",data:=.fields #[.int lo t,.int hi u,.int 1 v]},toks:=tk}:=by
 refine wpAny_pyIter_range (IsRange.new ..) (small_one h1 h2 h3 h4) ?_;have I1:Inv X pq σ H { s with heap:=s.heap.push { cls:=.type "range",data:=.fields #[.int lo t,.int hi u,.int 1 v]},toks:=tk}:=I.kept fun b o e=>Heap.get?_push_of_some _ e
 refine⟨(s.heap.push { cls:=.type "range",data:=.fields #[.int lo t,.int hi u,.int 1 v]}).objs.size,[(s.heap.push { cls:=.type "range",data:=.fields #[.int lo t,.int hi u,.int 1 v]}).objs.size],_,_,H,rfl,
  I1.kept (t':=tk) fun b o e=>Heap.get?_push_of_some _ e,A9 _ lo (hi-lo).toNat,?_,fun b hb=>?_,q⟩
 ·have e1:lo+((0:Nat):Int)*1=lo:=by simp
  have e2:(((hi-lo).toNat:Nat):Int)-((0:Nat):Int)=Builtin.Range.rangeSize lo hi 1:=by rw[rangeSize_one];split<;>lia
  show IsRangeIter _ _ (lo+((0:Nat):Int)*1) ((((hi-lo).toNat:Nat):Int)-((0:Nat):Int)) 1;rw[e1,e2];exact Heap.get?_push_size _ rfl
 ·have e:b=(s.heap.push { cls:=.type "range",data:=.fields #[.int lo t,.int hi u,.int 1 v]}).objs.size:=by simpa using hb
  subst e;exact I1.DZ (Nat.le_refl _) (I1.hok.fresh (Nat.le_refl _))
def Pe(ta:TA):TI:=fun σ H R=>ta σ H fun vs H1=>∃ j:Int,vs=[.int j]/\-(2^62)<=j/\j<2^62/\R (JA 0 j.toNat) H1
theorem aX{a:Expr}{ta:TA}{p pos:Pos}(hg:Gl X "range")(hm:X.mg "range"=none)(ha:PA X [a] ta)(hs:starEach [a] X.env=[(false,eval a X.env)]:=by rfl):PI X tg (.Call (.Name "range" p) [a] [] pos) (Pe ta):=by
 intro pq s σ H R I h;refine Call_ (lq I hg hm boot_range (PyProof.Rows.callWith_type1 (cK (ha pos pq s σ H _ I h) fun us s1 ⟨vs,H1,I1,r1,q1⟩=>?_) hs rfl))
 obtain⟨j,e,q1,q2,q⟩:=q1;subst e;cases r1 with
 | cons r rr =>
   cases rr;obtain⟨t,rfl⟩:=r;exact call_range_1 (Gj I1 (by lia) (by lia) q1 q2 (by simpa using q))
def eG(wi:TI)(g:TG)(tb:TS):TS:=fun D σ H=>wi σ H fun J H1=>∃ W:Nat->Nat->St->Hp->Prop,(∃ m,W 0 m σ H1)/\∀ i m σ H,W i m σ H->
 (J.stop i H/\D.nx σ H)\/(J.go i H/\∃ N:St->Hp->Prop,(∀ σ' H',N σ' H'->∃ m',m'<m/\W (i+1) m' σ' H')/\∀ x H',J.Jz i H x H'->g x σ H' fun σ2 H2=>tb { D with nx:=N,ct:=N,bk:=D.nx} σ2 H2)
def pQ(fp:List Addr)(h:Heap):aR:=fp.filterMap fun b=>(h.get? b).map fun o=>(b,o)
theorem gA{fp:List Addr}{h:Heap}{b:Addr}{o:Obj}(hb:b∈fp)(e:h.get? b=some o):(b,o)∈pQ fp h:=List.mem_filterMap.mpr ⟨b,hb,by rw[e];rfl⟩
theorem D3{fp:List Addr}{h:Heap}{p:Addr×Obj}(hp:p∈pQ fp h):p.1∈fp/\h.get? p.1=some p.2:=by
 obtain⟨b,hb,e⟩:=List.mem_filterMap.mp hp;cases q:h.get? b with
 | none=>rw[q]at e;cases e
 | some o =>
   rw[q]at e;have e' : (b,o)=p:=Option.some.inj e;subst e';exact⟨hb,q⟩
theorem Inv.pinned{pq:aR}{σ:St}{H:Hp}{s:Shared}{fp:List Addr}(I:Inv X pq σ H s)(hf:∀ b∈fp,nk X pq H b)(ho:∀ b∈fp,∃ o,s.heap.get? b=some o/\∀ v,o.data≠.cell v):Inv X (pq++pQ fp s.heap) σ H s :=
 I.fR fun p hp=>(List.mem_append.mp hp).elim (fun z=>I.pin p (gZ _ z)) fun z=>by
  obtain⟨hb,e⟩:=D3 z;obtain⟨f0,f1,f2,_⟩:=hf p.1 hb;obtain⟨o,e',d⟩:=ho p.1 hb;rw[e]at e';cases e';exact⟨e,f0,f1,f2,d⟩
theorem Inv.iU{pq pl:aR}{σ:St}{H:Hp}{s:Shared}(I:Inv X (pq++pl) σ H s):Inv X pq σ H s:=I.fR fun p hp=>I.pin p (gZ _ (vV _ hp))
theorem dN{iter:Expr}{body:List Stmt}{wi:TI}{g:TG}{tb:TS}{pos:Pos}(hp:PassesOwn (model X.prog X.w) X.A X.env X.xe)(hc:X.calm=true)(hi:PI X tg iter wi)(hg:PG X tg g)(hb:vX X body tb)
 (hs:∀ x,foldedSetIterable iter X.env x=pure x:=by intro _;rfl):PS X (.For tg iter body [] pos) (eG wi g tb):=by
 intro pq s σ H D I h;refine wpAny_For (cK (hi pq s σ H _ I h) fun v s1 h1=>cK h1 fun itv s2 h2=>?_) hs
 obtain⟨it,fp,tn,J,H2,e,I2,T,st2,f2,W,⟨m0,w0⟩,turn⟩:=h2;subst e;have Ba:∀{H' : Hp},(∀ b∈fp,H' b=none)->∀ b∈fp,nk X pq H' b:=fun hn b hb=>⟨hn b hb,(f2 b hb).2⟩
 refine codeAny_forLoop_any (fun n s'=>∃ i σ' H',Inv X pq σ' H' s'/\tn i s'.heap/\(∀ b∈fp,H' b=none)/\W i n σ' H') ?_ m0 ⟨0,σ,H2,I2,st2,fun b hb=>(f2 b hb).1,w0⟩
 rintro n s3 ⟨i,σ3,H3,I3,st3,LM,w3⟩;rcases turn i n σ3 H3 w3 with⟨stop,qn⟩|⟨go,N,hN,step⟩
 ·refine wpAny_passesOwn hp (cK (T.done X rfl rfl rfl hc i pq s3 σ3 H3 X.xe I3 (Ba LM) st3 stop) fun r s4 ⟨hr,I4⟩=>?_)
  subst hr;exact wpAny_execs_nil ⟨σ3,H3,I4,qn⟩
 ·refine wpAny_passesOwn hp (cK (T.item X rfl rfl rfl hc i pq s3 σ3 H3 X.xe I3 (Ba LM) st3 go) fun r s4 ⟨u,hr,h4⟩=>?_)
  subst hr;refine wpAny_passesOwn hp (cK h4 fun _ s5 ⟨x,H5,I5,r5,y5,Gk,Pf⟩=>?_)
  have Pg:=I5.pinned (Ba Pf) (T.obj _ _ Gk);refine wpAny_passesOwn hp (cK (hg _ s5 σ3 H5 x u _ Pg r5 (step x H5 y5)) fun _ s6 ⟨σ6,H6,I6,q6⟩=>?_)
  refine wpAny_passesOwn hp (cK (hb _ s6 σ6 H6 _ I6 q6) fun f s7 q7=>?_)
  have again:∀{σ7:St} {H7:Hp},Inv X (pq++pQ fp s5.heap) σ7 H7 s7->N σ7 H7->∃ m,m<n/\∃ i σ' H',Inv X pq σ' H' s7/\tn i s7.heap/\(∀ b∈fp,H' b=none)/\W i m σ' H':=fun {σ7 H7} I7 n7=>by
   obtain⟨m',hm,w7⟩:=hN σ7 H7 n7;refine⟨m',hm,i+1,σ7,H7,I7.iU,T.keep _ _ _ Gk fun b hb o e=>(I7.pin (b,o) (gZ _ (gZ _ (gA hb e)))).1,fun b hb=>?_,w7⟩
   obtain⟨o,e,d⟩:=T.obj _ _ Gk b hb;exact(I7.pin (b,o) (gZ _ (gZ _ (gA hb e)))).2.1
  cases f with
  | next=>obtain⟨σ7,H7,I7,n7⟩:=q7;exact again I7 n7
  | cont=>obtain⟨σ7,H7,I7,n7⟩:=q7;exact again I7 n7
  | brk=>obtain⟨σ7,H7,I7,q7⟩:=q7;exact⟨σ7,H7,I7.iU,q7⟩
  | ret v=>obtain⟨x7,σ7,H7,I7,r7,q7⟩:=q7;exact⟨x7,σ7,H7,I7.iU,r7,q7⟩
end
theorem tE{K:bX}{a:Addr}{xs:List V}{g:TG}{tb:TS}{D:Ends}{σ:St}{H:Hp}(Pv:Nat->St->Hp->Prop)(h0:Pv 0 σ H)(hl:∀ i σ H,i<=xs.length->Pv i σ H->aK K H a xs)
 (hs:∀ i x σ H,xs[i]?=some x->Pv i σ H->g x σ H fun σ2 H2=>tb { D with nx:=Pv (i+1),ct:=Pv (i+1),bk:=D.nx} σ2 H2) (hd:∀ σ H,Pv xs.length σ H->D.nx σ H) :
 ∃ W:Nat->Nat->St->Hp->Prop,(∃ m,W 0 m σ H)/\∀ i m σ H,W i m σ H->
   ((JW K a).stop i H/\D.nx σ H)\/((JW K a).go i H/\∃ N:St->Hp->Prop,(∀ σ' H',N σ' H'->∃ m',m'<m/\W (i+1) m' σ' H')/\∀ x H',(JW K a).Jz i H x H'->g x σ H' fun σ2 H2=>tb { D with nx:=N,ct:=N,bk:=D.nx} σ2 H2):=by
 refine⟨fun i m σ H=>m=xs.length-i/\i<=xs.length/\Pv i σ H,⟨xs.length,by simp,Nat.zero_le _,h0⟩,?_⟩
 rintro i m σ H ⟨rfl,hi,p⟩;have q:=hl i σ H hi p
 by_cases hlt:i<xs.length
 ·refine .inr ⟨⟨xs,xs[i],q,by simp[hlt]⟩,Pv (i+1),fun σ' H' p'=>⟨xs.length-(i+1),by lia,rfl,hlt,p'⟩,fun x H' y=>?_⟩
  obtain⟨e,y⟩:=y;subst e;exact hs i x σ _ (y xs q) p
 ·have e:i=xs.length:=by lia
  subst e;exact .inl ⟨⟨xs,q,Nat.le_refl _⟩,hd σ H p⟩
theorem D5{lo:Int}{n:Nat}{g:TG}{tb:TS}{D:Ends}{σ:St}{H:Hp}(Pv:Nat->St->Hp->Prop)(h0:Pv 0 σ H)
 (hs:∀ i σ H,i<n->Pv i σ H->g (.int (lo+i)) σ H fun σ2 H2=>tb { D with nx:=Pv (i+1),ct:=Pv (i+1),bk:=D.nx} σ2 H2) (hd:∀ σ H,Pv n σ H->D.nx σ H) :
 ∃ W:Nat->Nat->St->Hp->Prop,(∃ m,W 0 m σ H)/\∀ i m σ H,W i m σ H->
   ((JA lo n).stop i H/\D.nx σ H)\/((JA lo n).go i H/\∃ N:St->Hp->Prop,(∀ σ' H',N σ' H'->∃ m',m'<m/\W (i+1) m' σ' H')/\∀ x H',(JA lo n).Jz i H x H'->g x σ H' fun σ2 H2=>tb { D with nx:=N,ct:=N,bk:=D.nx} σ2 H2):=by
 refine⟨fun i m σ H=>m=n-i/\i<=n/\Pv i σ H,⟨n,by simp,Nat.zero_le _,h0⟩,?_⟩
 rintro i m σ H ⟨rfl,hi,p⟩
 by_cases hlt:i<n
 ·refine .inr ⟨hlt,Pv (i+1),fun σ' H' p'=>⟨n-(i+1),by lia,rfl,hlt,p'⟩,fun x H' y=>?_⟩
  obtain⟨e,y⟩:=y;subst e y;exact hs i σ _ hlt p
 ·have e:i=n:=by lia
  subst e;exact .inl ⟨Nat.le_refl _,hd σ H p⟩
abbrev R2:=V->V->Hp->VK->Prop
def k6(X:Cx)(f:Value->Value->Sem Value)(r:R2):Prop :=
 ∀(pq:aR) (s:Shared) (σ:St) (H:Hp) (x y:V) (v u:Value) (Q:VK),Inv X pq σ H s->RelV x v->RelV y u->r x y H Q->
  wpAny (model X.prog X.w) X.A (f v u) (EP X pq σ Q) X.xe s
def SK(X:Cx)(f:Value->Sem Value)(r:V->Hp->VK->Prop):Prop :=
 ∀(pq:aR) (s:Shared) (σ:St) (H:Hp) (x:V) (v:Value) (Q:VK),Inv X pq σ H s->RelV x v->r x H Q->
  wpAny (model X.prog X.w) X.A (f v) (EP X pq σ Q) X.xe s
def e7(X:Cx)(f:Value)(r:List V->Hp->VK->Prop):Prop :=
 ∀(pq:aR) (s:Shared) (σ:St) (H:Hp) (xs:List V) (us:List Value) (Q:VK),Inv X pq σ H s->Vals xs us->r xs H Q->
  wpAny (model X.prog X.w) X.A (call f us) (EP X pq σ Q) X.xe s
def Ph(r:R2)(ta tb:TE):TE:=fun σ H Q=>ta σ H fun x H1=>tb σ H1 fun y H2=>r x y H2 Q
def Xz(r:V->Hp->VK->Prop)(ta:TE):TE:=fun σ H Q=>ta σ H fun x H1=>r x H1 Q
def rI(C:Int->Int->Prop)(g:Int->Int->V):R2:=fun x y H Q=>∃ i j,x = .int i/\y = .int j/\C i j/\Q (g i j) H
def CQ(g:Int->Int->V):R2:=fun x y H Q=>∃ i j,x = .int i/\y = .int j/\Q (g i j) H
def rU(g:Int->V):V->Hp->VK->Prop:=fun x H Q=>∃ i,x = .int i/\Q (g i) H
section
variable {X:Cx}{a b c:Expr}{ta tb tc:TE}{pos:Pos}
theorem MG(ha:PE X a ta)(hb:PE X b tb){pq:aR}{s:Shared}{σ:St}{H:Hp}{R:V->V->Hp->Prop}(I:Inv X pq σ H s)
 (h:ta σ H fun x H1=>tb σ H1 fun y H2=>R x y H2) {Q:di} {f:Value->Value->Sem Value}
 (hf:∀ v u s2 x y H2,Inv X pq σ H2 s2->RelV x v->RelV y u->R x y H2->wpAny (model X.prog X.w) X.A (f v u) Q X.xe s2) :
 wpAny (model X.prog X.w) X.A (eval a X.env) (fun v s₁=>wpAny (model X.prog X.w) X.A (eval b X.env) (fun u s₂=>wpAny (model X.prog X.w) X.A (f v u) Q X.xe s₂) X.xe s₁) X.xe s:=by
 refine cK (ha pq s σ H _ I h) fun v s1 ⟨x,H1,I1,r1,q1⟩=>?_
 refine cK (hb pq s1 σ H1 _ I1 q1) fun u s2 ⟨y,H2,I2,r2,q2⟩=>?_
 exact hf v u s2 x y H2 I2 r1 r2 q2
theorem aG{op:Operator}{r:R2}(ho:k6 X (binaryOp op) r)(ha:PE X a ta)(hb:PE X b tb):PE X (.BinOp a op b pos) (Ph r ta tb):=by
 intro pq s σ H Q I h;exact wpAny_BinOp (MG ha hb I h fun v u s2 x y H2 I2 rx ry q=>ho pq s2 σ H2 x y v u Q I2 rx ry q)
theorem Pj{op:UnaryOp}{r:V->Hp->VK->Prop}(ho:SK X (unaryOp op) r)(ha:PE X a ta):PE X (.UnaryOp op a pos) (Xz r ta):=by
 intro pq s σ H Q I h;exact UnaryOp_ (cK (ha pq s σ H _ I h) fun v s1 ⟨x,H1,I1,r1,q1⟩=>ho pq s1 σ H1 x v Q I1 r1 q1)
theorem Oq{f:Value->Value->Sem Value}{C:Int->Int->Prop}{g:Int->Int->Int}
 (rule:∀(i j:Int) (t u:Tok) (s:Shared) (Q:di) (E:di),C i j->Q (.int (g i j) s.toks) { s with toks:=s.toks+1}->wpAny (model X.prog X.w) X.A (f (.int i t) (.int j u)) Q E s) :
 k6 X f (rI C fun i j=>.int (g i j)):=by
 intro pq s σ H x y v u Q I rx ry h;obtain⟨i,j,rfl,rfl,hc,q⟩:=h;obtain⟨t,rfl⟩:=rx;obtain⟨t',rfl⟩:=ry;exact rule i j t t' s _ _ hc ⟨.int (g i j),H,I.tok _,⟨_,rfl⟩,q⟩
theorem yZ{f:Value->Value->Sem Value}{g:Int->Int->Int}
 (rule:∀(i j:Int) (t u:Tok) (s:Shared) (Q:di) (E:di),Q (.int (g i j) s.toks) { s with toks:=s.toks+1}->wpAny (model X.prog X.w) X.A (f (.int i t) (.int j u)) Q E s) :
 k6 X f (CQ fun i j=>.int (g i j)):=by
 intro pq s σ H x y v u Q I rx ry h;obtain⟨i,j,rfl,rfl,q⟩:=h;obtain⟨t,rfl⟩:=rx;obtain⟨t',rfl⟩:=ry;exact rule i j t t' s _ _ ⟨.int (g i j),H,I.tok _,⟨_,rfl⟩,q⟩
theorem JY{f:Value->Value->Sem Value}{g:Int->Int->Bool}
 (rule:∀(i j:Int) (t u:Tok) (s:Shared) (Q:di) (E:di),Q (.bool (g i j)) s->wpAny (model X.prog X.w) X.A (f (.int i t) (.int j u)) Q E s) :
 k6 X f (CQ fun i j=>.bl (g i j)):=by
 intro pq s σ H x y v u Q I rx ry h;obtain⟨i,j,rfl,rfl,q⟩:=h;obtain⟨t,rfl⟩:=rx;obtain⟨t',rfl⟩:=ry;exact rule i j t t' s _ _ ⟨.bl (g i j),H,I,rfl,q⟩
def SM(i j:Int):Prop:=0<j/\j<1073741824
def Pk(i j:Int):Prop:=0<=j/\j<=1000000/\i.natAbs<2^64
def MH(i j:Int):Prop:=(-(2^64)<i/\i<2^64)\/(-(2^64)<j/\j<2^64)
theorem MH.ok{i j:Int}(h:MH i j):IntMulOk i j:=by
 rcases h with⟨h1,h2⟩|⟨h1,h2⟩
 ·exact .of_left (intBits_le_64 h1 h2)
 ·exact .of_right (intBits_le_64 h1 h2)
theorem Bb(k:Nat):(0:Int)<=2^k:=by
 rw[two_pow_cast];exact Int.natCast_nonneg _
theorem cS:k6 X (binaryOp .Add) (CQ fun i j=>.int (i+j)):=yZ fun _ _ _ _ _ _ _ q=>add_int q
theorem nq:k6 X (binaryOp .Sub) (CQ fun i j=>.int (i-j)):=yZ fun _ _ _ _ _ _ _ q=>sub_int q
theorem Bc:k6 X (binaryOp .Mult) (rI MH fun i j=>.int (i*j)):=Oq fun _ _ _ _ _ _ _ hc q=>mul_int q hc.ok
theorem jf:k6 X (binaryOp .FloorDiv) (rI SM fun i j=>.int (i/j)):=Oq fun i j _ _ _ _ _ hc q=>by
 have h1:(0:Int)<j:=hc.1;have h2:j<1073741824:=hc.2;exact floordiv_int (by lia) (by rw[Int.fdiv_eq_ediv_of_nonneg i (by lia)];exact q) (.inl (PyProof.noPylong_small (by lia)))
theorem cT:k6 X (binaryOp .Mod) (rI (fun _ j=>0<j) fun i j=>.int (i%j)):=Oq fun i j _ _ _ _ _ hc q=>by
 have h1:(0:Int)<j:=hc;exact mod_int' (by lia) (by rw[Int.fmod_eq_emod_of_nonneg i (by lia)];exact q)
theorem MI:k6 X (binaryOp .Pow) (rI Pk fun i j=>.int (i^j.toNat)):=Oq fun _ _ _ _ _ _ _ hc q=>pow_int_small hc.1 hc.2.1 hc.2.2 q
theorem jy:k6 X (binaryOp .LShift) (rI Pk fun i j=>.int (i*2^j.toNat)):=Oq fun _ _ _ _ _ _ _ hc q=>lshift_int_small hc.1 hc.2.1 hc.2.2 q
theorem tF:k6 X (binaryOp .RShift) (rI (fun _ j=>0<=j) fun i j=>.int (i/2^j.toNat)):=Oq fun i j _ _ _ _ _ hc q =>
 rshift_int hc (by rw[Int.fdiv_eq_ediv_of_nonneg i (Bb _)];exact q)
theorem Gm:k6 X (binaryOp .BitAnd) (CQ fun i j=>.int (Builtin.bitAnd i j)):=yZ fun _ _ _ _ _ _ _ q=>and_int q
theorem Gn:k6 X (binaryOp .BitOr) (CQ fun i j=>.int (Builtin.bitOr i j)):=yZ fun _ _ _ _ _ _ _ q=>or_int q
theorem fE:k6 X (binaryOp .BitXor) (CQ fun i j=>.int (Builtin.bitXor i j)):=yZ fun _ _ _ _ _ _ _ q=>xor_int q
theorem CS:k6 X (inplaceOp .Add) (CQ fun i j=>.int (i+j)):=yZ fun _ _ _ _ _ _ _ q=>iadd_int q
theorem Gp:k6 X (inplaceOp .BitOr) (CQ fun i j=>.int (Builtin.bitOr i j)):=yZ fun _ _ _ _ _ _ _ q=>ior_int q
theorem CT:k6 X (inplaceOp .BitXor) (CQ fun i j=>.int (Builtin.bitXor i j)):=yZ fun _ _ _ _ _ _ _ q=>ixor_int q
theorem XA{f:Value->Sem Value}{g:Int->Int}
 (rule:∀(i:Int) (t:Tok) (s:Shared) (Q:di) (E:di),Q (.int (g i) s.toks) { s with toks:=s.toks+1}->wpAny (model X.prog X.w) X.A (f (.int i t)) Q E s) :
 SK X f (rU fun i=>.int (g i)):=by
 intro pq s σ H x v Q I rx h;obtain⟨i,rfl,q⟩:=h;obtain⟨t,rfl⟩:=rx;exact rule i t s _ _ ⟨.int (g i),H,I.tok _,⟨_,rfl⟩,q⟩
theorem MJ:SK X (unaryOp .USub) (rU fun i=>.int (-i)):=XA fun _ _ _ _ _ q=>neg_int q
end
def Pn:V->V->Bool
 | .dU,.dU=>true | .dU,.int _=>true | .int _,.dU=>true | .dU,.bl _=>true | .bl _,.dU=>true | .dU,.str _=>true | .str _,.dU=>true
 | .int _,.int _=>true | .bl _,.bl _=>true | .str _,.str _=>true | .Gb _,.Gb _=>true
 | .int _,.str _=>true | .str _,.int _=>true | .bl _,.str _=>true | .str _,.bl _=>true
 | _,_=>false
def XC:R2:=fun x y H Q=>Pn x y=true/\Q (.bl (decide (x=y))) H
def XD:R2:=fun x y H Q=>Pn x y=true/\Q (.bl (!decide (x=y))) H
theorem CU{i j:Int}:decide (V.int i=V.int j)=(i==j):=by
 rw[Bool.eq_iff_iff];simp
theorem Gq{i j:Bool}:decide (V.bl i=V.bl j)=(i==j):=by
 rw[Bool.eq_iff_iff];simp
theorem CV{i j:Str}:decide (V.str i=V.str j)=(i==j):=by
 rw[Bool.eq_iff_iff];simp
theorem CW{i j:Array UInt8}:decide (V.Gb i=V.Gb j)=(i.toList==j.toList):=by
 rw[Bool.eq_iff_iff];cases i;cases j;simp
section
variable {X:Cx}{a b c:Expr}{ta tb tc:TE}{pos:Pos}
theorem bE{pq:aR}{σ:St}{H:Hp}{s:Shared}{Q:VK}{k k' : Bool}(I:Inv X pq σ H s)(q:Q (.bl k) H)(e:k=k'):EP X pq σ Q (.bool k') s:=by
 subst e;exact⟨.bl k,H,I,rfl,q⟩
theorem dW:k6 X (compareOp .Eq) XC:=by
 intro pq s σ H x y v u Q I rx ry h;obtain⟨hs,q⟩:=h;cases x with
 | dU =>
   cases rx;cases y with
   | dU=>cases ry;exact PySem.EqNone.eq_none_none (bE I q (by simp))
   | bl j=>cases ry;exact PySem.EqNone.eq_none_bool (bE I q (by simp))
   | int j=>obtain⟨t',rfl⟩:=ry;exact PySem.EqNone.eq_none_int (bE I q (by simp))
   | str j=>obtain⟨t',rfl⟩:=ry;exact PySem.EqNone.eq_none_str (bE I q (by simp))
   | _=>exact absurd (show false=true from hs) Bool.false_ne_true
 | bl i =>
   cases rx;cases y with
   | dU=>cases ry;exact PySem.EqNone.eq_bool_none (bE I q (by simp))
   | bl j=>cases ry;exact eq_bool (bE I q Gq)
   | str j=>obtain⟨t',rfl⟩:=ry;exact PySem.EqMixed.eq_bool_str (bE I q (by simp))
   | _=>exact absurd (show false=true from hs) Bool.false_ne_true
 | int i =>
   obtain⟨t,rfl⟩:=rx;cases y with
   | dU=>cases ry;exact PySem.EqNone.eq_int_none (bE I q (by simp))
   | int j=>obtain⟨t',rfl⟩:=ry;exact eq_int (bE I q CU)
   | str j=>obtain⟨t',rfl⟩:=ry;exact PySem.EqMixed.eq_int_str (bE I q (by simp))
   | _=>exact absurd (show false=true from hs) Bool.false_ne_true
 | str i =>
   obtain⟨t,rfl⟩:=rx;cases y with
   | dU=>cases ry;exact PySem.EqNone.eq_str_none (bE I q (by simp))
   | bl j=>cases ry;exact PySem.EqMixed.eq_str_bool (bE I q (by simp))
   | int j=>obtain⟨t',rfl⟩:=ry;exact PySem.EqMixed.eq_str_int (bE I q (by simp))
   | str j=>obtain⟨t',rfl⟩:=ry;exact eq_str (bE I q CV)
   | _=>exact absurd (show false=true from hs) Bool.false_ne_true
 | Gb i =>
   obtain⟨t,rfl⟩:=rx;cases y with
   | Gb j=>obtain⟨t',rfl⟩:=ry;exact PySem.W.eq_bytes (bE I q CW)
   | _=>exact absurd (show false=true from hs) Bool.false_ne_true
 | _=>cases y<;>exact absurd (show false=true from hs) Bool.false_ne_true
theorem wc:k6 X (compareOp .NotEq) XD:=by
 intro pq s σ H x y v u Q I rx ry h;obtain⟨hs,q⟩:=h;cases x with
 | dU =>
   cases rx;cases y with
   | dU=>cases ry;exact PySem.EqNone.ne_none_none (bE I q (by simp))
   | bl j=>cases ry;exact PySem.EqNone.ne_none_bool (bE I q (by simp))
   | int j=>obtain⟨t',rfl⟩:=ry;exact PySem.EqNone.ne_none_int (bE I q (by simp))
   | str j=>obtain⟨t',rfl⟩:=ry;exact PySem.EqNone.ne_none_str (bE I q (by simp))
   | _=>exact absurd (show false=true from hs) Bool.false_ne_true
 | bl i =>
   cases rx;cases y with
   | dU=>cases ry;exact PySem.EqNone.ne_bool_none (bE I q (by simp))
   | bl j=>cases ry;exact ne_bool (bE I q (congrArg not Gq))
   | str j=>obtain⟨t',rfl⟩:=ry;exact PySem.EqMixed.ne_bool_str (bE I q (by simp))
   | _=>exact absurd (show false=true from hs) Bool.false_ne_true
 | int i =>
   obtain⟨t,rfl⟩:=rx;cases y with
   | dU=>cases ry;exact PySem.EqNone.ne_int_none (bE I q (by simp))
   | int j=>obtain⟨t',rfl⟩:=ry;exact ne_int (bE I q (congrArg not CU))
   | str j=>obtain⟨t',rfl⟩:=ry;exact PySem.EqMixed.ne_int_str (bE I q (by simp))
   | _=>exact absurd (show false=true from hs) Bool.false_ne_true
 | str i =>
   obtain⟨t,rfl⟩:=rx;cases y with
   | dU=>cases ry;exact PySem.EqNone.ne_str_none (bE I q (by simp))
   | bl j=>cases ry;exact PySem.EqMixed.ne_str_bool (bE I q (by simp))
   | int j=>obtain⟨t',rfl⟩:=ry;exact PySem.EqMixed.ne_str_int (bE I q (by simp))
   | str j=>obtain⟨t',rfl⟩:=ry;exact ne_str (bE I q (congrArg not CV))
   | _=>exact absurd (show false=true from hs) Bool.false_ne_true
 | Gb i =>
   obtain⟨t,rfl⟩:=rx;cases y with
   | Gb j=>obtain⟨t',rfl⟩:=ry;exact PySem.W.ne_bytes (bE I q (congrArg not CW))
   | _=>exact absurd (show false=true from hs) Bool.false_ne_true
 | _=>cases y<;>exact absurd (show false=true from hs) Bool.false_ne_true
theorem y9:k6 X (compareOp .Lt) (CQ fun i j=>.bl (decide (i<j))):=JY fun _ _ _ _ _ _ _ q=>lt_int q
theorem Gr:k6 X (compareOp .LtE) (CQ fun i j=>.bl (decide (i<=j))):=JY fun _ _ _ _ _ _ _ q=>le_int q
theorem we:k6 X (compareOp .Gt) (CQ fun i j=>.bl (decide (j<i))):=JY fun _ _ _ _ _ _ _ q=>gt_int q
theorem Gs:k6 X (compareOp .GtE) (CQ fun i j=>.bl (decide (j<=i))):=JY fun _ _ _ _ _ _ _ q=>ge_int q
theorem Bd:k6 X (compareOp .Is) (fun x y H Q=>y = .dU/\Q (.bl (decide (x = .dU))) H):=by
 intro pq s σ H x y v u Q I rx ry h;obtain⟨rfl,q⟩:=h;cases ry;refine is_none_gen (bE I q ?_);cases x<;>first
  | (cases rx;rfl)
  | (obtain⟨t,rfl⟩:=rx;rfl)
theorem JZ:k6 X (compareOp .IsNot) (fun x y H Q=>y = .dU/\Q (.bl (!decide (x = .dU))) H):=by
 intro pq s σ H x y v u Q I rx ry h;obtain⟨rfl,q⟩:=h;cases ry;refine isnot_none_gen (bE I q ?_);cases x<;>first
  | (cases rx;rfl)
  | (obtain⟨t,rfl⟩:=rx;rfl)
theorem aM(b:Expr){op:CmpOp}(h:op≠.In:=by decide)(h2:op≠.NotIn:=by decide):behindInMarks op b=false:=by
 have e1:(op==CmpOp.In)=false:=by cases op<;>first | rfl | exact absurd rfl h
 have e2:(op==CmpOp.NotIn)=false:=by cases op<;>first | rfl | exact absurd rfl h2
 cases b<;>simp[behindInMarks,e1,e2]
theorem cV{op:CmpOp}{r:R2}(ho:k6 X (compareOp op) r)(ha:PE X a ta)(hb:PE X b tb)(hm:behindInMarks op b=false):PE X (.Compare a [op] [b] pos) (Ph r ta tb):=by
 intro pq s σ H Q I h;exact wpAny_Compare1 (MG ha hb I h fun v u s2 x y H2 I2 rx ry q=>ho pq s2 σ H2 x y v u Q I2 rx ry q) hm
def Po(t:TE):TT:=fun σ H Q=>t σ H fun x H'=>∃ k,x = .bl k/\Q k H'
theorem aL{op:CmpOp}{r:R2}(ho:k6 X (compareOp op) r)(ha:PE X a ta)(hb:PE X b tb)(hm:behindInMarks op b=false):PT X (.Compare a [op] [b] pos) (Po (Ph r ta tb)):=by
 intro pq s σ H Q I h;refine wpAny_isTrue_Compare1 (cK (ha pq s σ H _ I h) fun v s1 ⟨x,H1,I1,r1,q1⟩=>cK (hb pq s1 σ H1 _ I1 q1) fun u s2 ⟨y,H2,I2,r2,q2⟩ =>
  cK (ho pq s2 σ H2 x y v u _ I2 r1 r2 q2) fun c s3 ⟨z,H3,I3,r3,k,e,q3⟩=>?_) hm
 subst e;cases r3;exact wpAny_truthy_bool ⟨H3,I3,q3⟩
theorem pR:(sizeLine:Nat)<2^63:=by rw[sizeLine_eq];decide
theorem vals1{x:V}{us:List Value}(r:Vals [x] us):∃ u,us=[u]/\RelV x u:=by
 cases r with
 | cons r1 r2=>cases r2;exact⟨_,rfl,r1⟩
theorem vals2{x y:V}{us:List Value}(r:Vals [x,y] us):∃ u w',us=[u,w']/\RelV x u/\RelV y w':=by
 cases r with
 | cons r1 r2 =>
   cases r2 with
   | cons r3 r4=>cases r4;exact⟨_,_,rfl,r1,r3⟩
theorem wg(hc:X.calm=true):e7 X (.builtin "max") (fun xs H Q=>∃ i j,xs=[.int i,.int j]/\Q (.int (if j > i then j else i)) H):=by
 intro pq s σ H xs us Q I r h;obtain⟨i,j,rfl,q⟩:=h;obtain⟨u,w',rfl,⟨t,rfl⟩,⟨t',rfl⟩⟩:=vals2 r;refine max_two_ints (I.ok.hd hc) fun h' tk k=>⟨_,H,I.kept k,?_,q⟩
 by_cases hj:j > i
 ·rw[if_pos hj,if_pos hj];exact⟨_,rfl⟩
 ·rw[if_neg hj,if_neg hj];exact⟨_,rfl⟩
theorem D6(hc:X.calm=true):e7 X (.builtin "min") (fun xs H Q=>∃ i j,xs=[.int i,.int j]/\Q (.int (if j<i then j else i)) H):=by
 intro pq s σ H xs us Q I r h;obtain⟨i,j,rfl,q⟩:=h;obtain⟨u,w',rfl,⟨t,rfl⟩,⟨t',rfl⟩⟩:=vals2 r;refine min_two_ints (I.ok.hd hc) fun h' tk k=>⟨_,H,I.kept k,?_,q⟩
 by_cases hj:j<i
 ·rw[if_pos hj,if_pos hj];exact⟨_,rfl⟩
 ·rw[if_neg hj,if_neg hj];exact⟨_,rfl⟩
theorem pU:e7 X (.type "int") (fun xs H Q=>(∃ i,xs=[.int i]/\Q (.int i) H)\/∃ k,xs=[.bl k]/\Q (.int (if k then 1 else 0)) H):=by
 intro pq s σ H xs us Q I r h;rcases h with⟨i,rfl,q⟩|⟨k,rfl,q⟩
 ·obtain⟨u,rfl,t,rfl⟩:=vals1 r;exact call_int_int ⟨.int i,H,I,⟨_,rfl⟩,q⟩
 ·obtain⟨u,rfl,r1⟩:=vals1 r;cases r1;exact call_int_bool ⟨.int (if k then 1 else 0),H,I.tok _,⟨_,rfl⟩,q⟩
end
theorem pN.some_of{v:V}{o:Option Value}(r:pN (some v) o):∃ u,o=some u/\RelV v u:=by
 cases o with
 | none=>exact(show False from r).elim
 | some u=>exact⟨u,rfl,r⟩
structure eV(k:Nat)(A:Around):Prop where
 hd:A.handled=none
 dp:A.depth+3*k+5<recursionLimit
 un:A.units+16*k+200<cLine
theorem eV.mono{j k:Nat}{A:Around}(r:eV k A)(h:j<=k):eV j A:=⟨r.hd,by have:=r.dp;lia,by have:=r.un;lia⟩
theorem eV.deeper{k:Nat}{A:Around}(r:eV (k+1) A)(env:Env):eV k (A.deeper env) :=
 ⟨r.hd,by have:=r.dp;show A.depth+1+3*k+5<_;lia,by have:=r.un;show A.units+3+16*k+200<_;lia⟩
theorem eV.in1{k:Nat}{A:Around}(r:eV (k+1) A):eV k A.in1 :=
 ⟨r.hd,by have:=r.dp;show A.depth+3*k+5<_;lia,by have:=r.un;show A.units+1+16*k+200<_;lia⟩
theorem eV.depth{k:Nat}{A:Around}(r:eV k A):A.depth<recursionLimit:=by have:=r.dp;lia
theorem eV.units{k:Nat}{A:Around}(r:eV k A):A.units+64<cLine:=by have:=r.un;lia
theorem eV.Be{k:Nat}{A:Around}(r:eV k A):A.units<cLine:=by have:=r.un;lia
def SN:TA:=fun _ H Q=>Q [] H
def Pp(ta:TE)(tr:TA):TA:=fun σ H Q=>ta σ H fun x H1=>tr σ H1 fun xs H2=>Q (x::xs) H2
section
variable {X:Cx}{e:Expr}{es:List Expr}{te:TE}{t:TA}{pos:Pos}
theorem af:PA X [] SN:=fun _ _ _ _ H Q I h=>Calls.spliced_nil ⟨[],H,I,.nil,h⟩
theorem aa(ha:PE X e te)(hr:PA X es t)(hs:starEach (e::es) X.env=(false,eval e X.env)::starEach es X.env:=by rfl):PA X (e::es) (Pp te t):=by
 intro pos pq s σ H Q I h;rw[hs];show wpAny _ _ (spliced ((false,eval e X.env)::backTo pos (starEach es X.env))) _ _ s;refine Calls.spliced_cons (cK (ha pq s σ H _ I h) fun u s1 ⟨x,H1,I1,r1,q1⟩=>?_)
 exact cK (hr pos pq s1 σ H1 _ I1 q1) fun us s2 ⟨xs,H2,I2,r2,q2⟩=>⟨x::xs,H2,I2,.cons r1 r2,q2⟩
def SO(t:TA):TE:=fun σ H Q=>t σ H fun xs H1=>xs.length<=sizeLine/\∀ p,H1 p=none->Q (.ref p) (upd H1 p (.tup xs))
def SQ(t:TA):TE:=fun σ H Q=>t σ H fun xs H1=>xs.length<=sizeLine/\∀ p,H1 p=none->Q (.ref p) (upd H1 p (.lst xs))
theorem cH{x1}(h:PA X es t):PE X (.Tuple es x1 pos) (SO t):=by
 intro pq s σ H Q I hq;refine wpAny_Tuple_spliced (cK (h pos pq s σ H _ I hq) fun us s1 ⟨xs,H1,I1,r,z,q⟩=>⟨by rw[<-r.length];exact z,?_⟩)
 have hf:H1 s1.heap.objs.size=none:=I1.hok.fresh (Nat.le_refl _);refine⟨.ref s1.heap.objs.size,upd H1 s1.heap.objs.size (.tup xs),I1.laid (t':=s1.toks) (fun b u e=>Heap.get?_push_of_some _ e) (Nat.le_refl _) ?_,rfl,q _ hf⟩
 exact⟨z,us,r,⟨_,Heap.get?_push_size _ rfl,rfl,_,rfl⟩⟩
theorem cW(h:PA X es t):PE X (.List es pos) (SQ t):=by
 intro pq s σ H Q I hq;refine wpAny_List_spliced (cK (h pos pq s σ H _ I hq) fun us s1 ⟨xs,H1,I1,r,z,q⟩=>⟨by rw[<-r.length];exact z,?_⟩)
 have hf:H1 s1.heap.objs.size=none:=I1.hok.fresh (Nat.le_refl _);refine⟨.ref s1.heap.objs.size,upd H1 s1.heap.objs.size (.lst xs),I1.laid (t':=s1.toks) (fun b u e=>Heap.get?_push_of_some _ e) (Nat.le_refl _) ?_,rfl,q _ hf⟩
 exact⟨z,us,0,r,Heap.get?_push_size _ rfl⟩
end
abbrev Sp:=List V->Hp->VK->XK->Prop
abbrev F3:=List Env->Hp->Shared->XK->Value->Shared->Prop
structure J0(P:Program)(w:World)(K:bX)(mg:mZ)(base:Heap)(A:Around)(outer:List Env)(s:Shared)(H:Hp):Prop where
 frames:A.frames=some outer
 mod:Mod K mg base
 bs:∀ b o,base.get? b=some o->s.heap.get? b=some o/\H b=none
 JS:base.objs.size<=s.heap.objs.size
 funs:s.heap.FunFrames base outer
 Mx:∀ b∈frs outer,H b=none
 hok:l8 P w H s.heap
 bare:AllBare s.gens
def CE(outer:List Env)(P:Program)(w:World)(H:Hp)(s:Shared)(Q:VK)(u:Value)(s' : Shared):Prop :=
 ∃ v H',s'.os=s.os/\AllBare s'.gens/\Un (frs outer) [] H H' s.heap s'.heap/\l8 P w H' s'.heap/\RelV v u/\Q v H'
def CR(CX:F3)(outer:List Env)(P:Program)(w:World)(H:Hp)(s:Shared)(Q:VK)(E:XK)(r:Result)(s' : Shared):Prop :=
 match r with
 | .ok (.ret u)=>CE outer P w H s Q u s'
 | .ok _=>False
 | .error e=>CX outer H s E e s'
structure lz(P:Program)(w:World)(K:bX)(mg:mZ)(base:Heap)(CX:F3)(k:Nat)(f:Addr)(fd:FuncData)(ps:List Str)(sp:Sp):Prop where
 len:∀ vs H Q E,sp vs H Q E->vs.length=ps.length
 run:∀(A:Around) (outer:List Env) (s:Shared) (H:Hp) (args:Args) (us:List Value) (vs:List V) (Q:VK) (E:XK),eV k A->J0 P w K mg base A outer s H->BindsTo s fd args (ps.zip us)->Vals vs us->sp vs H Q E->
  codeAny (model P w) A (.call (.ref f) args) (CR CX outer P w H s Q E) s
section
variable {X:Cx}{pq:aR}{σ:St}{H:Hp}{s s' : Shared}
theorem Inv.SR(I:Inv X pq σ H s):J0 X.prog X.w X.K X.mg X.base X.A X.stack s H :=
 ⟨I.ok.frames,I.ok.mod,I.bs,Nat.le_trans I.ok.JS I.sz,I.stack,I.xH,I.hok,I.bare⟩
theorem Inv.after{Q:VK}{u:Value}(I:Inv X pq σ H s)(h:CE X.stack X.prog X.w H s Q u s'):EP X pq σ Q u s':=by
 obtain⟨v,H',os,bare,un,hok,r,q⟩:=h;obtain⟨hh,g,d,t,os'⟩:=s';obtain rfl:os' = s.os:=os;exact⟨v,H',I.call (h':=hh) (g':=g) (d':=d) (t':=t) (ch:=[]) un hok bare (fun b z=>absurd z (by simp)),r,q⟩
end
def LN(sp:Sp)(LO:List V)(E:XK)(t:TA):TE:=fun σ H Q=>t σ H fun vs H1=>sp (vs++LO) H1 Q E
def Binds(K:bX)(fd:FuncData)(ps:List Str)(ds:List Value):Prop :=
 ∀(s:Shared) (us:List Value),K.In s.heap->(us++ds).length=ps.length->BindsTo s fd ⟨us,[]⟩ (ps.zip (us++ds))
theorem Binds.all{K:bX}{fd:FuncData}{ps:List Str}(h:∀ us:List Value,us.length=ps.length->bindArgs fd ⟨us,[]⟩=pure (ps.zip us)):Binds K fd ps []:=fun s us _ hl=>by
 rw[List.append_nil]at hl ⊢;exact .of_eq (h us hl)
def Passes(CX:F3)(X:Cx)(E:XK):Prop:=∀(pq:aR) (σ:St) (H:Hp) (s:Shared) (e:Value) (s' : Shared),Inv X pq σ H s->CX X.stack H s E e s'->X.xe e s'
section
variable {X:Cx}{CX:F3}{k:Nat}{f C:Addr}{fd:FuncData}{ps:List Str}{sp:Sp}{LO:List V}{ds:List Value}{E:XK}{x m:Str}{p pos apos:Pos}{e o:Expr}{es:List Expr}{ta:TE}{t:TA}
theorem MK{pq:aR}{σ:St}{H:Hp}{s:Shared}{Q:VK}{us:List Value}{vs:List V}(F:lz X.prog X.w X.K X.mg X.base CX k f fd ps sp)(hr:eV k X.A)(hb:Binds X.K fd ps ds)(hd:Vals LO ds)(hx:Passes CX X E)
 (I:Inv X pq σ H s) (r:Vals vs us) (h:sp (vs++LO) H Q E):wpAny (model X.prog X.w) X.A (call (.ref f) us) (EP X pq σ Q) X.xe s:=by
 have r2:Vals (vs++LO) (us++ds):=r.append hd;have hl:(us++ds).length=ps.length:=by rw[<-r2.length];exact F.len _ _ _ _ h
 refine wpAny_call (codeAny_mono (F.run X.A X.stack s H ⟨us,[]⟩ (us++ds) (vs++LO) Q E hr I.SR (hb s us I.My hl) r2 h) fun r s' hq=>?_)
 cases r with
 | error e=>exact hx pq σ H s e s' I hq
 | ok fl =>
   cases fl with
   | ret u=>exact I.after hq
   | next=>exact False.elim hq
   | brk=>exact False.elim hq
   | cont=>exact False.elim hq
theorem J7(F:lz X.prog X.w X.K X.mg X.base CX k f fd ps sp)(hr:eV k X.A)(hg:Gl X x)(hm:X.mg x=some (.ref f))(hk:PySem.W.keepIn X.K (.ref f)=true)(hb:Binds X.K fd ps ds)(hd:Vals LO ds)(hx:Passes CX X E)
 (ha:PA X (e::es) t) (hdb:(x==("__debug__":Str))=false:=by decide) (he:starEach (e::es) X.env=(false,eval e X.env)::starEach es X.env:=by rfl) (hpl:(backTo pos (starEach es X.env)).any (·.1)=false:=by rfl) :
 PE X (.Call (.Name x p) (e::es) [] pos) (LN sp LO E t):=by
 intro pq s σ H Q I h;refine wpAny_Call_Name_kw (CO I hg hm ?_ hdb);refine PySem.W.callWith_K (h₀:=X.base) I.ok.mod.RA hk (cK (ha pos pq s σ H _ I h) fun us s1 ⟨vs,H1,I1,r,q⟩=>⟨I1.My,?_⟩) he hpl
 exact MK F hr hb hd hx I1 r q
end
structure aE(N P:List Str)(sc:Scope):Prop where
 kind:sc.kind = .function
 co:sc.isCoroutine=false
 gen:sc.isGenerator=false
 nd:N.Nodup
 pre:N.take P.length=P
 par:∀ x∈P,sc.names.lookup x=some .local\/sc.names.lookup x=some .cell
 ML:∀ y∈sc.names,y.2≠.free
theorem wj{kindOf:Str->Option NameKind}{x:Str}:∀{binds:List (Str×Value)} {m:mZ},(∀ v,(x,v)∉binds)->bindL kindOf binds m x=m x
 | [],_,_=>rfl
 | (n,v)::r,m,h=>by
   unfold bindL;rw[wj fun w hw=>h w (jY _ hw)]
   split
   ·have:x≠n:=by rintro rfl;exact h v List.mem_cons_self
    simp[this]
   ·rfl
theorem wk{kindOf:Str->Option NameKind}{x:Str}:∀{binds:List (Str×Value)} {m:mZ},(∀ v,(x,v)∉binds)->bindC kindOf binds m x=m x
 | [],_,_=>rfl
 | (n,v)::r,m,h=>by
   unfold bindC;rw[wk fun w hw=>h w (jY _ hw)]
   split
   ·rfl
   ·have:x≠n:=by rintro rfl;exact h v List.mem_cons_self
    simp[this]
theorem wm{kindOf:Str->Option NameKind}{x:Str}{v:Value}:∀{P:List Str} {vs:List Value} {i:Nat} {m:mZ},P.Nodup->P[i]?=some x->vs[i]?=some v->kindOf x=some .local->
 bindL kindOf (P.zip vs) m x=some v
 | [],_,_,_,_,h,_,_=>by simp at h
 | _::_,[],_,_,_,_,h,_=>by simp at h
 | p::P,w::vs,0,m,nd,h1,h2,hk=>by
   simp at h1 h2;subst h1;subst h2;show bindL kindOf ((p,w)::P.zip vs) m p=_;unfold bindL;rw[wj fun v hv=>(List.nodup_cons.mp nd).1 (List.of_mem_zip hv).1,if_pos hk]
   simp
 | p::P,w::vs,i+1,m,nd,h1,h2,hk=>by
   show bindL kindOf ((p,w)::P.zip vs) m x=_;unfold bindL;exact wm (i:=i) (List.nodup_cons.mp nd).2 (by simpa using h1) (by simpa using h2) hk
theorem wq{kindOf:Str->Option NameKind}{x:Str}{v:Value}:∀{P:List Str} {vs:List Value} {i:Nat} {m:mZ},P.Nodup->P[i]?=some x->vs[i]?=some v->kindOf x≠some .local->
 bindC kindOf (P.zip vs) m x=some v
 | [],_,_,_,_,h,_,_=>by simp at h
 | _::_,[],_,_,_,_,h,_=>by simp at h
 | p::P,w::vs,0,m,nd,h1,h2,hk=>by
   simp at h1 h2;subst h1;subst h2;show bindC kindOf ((p,w)::P.zip vs) m p=_;unfold bindC;rw[wk fun v hv=>(List.nodup_cons.mp nd).1 (List.of_mem_zip hv).1,if_neg hk]
   simp
 | p::P,w::vs,i+1,m,nd,h1,h2,hk=>by
   show bindC kindOf ((p,w)::P.zip vs) m x=_;unfold bindC;exact wq (i:=i) (List.nodup_cons.mp nd).2 (by simpa using h1) (by simpa using h2) hk
def start(N:List Str)(vs:List V):St:=vs.map some++List.replicate (N.length-vs.length) none
def rS(CX:F3)(P:Program)(w:World)(K:bX)(mg:mZ)(base:Heap)(N:List Str)(qual:Str)(scope:Scope)(f:Addr)(cd:Value)(A:Around)(outer:List Env)(s:Shared)(H:Hp)(E:XK):Cx where
 prog:=P
 w:=w
 K:=K
 mg:=mg
 base:=base
 A:=A.deeper (envOfC qual scope s.heap.objs.size f cd)
 N:=N
 s₀:=s
 H₀:=H
 env:=envOfC qual scope s.heap.objs.size f cd
 outer:=outer
 stack:=envOfC qual scope s.heap.objs.size f cd::outer
 ex:=[]
 calm:=true
 fn:=fun _=>true
 pn:=[]
 xe:=fun e s'=>wpAny (model P w) (A.deeper (envOfC qual scope s.heap.objs.size f cd)) (leaving (envOfC qual scope s.heap.objs.size f cd) e) (fun _ s''=>CX outer H s E e s'') (fun e' s''=>CX outer H s E e' s'') s'
theorem za{sc:Scope}{n:Nat}{x:Str}(h:sc.names.lookup x=some .cell):∃ c,(cellsFrom n sc.names []).lookup x=some c:=by
 have q:=PySem.W.cellsFrom_some sc.names n [] (.inl h);exact Option.isSome_iff_exists.mp q
theorem D7{CX:F3}{P:Program}{w:World}{K:bX}{mg:mZ}{base:Heap}{N ps:List Str}{qual:Str}{scope:Scope}{f:Addr}{cd:Value}{A:Around}{outer:List Env}{s s1:Shared}{H:Hp}{E:XK}{us:List Value}{vs:List V}
 (S:aE N ps scope) (hd:A.handled=none) (e0:J0 P w K mg base A outer s H) (hl:vs.length=ps.length) (r:Vals vs us)
 (x:InCallC s s.heap.objs.size (bindL (envOfC qual scope s.heap.objs.size f cd).kindOf (ps.zip us) fun _=>none) (cellsFrom (s.heap.objs.size+1) scope.names []) (bindC (envOfC qual scope s.heap.objs.size f cd).kindOf (ps.zip us) fun _=>none) s1) :
 Inv (rS CX P w K mg base N qual scope f cd A outer s H E) [] (start N vs) H s1:=by
 have hpl:ps.length<=N.length:=by have:=congrArg List.length S.pre;rw[List.length_take]at this;lia
 obtain⟨h1,tk,rfl,hk⟩:=x.done;have SS:∀ b:Addr,b∉(rS CX P w K mg base N qual scope f cd A outer s H E).ex:=fun b z=>absurd (show b∈([]:List Addr) from z) (by simp)
 refine⟨⟨e0.mod,S.kind,rfl,rfl,Nat.le_refl _,fun y z c h1 h2=>?_,fun y hy=>?_,fun y c _ h=>?_,fun _=>hd,Around.frames_deeper e0.frames,.inr ⟨rfl,rfl⟩,fun b z=>absurd z (SS b),e0.bs,e0.JS,fun b _ _=>SS b,fun b z=>absurd z (SS b),e0.funs,e0.Mx⟩,
  rfl,e0.bare,Un.kept hk,⟨_,x.toInCall.ns,fun i y v h1 h2 h3=>?_⟩,fun y c h=>⟨_,x.cell y c h⟩,e0.hok.fresh (Nat.le_refl _),fun y c h=>?_,fun p hp=>absurd (show p∈([]:aR) from hp) (by simp),e0.hok.kept hk,?_⟩
 ·exact name_of_addr x.apart (PySem.mem_of_lookup h1) (PySem.mem_of_lookup h2)
 ·have hy:scope.names.lookup y=some .cell\/scope.names.lookup y=some .free:=hy;rcases hy with hy|hy
  ·exact za hy
  ·exact absurd rfl (S.ML _ (PySem.mem_of_lookup hy))
 ·exact Nat.le_of_lt (x.above y c (PySem.mem_of_lookup h))
 ·have hi:i<vs.length:=by
   unfold start at h2
   by_cases hi:i<vs.length
   ·exact hi
   ·rw[List.getElem?_append_right (by simpa using hi)]at h2
    rw[List.getElem?_replicate]at h2
    split at h2<;>cases h2
  have ha:vs[i]?=some v:=by
   unfold start at h2;rw[List.getElem?_append_left (by simpa using hi),List.getElem?_map]at h2
   cases e:vs[i]? with
   | none=>rw[e]at h2;cases h2
   | some a=>rw[e]at h2;cases h2;rfl
  obtain⟨u,hu,rv⟩:=r.get ha;have hp:ps[i]?=some y:=by
   rw[<-S.pre,List.getElem?_take_of_lt (by lia)];exact h1
  have Vc:ps.Nodup:=by rw[<-S.pre];exact S.nd.sublist (List.take_sublist _ _)
  refine⟨u,rv,?_⟩;rcases S.par y (gy hp) with k|k
  ·exact .inl ⟨k,wm Vc hp hu k⟩
  ·obtain⟨c,e⟩:=za (n:=s.heap.objs.size+1) k;refine .inr ⟨.inl k,c,e,?_⟩;have q:=x.cell y c e;rw[wq Vc hp hu (by show scope.names.lookup y≠_;rw[k];decide)]at q
   exact q
 ·exact e0.hok.fresh (Nat.le_of_lt (x.above y c (PySem.mem_of_lookup h)))
 ·unfold start;show _=N.length;rw[List.length_append,List.length_map,List.length_replicate]
  lia
theorem Gu{CX:F3}{P:Program}{w:World}{K:bX}{mg:mZ}{base:Heap}{k:Nat}{f:Addr}{name qual:Str}{params:Arguments}{body:List Stmt}{scope:Scope}{dV kV doc pm cdv ct oc:Value}{an od:Option Addr}
 {osl:Array (Option Value)} {N ps:List Str} {sp:Sp} (lk:K.lookup f=some ⟨oc,od,.func (PySem.W.fnOf name qual params body scope dV kV doc pm an cdv ct),osl⟩) (hcd:PySem.W.codeIn K cdv qual=true) (S:aE N ps scope)
 (len:∀ vs H Q E,sp vs H Q E->vs.length=ps.length)
 (hbody:∀(A:Around) (outer:List Env) (s:Shared) (H:Hp) (vs:List V) (Q:VK) (E:XK),eV k (A.deeper (envOfC qual scope s.heap.objs.size f cdv))->sp vs H Q E->
  ∃ t,vX (rS CX P w K mg base N qual scope f cdv A outer s H E) body t/\t { nx:=fun _ H'=>Q .dU H',rt:=Q} (start N vs) H) :
 lz P w K mg base CX (k+1) f (PySem.W.fnOf name qual params body scope dV kV doc pm an cdv ct) ps sp:=by
 refine⟨len,fun A outer s H args us vs Q E hr e0 hb r wu=>?_⟩
 have hl:=len _ _ _ _ wu;have KX:K.In s.heap:=e0.mod.RA.keeps fun b o e=>(e0.bs b o e).1
 have lim:s.heap.NoLimit:=e0.mod.nolimit.keeps fun b o e=>(e0.bs b o e).1
 have hkind:∀ y∈ps.zip us,scope.names.lookup y.1=some .local\/(scope.names.lookup y.1=some .cell/\((cellsFrom (s.heap.objs.size+1) scope.names []).lookup y.1).isSome=true):=fun⟨n,v⟩ hy=>by
  rcases S.par n (List.of_mem_zip hy).1 with q|q
  ·exact .inl q
  ·exact .inr ⟨q,PySem.W.cellsFrom_some _ _ _ (.inl q)⟩
 refine codeAny_call_function hr.depth (KX _ _ lk) rfl S.co S.gen rfl (PySem.W.codeRec_of KX hcd) (hb _ _ _ _ ?_);refine wpAny_newFunctionEnv_cells S.kind hkind fun env he s1 x=>?_
 subst he;refine⟨lim.keeps x.toInCall.keep,codeAny_func ?_⟩;obtain⟨t,ht,hq⟩:=hbody A outer s H vs Q E (hr.deeper _) wu;have I:Inv (rS CX P w K mg base N qual scope f cdv A outer s H E) [] (start N vs) H s1:=D7 S hr.hd e0 hl r x;refine wpAny_mono (ht [] s1 (start N vs) H _ I hq) (fun fl s' hs=>?_) fun e s' hs=>hs
 have fin:∀{σ' : St} {H' : Hp} {v:V} {u:Value},Inv (rS CX P w K mg base N qual scope f cdv A outer s H E) [] σ' H' s'->RelV v u->Q v H'->CE outer P w H s Q u s' :=
  fun {σ' H' v u} J rv q=>⟨v,H',J.os,J.bare,J.base,J.hok,rv,q⟩
 cases fl with
 | ret u =>
   obtain⟨v,σ',H',J,rv,q⟩:=hs;exact fin J rv q
 | next =>
   obtain⟨σ',H',J,q⟩:=hs;exact fin (v:=V.dU) (u:=Value.none) J rfl q
 | brk =>
   obtain⟨_,_,_,q⟩:=hs;exact False.elim q
 | cont =>
   obtain⟨_,_,_,q⟩:=hs;exact False.elim q
section
variable {X:Cx}{x:Str}{p pos:Pos}{e:Expr}{es:List Expr}{t:TA}{id T:String}{r:List V->Hp->VK->Prop}
def SV(r:List V->Hp->VK->Prop)(t:TA):TE:=fun σ H Q=>t σ H fun vs H1=>r vs H1 Q
theorem dm(hc:e7 X (.builtin id) r)(hg:Gl X x)(hm:X.mg x=none)(hv:bootBuiltins x=some (.builtin id))(ha:PA X (e::es) t)(hn:x≠"__name__":=by decide)(hdb:(x==("__debug__":Str))=false:=by decide)
 (he:starEach (e::es) X.env=(false,eval e X.env)::starEach es X.env:=by rfl) (hpl:(backTo pos (starEach es X.env)).any (·.1)=false:=by rfl):PE X (.Call (.Name x p) (e::es) [] pos) (SV r t):=by
 intro pq s σ H Q I h;refine wpAny_Call_Name_kw (lq I hg hm hv ?_ hn hdb);exact PyProof.Rows.callWith_builtin1 (cK (ha pos pq s σ H _ I h) fun us s1 ⟨vs,H1,I1,r1,q1⟩=>hc pq s1 σ H1 vs us Q I1 r1 q1) he hpl
theorem cA(hc:e7 X (.type T) r)(hg:Gl X x)(hm:X.mg x=none)(hv:bootBuiltins x=some (.type T))(ha:PA X (e::es) t)(hn:x≠"__name__":=by decide)(hdb:(x==("__debug__":Str))=false:=by decide)
 (he:starEach (e::es) X.env=(false,eval e X.env)::starEach es X.env:=by rfl) (hpl:(backTo pos (starEach es X.env)).any (·.1)=false:=by rfl):PE X (.Call (.Name x p) (e::es) [] pos) (SV r t):=by
 intro pq s σ H Q I h;refine wpAny_Call_Name_kw (lq I hg hm hv ?_ hn hdb);exact PyProof.Rows.callWith_type1 (cK (ha pos pq s σ H _ I h) fun us s1 ⟨vs,H1,I1,r1,q1⟩=>hc pq s1 σ H1 vs us Q I1 r1 q1) he hpl
end
end L2
namespace HT
open PySem PyProof.Rows
def lexLt:List Int->List Int->Bool
 | [],[]=>false
 | [],_::_=>true
 | _::_,[]=>false
 | x::xs,y::ys=>if x=y then lexLt xs ys else decide (x<y)
theorem gB(x y:Int)(xs ys:List Int):lexLt (x::xs) (y::ys)=if x=y then lexLt xs ys else decide (x<y):=rfl
theorem m3:lexLt [] []=false:=rfl
theorem tG(y:Int)(ys:List Int):lexLt [] (y::ys)=true:=rfl
theorem fV(x:Int)(xs:List Int):lexLt (x::xs) []=false:=rfl
theorem zb(A:Around)(s:Shared)(a:Int)(t:Tok)(c:Int)(u:Tok):∃ e,SeqAt.EqAt A s (.int a t) (.int c u) e/\(e=true↔a=c) :=
 ⟨(a==c),SeqAt.EqAt.int_int a t c u,by simp⟩
theorem Gv(A:Around)(s:Shared)(a:Int)(t:Tok)(c:Int)(u:Tok)(prog:Program)(w:World)(E:di)(Q:di)(h:Q (.bool (decide (a<c))) s):
 wpAny (model prog w) A (richCompare .Lt (.int a t) (.int c u)) Q E s :=
 (PyProof.Rows.lt_int h:wpAny (model prog w) A (compareOp .Lt (.int a t) (.int c u)) Q E s)
section
open PySem.SeqAt
open PySem.AutoSeq1 (wpAny_loadPart')
open PySem.MeetsSeq PySem.MeetsSeq2 PySem.MeetsSeq3
theorem vo(l b:Addr)(items items2:Array Value)(n n2:Nat)(dd dd2:Option Addr)(sl sl2:Array (Option Value))(ns ms:List Int)(hi:IntsAre items.toList ns)(hj:IntsAre items2.toList ms):
 Meets (Builtin.«tuple.__lt__» ⟨[.ref l,.ref b],[]⟩)
  (fun _ R s=>s.heap.get? l=some { cls:=.type "tuple",dict:=dd,data:=.seq items n,slots:=sl}/\s.heap.get? b=some { cls:=.type "tuple",dict:=dd2,data:=.seq items2 n2,slots:=sl2}/\
   R (.ok (.ret (.bool (lexLt ns ms)))) s) :=
 .of_wp fun prog w A R s h=>by
  obtain⟨hp,g,d,tk,os⟩:=s;obtain⟨hl,hb,h⟩:=h;have f2:=AutoSeq1.sub_tuple_tuple;have z1:items.size=ns.length:=by rw[<-hi.length];simp
  have z2:items2.size=ms.length:=by rw[<-hj.length];simp
  wp_walk using wpAny_loadPart' hl,wpAny_loadPart' hb,wpAny_forIn_list _ (fun rest b s'=>b.1=none/\s' = ⟨hp,g,d,tk,os⟩/\∃(vs ws:List Value) (ns' ms' : List Int),rest=vs.zip ws/\
   IntsAre vs ns'/\IntsAre ws ms'/\ns'.length+items2.size=ms'.length+items.size/\R (.ok (.ret (.bool (lexLt ns' ms')))) ⟨hp,g,d,tk,os⟩) _
  case turn =>
   rintro⟨y,x⟩ rest b s' ⟨hb',rfl,vs,ws,ns',ms',hz,LP,hwi,hlen,hR⟩;cases LP with
   | nil=>rw[List.zip_nil_left]at hz;cases hz
   | cons a t hvi' =>
     cases hwi with
     | nil=>rw[List.zip_nil_right]at hz;cases hz
     | cons c u hwi' =>
       rw[List.zip_cons_cons]at hz;injection hz with hyx hrest
       injection hyx with hy hx
       subst hy hx;rw[gB]at hR;simp only[List.length_cons]at hlen;obtain⟨e,he,Gw⟩:=zb A.in1 ⟨hp,g,d,tk,os⟩ a t c u;refine wpAny_bind (he prog w _ _ ?_);cases e with
       | true =>
         rw[if_pos (Gw.mp rfl)]at hR
         wp_walk
         exact⟨rfl,rfl,_,_,_,_,hrest,hvi',hwi',by lia,hR⟩
       | false =>
         rw[if_neg (fun q=>absurd (Gw.mpr q) Bool.false_ne_true)]at hR
         have J8:=Gv A.in1 ⟨hp,g,d,tk,os⟩ a t c u prog w
         wp_walk using J8
         exact⟨_,rfl,by simpa using hR⟩
  case fin =>
   rintro⟨b1,b2⟩ s' ⟨hb',rfl,vs,ws,ns',ms',hz,LP,hwi,hlen,hR⟩;simp only at hb';subst hb';have hv:lexLt ns' ms' = decide (items.size<items2.size):=by
    cases LP with
    | nil =>
      cases hwi with
      | nil =>
        simp only[List.length_nil]at hlen;rw[m3];exact(cR (by lia)).symm
      | cons c u hw =>
        simp only[List.length_nil,List.length_cons]at hlen;rw[tG];exact(cD (by lia)).symm
    | cons a t hv =>
      cases hwi with
      | nil =>
        simp only[List.length_nil,List.length_cons]at hlen;rw[fV];exact(cR (by lia)).symm
      | cons c u hw =>
        rw[List.zip_cons_cons]at hz;cases hz
   rw[hv]at hR
   wp_walk
   exact⟨_,rfl,by simpa[Builtin.Tuple.tupleCompareSizes]using hR⟩
  case h =>
   exact⟨rfl,rfl,items.toList,items2.toList,ns,ms,rfl,hi,hj,by lia,h⟩
end
section
variable {prog:Program}{w:World}{A:Around}{E:di}{s:Shared}
theorem Bf{l b:Addr}{items items2:Array Value}{ns ms:List Int}{Q:di}(hl:IsTup s.heap l items)(hb:IsTup s.heap b items2)(hi:IntsAre items.toList ns)(hj:IntsAre items2.toList ms)
 (hu:A.units<cLine) (h:Q (.bool (lexLt ns ms)) s):wpAny (model prog w) A (compareOp .Lt (.ref l) (.ref b)) Q E s:=by
 obtain⟨⟨cls,dd,data,sl⟩,ho,hc,n,hd⟩:=id hl;obtain⟨⟨SW,dd2,data2,sl2⟩,ho2,hc2,n2,hd2⟩:=id hb;simp only at hc hd hc2 hd2;subst hc hd hc2 hd2;exact richCompare_meets_room (op:=.Lt) ⟨_,ho,rfl⟩ ⟨_,ho2,rfl⟩ PySem.F.slot_tuple_lt PySem.F.entry_tuple_lt (PySem.F.args_tuple_lt_2 _ _) (vo l b items items2 n n2 dd dd2 sl sl2 ns ms hi hj)
  ⟨ho,ho2,show Value.bool (lexLt ns ms)≠Value.notImplemented/\Q (.bool (lexLt ns ms)) s from⟨(fun x=>nomatch x),h⟩⟩ hu
def fF(n d:Nat):Option Int->Nat
 | none=>d
 | some v=>if v<0 then(v+(n:Int)).toNat else min v.toNat n
theorem Gx(n d:Nat):fF n d none=d:=rfl
theorem J9(n d k:Nat):fF n d (some (k:Int))=min k n:=by
 show(if(k:Int)<0 then((k:Int)+(n:Int)).toNat else min (k:Int).toNat n)=min k n
 rw[if_neg (by lia),Int.toNat_natCast]
theorem MM(n d:Nat)(hd:d<=n)(o:Option Int):fF n d o<=n:=by
 cases o with
 | none=>exact hd
 | some v =>
   show(if v<0 then(v+(n:Int)).toNat else min v.toNat n)<=n
   by_cases hv:v<0
   ·rw[if_pos hv];lia
   ·rw[if_neg hv];exact Nat.min_le_right _ _
theorem CY(v:Int)(n d:Nat):(if v<0 then max (v+(n:Int)) 0 else min v (n:Int))=((fF n d (some v):Nat):Int):=by
 show(if v<0 then max (v+(n:Int)) 0 else min v (n:Int))=(((if v<0 then(v+(n:Int)).toNat else min v.toNat n):Nat):Int)
 by_cases hv:v<0
 ·simp only[if_pos hv];lia
 ·simp only[if_neg hv];lia
theorem Bg(lo hi:Option Int)(n:Nat):Builtin.Slice.sliceAdjust lo hi 1 (n:Int)=(((fF n 0 lo:Nat):Int),((fF n n hi:Nat):Int)):=by
 have h1 : ¬((1:Int)<0):=by lia
 unfold Builtin.Slice.sliceAdjust;simp only[h1,if_false];refine Prod.ext ?_ ?_
 ·cases lo with
  | none=>rfl
  | some v=>exact CY v n 0
 ·cases hi with
  | none=>rfl
  | some v=>exact CY v n n
theorem Bh(i j:Nat):Builtin.Slice.slicePlaces (i:Int) (j:Int) 1=j-i:=by
 unfold Builtin.Slice.slicePlaces;have h1:(1:Int) > 0:=by lia
 simp only[h1,if_true,Int.ediv_one]
 split<;>lia
theorem tH{v:Value}{o:Option Int}{Q:Option Int->Shared->Prop}(p:IsPart v o)(h:Q o s):wpAny (model prog w) A (Builtin.Slice.slicePartIndex v) Q E s:=by
 cases p with
 | none=>exact slicePart_none h
 | int i t=>exact slicePart_int h
theorem pV{sl:Addr}{vl vu:Value}{lo hi:Option Int}{n:Nat}{Q:Int×Int×Nat->Shared->Prop}(hs:s.heap.IsSliceOf sl vl vu .none)(pl:IsPart vl lo)(pu:IsPart vu hi)
 (h:Q (((fF n 0 lo:Nat):Int),1,fF n n hi-fF n 0 lo) s):wpAny (model prog w) A (Builtin.Slice.sliceApplied (.ref sl) (pure (n:Int))) Q E s:=by
 obtain⟨os,hos,hcs,hds⟩:=id hs;unfold Builtin.Slice.sliceApplied Builtin.Slice.sliceFields;refine wpAny_bind (wpAny_bind (wpAny_field hos hds (x:=vl) rfl (wpAny_bind (wpAny_field hos hds (x:=vu) rfl (wpAny_bind (wpAny_field hos hds (x:=.none) rfl (wpAny_pure ?_)))))));refine wpAny_bind (slicePart_none ?_);show wpAny _ _ (if((1:Int)==0)=true then _ else _) _ _ s
 rw[if_neg (by decide)]
 refine wpAny_bind (tH pl (wpAny_bind (tH pu (wpAny_bind (wpAny_pure ?_)))));show wpAny _ _ (match Builtin.Slice.sliceAdjust lo hi 1 (n:Int) with | (lo,hi)=>pure (lo,(1:Int),Builtin.Slice.slicePlaces lo hi 1)) _ _ s
 rw[Bg lo hi n];show wpAny _ _ (pure (((fF n 0 lo:Nat):Int),(1:Int),Builtin.Slice.slicePlaces ((fF n 0 lo:Nat):Int) ((fF n n hi:Nat):Int) 1)) _ _ s;rw[Bh];exact wpAny_pure h
theorem Gy(xs:Array Value)(i k:Nat):((List.range k).filterMap fun(m:Nat)=>xs[((i:Int)+(m:Int)*1).toNat]?).toArray=((xs.toList.drop i).take k).toArray:=by
 have e:(fun(m:Nat)=>xs[((i:Int)+(m:Int)*1).toNat]?)=fun m=>xs[i+m]?:=by
  funext m
  have:((i:Int)+(m:Int)*1).toNat=i+m:=by lia
  rw[this]
 rw[e];have:=pick_run xs i k;rw[List.filterMap_map]at this;have e2:((fun x=>xs[x]?)∘fun x=>i+x)=fun m=>xs[i+m]?:=rfl
 rw[e2]at this;rw[this]
theorem nZ{t sl:Addr}{items:Array Value}{vl vu:Value}{lo hi:Option Int}{Q:di}(ht:IsTup s.heap t items)(hs:s.heap.IsSliceOf sl vl vu .none)(pl:IsPart vl lo)(pu:IsPart vu hi)
 (hw : ¬(fF items.size 0 lo=0/\fF items.size items.size hi=items.size))
 (h:Q (.ref s.heap.objs.size) { s with heap:=s.heap.push { cls:=.type "tuple",data:=.seq ((items.toList.drop (fF items.size 0 lo)).take (fF items.size items.size hi-fF items.size 0 lo)).toArray}})
 (hsz:items.size<=sizeLine):wpAny (model prog w) A (getItem (.ref t) (.ref sl)) Q E s:=by
 have CZ:sizeOk (.seq ((items.toList.drop (fF items.size 0 lo)).take (fF items.size items.size hi-fF items.size 0 lo)).toArray):=by
  show((items.toList.drop (fF items.size 0 lo)).take (fF items.size items.size hi-fF items.size 0 lo)).toArray.size<=sizeLine;rw[List.size_toArray,List.length_take,List.length_drop,Array.length_toList]
  lia
 have hj:fF items.size items.size hi<=items.size:=MM _ _ (Nat.le_refl _) hi;obtain⟨os,hos,hcs,hds⟩:=id hs;have XE:s.TypeIs (.ref sl) "slice":=⟨os,hos,hcs⟩;unfold getItem
 try with_reducible refine wpAny_holding ?_
 first | refine wpAny_bind (wpAny_pure ?_) | skip
 refine wpAny_bind (wpAny_sequenceKey ht.typeIs (by decide) ?_)
 refine wpAny_bind (wpAny_callSpecial?_slot (name:=Str.ofString "__getitem__") ht.typeIs PyProof.Rows.slot_tuple_getitem
  (wpAny_call_entry PyProof.Rows.slot_tuple_getitem ht.typeIs entry_tuple_getitem ?_ (args_tuple_getitem _ _)))
 show wpAny _ _ (Builtin.Tuple.tupleItemsOf (.ref t) >>= _) _ _ s;refine wpAny_bind (tupleItemsOf_ ht ?_);refine wpAny_bind (wpAny_typeOf XE ?_);rw[if_pos (by decide)]
 refine wpAny_bind (pV hs pl pu ?_);have hno : ¬((((fF items.size 0 lo:Nat):Int)==0&&(1:Int)==1&&(fF items.size items.size hi-fF items.size 0 lo)==items.size)=true):=by
  intro q;rw[Bool.and_eq_true,Bool.and_eq_true]at q;have q1:((fF items.size 0 lo:Nat):Int)=0:=eq_of_beq q.1.1;have q2:fF items.size items.size hi-fF items.size 0 lo=items.size:=eq_of_beq q.2;exact hw ⟨by lia,by lia⟩
 show wpAny _ _ (if(((fF items.size 0 lo:Nat):Int)==0&&(1:Int)==1&&(fF items.size items.size hi-fF items.size 0 lo)==items.size)=true then _ else _) _ _ s
 rw[if_neg hno,Gy]
 first
  | exact wpAny_bind (m:=Builtin.Tuple.tupleExact _) (wpAny_newObj_type (wpAny_pure ⟨_,rfl,wpAny_pure h⟩) CZ)
  | exact wpAny_bind (m:=Builtin.Tuple.tupleExact _) (wpAny_newObj_type (wpAny_bind (wpAny_pure (wpAny_pure ⟨_,rfl,wpAny_pure h⟩))) CZ)
  | exact wpAny_bind (wpAny_bind (m:=Builtin.Tuple.tupleExact _) (wpAny_newObj_type (wpAny_pure (wpAny_pure ⟨_,rfl,wpAny_pure h⟩)) CZ))
  | exact wpAny_bind (wpAny_bind (m:=Builtin.Tuple.tupleExact _) (wpAny_newObj_type (wpAny_pure ⟨_,rfl,wpAny_pure h⟩) CZ))
end
end HT
namespace L2
open PySem PySem.Spec PyProof.Rows
abbrev TO:=St->Hp->(Option Int->Hp->Prop)->Prop
def PO(X:Cx)(e:Option Expr)(t:TO):Prop :=
 ∀(pq:aR) (s:Shared) (σ:St) (H:Hp) (Q:Option Int->Hp->Prop),Inv X pq σ H s->t σ H Q->
  wpAny (model X.prog X.w) X.A (evalPart e X.env) (fun u s'=>∃ o H',Inv X pq σ H' s'/\IsPart u o/\Q o H') X.xe s
def Ka:TO:=fun _ H Q=>Q none H
def Pq(t:TE):TO:=fun σ H Q=>t σ H fun x H1=>∃ i,x = .int i/\Q (some i) H1
theorem intsAre_of{ns:List Int}:∀{us:List Value},Vals (ns.map V.int) us->IntsAre us ns:=by
 induction ns with
 | nil=>intro us r;rw[List.map_nil]at r;cases r;exact .nil
 | cons n ns ih =>
   intro us r;rw[List.map_cons]at r;cases r with
   | cons r1 r2 =>
     obtain⟨t,e⟩:=r1;subst e;exact .cons n t (ih r2)
section
variable {X:Cx}{e:Expr}{te:TE}{lo hi:Option Expr}{tl th:TO}{pos p2:Pos}
theorem sG:PO X none Ka:=by
 intro pq s σ H Q I h;rw[evalPart_none];exact wpAny_pure ⟨none,H,I,.none,h⟩
theorem sH(h:PE X e te):PO X (some e) (Pq te):=by
 intro pq s σ H Q I hw;rw[evalPart_some];refine cK (h pq s σ H _ I hw) fun u s1 ⟨x,H1,I1,r1,q1⟩=>?_
 obtain⟨i,rfl,q⟩:=q1;obtain⟨t,rfl⟩:=r1;exact⟨some i,H1,I1,.int i t,q⟩
def Pu(X:Cx)(r:V->Option Int->Option Int->Hp->VK->Prop):Prop :=
 ∀(pq:aR) (s:Shared) (σ:St) (H:Hp) (x:V) (v vl vu:Value) (lo hi:Option Int) (sl:Addr) (Q:VK),Inv X pq σ H s->RelV x v->s.heap.IsSliceOf sl vl vu .none->IsPart vl lo->IsPart vu hi->r x lo hi H Q->
  ∃ T id,typeLookup (.type T) "__getitem__"=pure (some (.builtin id))/\s.TypeIs v T/\wpAny (model X.prog X.w) X.A (getItem v (.ref sl)) (EP X pq σ Q) X.xe s
def XF(r:V->Option Int->Option Int->Hp->VK->Prop)(te:TE)(tl th:TO):TE:=fun σ H Q=>te σ H fun x H1=>tl σ H1 fun l H2=>th σ H2 fun u H3=>r x l u H3 Q
theorem n5{r:V->Option Int->Option Int->Hp->VK->Prop}(hr:Pu X r)(he:PE X e te)(hl:PO X lo tl)(hu:PO X hi th):PE X (.Subscript e (.Slice lo hi none p2) pos) (XF r te tl th):=by
 intro pq s σ H Q I h;refine Subscript_ (cK (he pq s σ H _ I h) fun v s1 ⟨x,H1,I1,r1,q1⟩=>?_)
 refine wpAny_Slice (cK (hl pq s1 σ H1 _ I1 q1) fun vl s2 ⟨l,H2,I2,pl,q2⟩=>cK (hu pq s2 σ H2 _ I2 q2) fun vu s3 ⟨u,H3,I3,pu,q3⟩=>?_)
 rw[evalPart_none];refine wpAny_pure ?_;have I4:Inv X pq σ H3 { s3 with heap:=s3.heap.push { cls:=.type "slice",data:=.fields #[vl,vu,.none]}}:=I3.kept (t':=s3.toks) fun b ob q=>Heap.get?_push_of_some _ q
 obtain⟨T,id,hT,ht,hg⟩:=hr pq { s3 with heap:=s3.heap.push { cls:=.type "slice",data:=.fields #[vl,vu,.none]}} σ H3 x v vl vu l u s3.heap.objs.size Q I4 r1 (Heap.IsSliceOf.new ..) pl pu q3
 show wpAny (model X.prog X.w) X.A (subscriptTail e (.Slice lo hi none p2) v (.ref s3.heap.objs.size)) (EP X pq σ Q) X.xe { s3 with heap:=s3.heap.push { cls:=.type "slice",data:=.fields #[vl,vu,.none]}}
 exact tail_any (ops:=[.ref s3.heap.objs.size,v]) ht hT hg (by with_unfolding_all rfl)
def rT(xs:List V)(lo hi:Option Int):List V:=(xs.drop (HT.fF xs.length 0 lo)).take (HT.fF xs.length xs.length hi-HT.fF xs.length 0 lo)
theorem rG(xs:List V)(lo hi:Option Int):(rT xs lo hi).length<=xs.length:=by
 unfold rT;rw[List.length_take,List.length_drop]
 lia
def Pw(K:bX):V->Option Int->Option Int->Hp->VK->Prop:=fun x lo hi H Q=>∃ a xs,x = .ref a/\aQ K H a xs/\
 ¬(HT.fF xs.length 0 lo=0/\HT.fF xs.length xs.length hi=xs.length)/\∀ p,H p=none->Q (.ref p) (upd H p (.tup (rT xs lo hi)))
theorem MN:Pu X (Pw X.K):=by
 intro pq s σ H x v vl vu lo hi sl Q I rx hs pl pu h;obtain⟨a,xs,rfl,hx,hw,q⟩:=h;cases rx;obtain⟨its,r,ht,hz⟩:=I.tuple hx;have hlen:its.toArray.size=xs.length:=by rw[List.size_toArray];exact r.length.symm
 refine⟨"tuple",_,PyProof.Rows.slot_tuple_getitem.lookup,ht.typeIs,?_⟩;refine HT.nZ ht hs pl pu (by rw[hlen];exact hw) ?_ (by rw[hlen];exact hz)
 rw[hlen];refine⟨.ref s.heap.objs.size,_,I.laid (t':=s.toks) (o:=.tup (rT xs lo hi)) (fun b ob q=>Heap.get?_push_of_some _ q) (Nat.le_refl _) ?_,rfl,q _ (I.hok.fresh (Nat.le_refl _))⟩
 exact⟨Nat.le_trans (rG xs lo hi) hz,_,(r.drop (HT.fF xs.length 0 lo)).take (HT.fF xs.length xs.length hi-HT.fF xs.length 0 lo),IsTup.new _ _⟩
end
def Kc(n:Nat)(i:Int):Option Nat:=if 0<=i then(if i<n then some i.toNat else none) else if -(n:Int)<=i then some (i+n).toNat else none
def D8{α:Type}(xs:List α)(i:Int):Option α:=(Kc xs.length i).bind fun j=>xs[j]?
theorem C1{n:Nat}{i:Int}{j:Nat}(h:Kc n i=some j):seqIndex? i n=some j/\j<n/\-(n:Int)<=i/\i<n:=by
 unfold Kc at h
 by_cases h0:0<=i
 ·rw[if_pos h0]at h
  by_cases h1:i<n
  ·rw[if_pos h1]at h;have e:i.toNat=j:=Option.some.inj h;exact⟨by rw[seqIndex_of h0 h1,e],by lia,by lia,h1⟩
  ·rw[if_neg h1]at h;cases h
 ·rw[if_neg h0]at h
  by_cases h1 : -(n:Int)<=i
  ·rw[if_pos h1]at h;have e:(i+n).toNat=j:=Option.some.inj h;exact⟨by rw[seqIndex_neg (by lia) h1,e],by lia,h1,by lia⟩
  ·rw[if_neg h1]at h;cases h
theorem C3{α:Type}{xs:List α}{i:Int}{v:α}(h:D8 xs i=some v):∃ j,seqIndex? i xs.length=some j/\xs[j]?=some v/\j<xs.length/\-(xs.length:Int)<=i/\i<xs.length:=by
 unfold D8 at h;cases e:Kc xs.length i with
 | none=>rw[e]at h;cases h
 | some j =>
   rw[e]at h;obtain⟨h1,h2,h3,h4⟩:=C1 e;exact⟨j,h1,h,h2,h3,h4⟩
theorem ai{α:Type}{xs:List α}{j:Nat}{v:α}(h:xs[j]?=some v):D8 xs (j:Int)=some v:=by
 have hj:j<xs.length:=(iH.mp h).1;have e:Kc xs.length (j:Int)=some j:=by
  unfold Kc;rw[if_pos (by lia),if_pos (by lia)];simp
 unfold D8;rw[e];exact h
def C4(b:Expr):Prop:=∀ o i,subscripted b false o i=operate [o,i] (getItem o i)
def Ot(X:Cx)(r:R2):Prop :=
 ∀(value slice:Expr) (pq:aR) (s:Shared) (σ:St) (H:Hp) (x y:V) (v u:Value) (Q:VK),Inv X pq σ H s->RelV x v->RelV y u->r x y H Q->
  subscripted slice false v u=operate [v,u] (getItem v u)->wpAny (model X.prog X.w) X.A (subscriptTail value slice v u) (EP X pq σ Q) X.xe s
def SX(X:Cx)(id:String)(r:V->List V->Hp->VK->Prop):Prop :=
 ∀(pq:aR) (s:Shared) (σ:St) (H:Hp) (x:V) (xs:List V) (v:Value) (us:List Value) (Q:VK),Inv X pq σ H s->RelV x v->Vals xs us->r x xs H Q->
  wpAny (model X.prog X.w) X.A (call (.builtin id) (v::us)) (EP X pq σ Q) X.xe s
section
variable {X:Cx}{a b:Expr}{ta tb:TE}{pos:Pos}
theorem Px{r:R2}(hr:Ot X r)(ha:PE X a ta)(hb:PE X b tb)(hs:C4 b):PE X (.Subscript a b pos) (Ph r ta tb):=by
 intro pq s σ H Q I h;exact Subscript_ (MG ha hb I h fun v u s2 x y H2 I2 rx ry q=>hr a b pq s2 σ H2 x y v u Q I2 rx ry q (hs _ _))
def Py(K:bX):R2:=fun x y H Q=>∃ p xs i v,x = .ref p/\y = .int i/\aK K H p xs/\D8 xs i=some v/\Q v H
def Pz(K:bX):R2:=fun x y H Q=>∃ p xs i v,x = .ref p/\y = .int i/\aQ K H p xs/\D8 xs i=some v/\Q v H
theorem Kd:Ot X (Py X.K):=by
 intro value slice pq s σ H x y v u Q I rx ry h hs;obtain⟨p,xs,i,z,rfl,rfl,hq,he,q⟩:=h;cases rx;obtain⟨t,rfl⟩:=ry;obtain⟨its,r,pl,hz⟩:=I.list hq;obtain⟨j,h1,h2,h3,h4,h5⟩:=C3 he;obtain⟨w,ew,rw'⟩:=r.get h2;have hl:=r.length;have hn:=pR;have fin:EP X pq σ Q w s:=⟨z,H,I,rw',q⟩
 by_cases h0:0<=i
 ·have hj:i.toNat=j:=by
   rw[seqIndex_of h0 h5]at h1;exact Option.some.inj h1
  exact item_listR pl.isList h0 (by lia) (by rw[hj];simpa using ew) fin hs
 ·have hj:(i+(its.toArray.size:Int)).toNat=j:=by
   rw[seqIndex_neg (by lia) h4]at h1
   rw[List.size_toArray,<-hl];exact Option.some.inj h1
  exact subscriptTail_builtinR (x:=w) pl.isList.typeIs slot_list_getitem.lookup
   (wpAny_getItem_list_neg (Q:=fun r s'=>r=w/\EP X pq σ Q r s') pl.isList (by lia) (by rw[List.size_toArray]<;>lia) (by lia) (by rw[hj];simpa using ew) ⟨rfl,fin⟩) hs
theorem MO:Ot X (Pz X.K):=by
 intro value slice pq s σ H x y v u Q I rx ry h hs;obtain⟨p,xs,i,z,rfl,rfl,hq,he,q⟩:=h;cases rx;obtain⟨t,rfl⟩:=ry;obtain⟨its,r,pl,hz⟩:=I.tuple hq;obtain⟨j,h1,h2,h3,h4,h5⟩:=C3 he;obtain⟨w,ew,rw'⟩:=r.get h2;have hl:=r.length;have hn:=pR;have fin:EP X pq σ Q w s:=⟨z,H,I,rw',q⟩;exact subscriptTail_builtinR (x:=w) pl.typeIs slot_tuple_getitem.lookup
  (getItem_tuple (j:=j) (Q:=fun r s'=>r=w/\EP X pq σ Q r s') pl (by lia) (by lia) (by rw[List.size_toArray,<-hl];exact h1) (by simpa using ew) ⟨rfl,fin⟩) hs
theorem Bj(its:List Value)(n j:Nat)(u:Value):Obj.mapSeq (·.setIfInBounds j u) { cls:=.type "list",data:=.seq its.toArray n}={ cls:=.type "list",data:=.seq (its.set j u).toArray n}:=by
 simp[Obj.mapSeq]
theorem Inv.lst{pq:aR}{σ:St}{H:Hp}{s:Shared}{p:Addr}{xs:List V}(I:Inv X pq σ H s)(h:H p=some (.lst xs)):
 ∃(its:List Value) (n:Nat),Vals xs its/\s.heap.get? p=some { cls:=.type "list",data:=.seq its.toArray n}/\xs.length<=sizeLine:=by
 obtain⟨z,its,n,r,e⟩:=I.hok p _ h;exact⟨its,n,r,e,z⟩
theorem Inv.MP{pq:aR}{σ:St}{H:Hp}{s:Shared}{p:Addr}{xs ys:List V}{its its' : List Value}{n n' : Nat}{f:Obj->Obj}(I:Inv X pq σ H s)(h:H p=some (.lst xs))
 (ho:s.heap.get? p=some { cls:=.type "list",data:=.seq its.toArray n}) (hf:f { cls:=.type "list",data:=.seq its.toArray n}={ cls:=.type "list",data:=.seq its'.toArray n'}) (r:Vals ys its') (hz:ys.length<=sizeLine) (t:Nat) :
 Inv X pq σ (upd H p (.lst ys)) { s with heap:=s.heap.update p f,toks:=t}:=by
 have e:(s.heap.update p f).get? p=some { cls:=.type "list",data:=.seq its'.toArray n'}:=by
  rw[Heap.get?_update_self f ho (by rw[hf]<;>rfl),hf]
 refine I.write (x:=p) (e:=p) (by rw[h];trivial) (.inl rfl) (fun b u hb q=>(Heap.get?_update_other _ _ (Ne.symm hb)).trans q) ⟨_,e⟩ ?_
 exact⟨hz,its',n',r,e⟩
def PB:V->V->V->Hp->(Hp->Prop)->Prop:=fun o i v H Q=>∃ p xs k j,o = .ref p/\i = .int k/\H p=some (.lst xs)/\Kc xs.length k=some j/\Q (upd H p (.lst (xs.set j v)))
theorem set_list:ME X PB:=by
 intro pq s σ H o i v ov iv u Q I ro ri rv h;obtain⟨p,xs,k,j,rfl,rfl,hp,hj,q⟩:=h;cases ro;obtain⟨t,rfl⟩:=ri;obtain⟨its,n,r,ho,hz⟩:=I.lst hp;obtain⟨h1,h2,h3,h4⟩:=C1 hj;have hl:=r.length;have hn:=pR;have I' : Inv X pq σ (upd H p (.lst (xs.set j v))) { s with heap:=s.heap.update p (Obj.mapSeq (·.setIfInBounds j u))} :=
  I.MP hp ho (Bj its n j u) (r.set rv j) (by rw[List.length_set];exact hz) s.toks
 by_cases h0:0<=k
 ·have hk:k.toNat=j:=by
   rw[seqIndex_of h0 h4]at h1;exact Option.some.inj h1
  exact PySem.W.ki_setAt ho h0 (by lia) (by rw[List.size_toArray,<-hl];exact h4) (by rw[hk];exact⟨_,I',q⟩)
 ·have hk:(k+(its.toArray.size:Int)).toNat=j:=by
   rw[seqIndex_neg (by lia) h3]at h1
   rw[List.size_toArray,<-hl];exact Option.some.inj h1
  exact PySem.W.ki_setBack ho (by lia) (by rw[List.size_toArray,<-hl];exact h3) (by lia) (by rw[hk];exact⟨_,I',q⟩)
theorem xO(lo hi:Option Int)(n:Nat):(sliceBounds lo hi none n).1=((HT.fF n 0 lo:Nat):Int)/\(sliceBounds lo hi none n).2.1=((HT.fF n n hi:Nat):Int)/\(sliceBounds lo hi none n).2.2=1:=by
 refine⟨?_,?_,rfl⟩
 ·cases lo with
  | none=>simp[sliceBounds,HT.fF]
  | some i =>
    simp only[sliceBounds,HT.fF,Option.getD_none,show(1:Int) > 0 by decide,if_true]
    by_cases h:i<0
    ·simp only[h,if_true]<;>lia
    ·simp only[h,if_false]<;>lia
 ·cases hi with
  | none=>simp[sliceBounds,HT.fF]
  | some i =>
    simp only[sliceBounds,HT.fF,Option.getD_none,show(1:Int) > 0 by decide,if_true]
    by_cases h:i<0
    ·simp only[h,if_true]<;>lia
    ·simp only[h,if_false]<;>lia
theorem vp(its:List Value)(lo hi:Option Int):slicePick its.toArray lo hi none=((its.drop (HT.fF its.length 0 lo)).take (HT.fF its.length its.length hi-HT.fF its.length 0 lo)).toArray:=by
 obtain⟨h1,h2,h3⟩:=xO lo hi its.toArray.size;unfold slicePick;rw[h1,h2,h3];simp only[sliceRange_one,pick_run,List.size_toArray]<;>rfl
def PD(K:bX):V->Option Int->Option Int->Hp->VK->Prop:=fun x lo hi H Q=>∃ a xs,x = .ref a/\aK K H a xs/\∀ p,H p=none->Q (.ref p) (upd H p (.lst (rT xs lo hi)))
theorem Ke:Pu X (PD X.K):=by
 intro pq s σ H x v vl vu lo hi sl Q I rx hs pl pu h;obtain⟨a,xs,rfl,hx,q⟩:=h;cases rx;obtain⟨its,r,ht,hz⟩:=I.list hx;have hlen:=r.length;refine⟨"list",_,slot_list_getitem.lookup,ht.isList.typeIs,?_⟩;refine wpAny_getItem_list_slice ht.isList hs pl pu .none (by simp) ?_ (by rw[List.size_toArray]<;>lia)
 rw[vp,<-hlen];refine⟨.ref s.heap.objs.size,_,I.laid (t':=s.toks) (o:=.lst (rT xs lo hi)) (fun b ob q=>Heap.get?_push_of_some _ q) (Nat.le_refl _) ?_,rfl,q _ (I.hok.fresh (Nat.le_refl _))⟩
 exact⟨Nat.le_trans (rG xs lo hi) hz,_,0,(r.drop (HT.fF xs.length 0 lo)).take (HT.fF xs.length xs.length hi-HT.fF xs.length 0 lo),Heap.get?_push_size _ rfl⟩
def n6:V->Bool
 | .dU=>true
 | .bl _=>true
 | .int _=>true
 | .str _=>true
 | _=>false
def Kf:V->V->Bool
 | .dU,.dU=>true
 | .bl a,.bl b=>a==b
 | .bl a,.int b=>(if a then 1 else 0)==b
 | .int a,.bl b=>a==(if b then 1 else 0)
 | .int a,.int b=>a==b
 | .str a,.str b=>a==b
 | _,_=>false
theorem MQ{A:Around}{s:Shared}{y x:V}{u v:Value}(ry:RelV y u)(rx:RelV x v)(fy:n6 y=true)(fx:n6 x=true):SeqAt.EqAt A s u v (Kf y x):=by
 cases y with
 | dU =>
   cases ry;cases x with
   | dU=>cases rx;exact SeqAt.EqAt.same _
   | bl b=>cases rx;exact SeqAt.EqAt.none_bool b
   | int b=>obtain⟨t,rfl⟩:=rx;exact SeqAt.EqAt.none_int b t
   | str b=>obtain⟨t,rfl⟩:=rx;exact SeqAt.EqAt.none_str b t
   | _=>exact absurd (show false=true from fx) Bool.false_ne_true
 | bl a =>
   cases ry;cases x with
   | dU=>cases rx;exact SeqAt.EqAt.bool_none a
   | bl b=>cases rx;exact SeqAt.EqAt.bool_bool a b
   | int b=>obtain⟨t,rfl⟩:=rx;exact SeqAt.EqAt.bool_int a b t
   | str b=>obtain⟨t,rfl⟩:=rx;exact SeqAt.EqAt.bool_str a b t
   | _=>exact absurd (show false=true from fx) Bool.false_ne_true
 | int a =>
   obtain⟨t',rfl⟩:=ry;cases x with
   | dU=>cases rx;exact SeqAt.EqAt.int_none a t'
   | bl b=>cases rx;exact SeqAt.EqAt.int_bool a t' b
   | int b=>obtain⟨t,rfl⟩:=rx;exact SeqAt.EqAt.int_int a t' b t
   | str b=>obtain⟨t,rfl⟩:=rx;exact SeqAt.EqAt.int_str a t' b t
   | _=>exact absurd (show false=true from fx) Bool.false_ne_true
 | str a =>
   obtain⟨t',rfl⟩:=ry;cases x with
   | dU=>cases rx;exact SeqAt.EqAt.str_none a t'
   | bl b=>cases rx;exact SeqAt.EqAt.str_bool a t' b
   | int b=>obtain⟨t,rfl⟩:=rx;exact SeqAt.EqAt.str_int a t' b t
   | str b=>obtain⟨t,rfl⟩:=rx;exact SeqAt.EqAt.str_str a t' b t
   | _=>exact absurd (show false=true from fx) Bool.false_ne_true
 | _=>exact absurd (show false=true from fy) Bool.false_ne_true
def Bk(x:V)(u:Value):Bool:=match u with
 | .none=>Kf .dU x
 | .bool b=>Kf (.bl b) x
 | .int i _=>Kf (.int i) x
 | .str z _=>Kf (.str z) x
 | _=>false
theorem Gz{x y:V}{u:Value}(r:RelV y u)(f:n6 y=true):Bk x u=Kf y x:=by
 cases y with
 | dU=>cases r;rfl
 | bl b=>cases r;rfl
 | int i=>obtain⟨t,rfl⟩:=r;rfl
 | str z=>obtain⟨t,rfl⟩:=r;rfl
 | _=>exact absurd (show false=true from f) Bool.false_ne_true
theorem n8{x:V}:∀{xs:List V} {us:List Value},Vals xs us->xs.all n6=true->us.any (Bk x)=xs.any fun y=>Kf y x
 | _,_,.nil,_=>rfl
 | y::xs,u::us,.cons r t,f=>by
   rw[List.all_cons,Bool.and_eq_true]at f;rw[List.any_cons,List.any_cons,Gz r f.1,n8 t f.2]
theorem lA{A:Around}{s:Shared}{x:V}{v:Value}(rx:RelV x v)(fx:n6 x=true):∀{xs:List V} {us:List Value},Vals xs us->xs.all n6=true->∀ u∈us,SeqAt.EqAt A s u v (Bk x u)
 | _,_,.nil,_=>fun u hu=>by cases hu
 | y::xs,u::us,.cons r t,f=>fun u' hu=>by
   rw[List.all_cons,Bool.and_eq_true]at f;rcases List.mem_cons.mp hu with rfl|hu
   ·rw[Gz r f.1];exact MQ r rx f.1 fx
   ·exact lA rx fx t f.2 u' hu
def LQ(x:V)(xs:List V):Bool:=xs.any fun y=>Kf y x
def RI(K:bX)(neg:Bool):R2:=fun x y H Q=>∃ p xs,y = .ref p/\(aK K H p xs\/aQ K H p xs)/\n6 x=true/\xs.all n6=true/\Q (.bl (if neg then !LQ x xs else LQ x xs)) H
theorem D9:k6 X (compareOp .In) (RI X.K false):=by
 intro pq s σ H x y v u Q I rx ry h;obtain⟨p,xs,rfl,hq,fx,fs,q⟩:=h;cases ry;rcases hq with hq|hq
 ·obtain⟨its,r,pl,hz⟩:=I.list hq;refine SeqAt.in_listAt (Bk x) pl.isList (fun w hw=>lA rx fx r fs w (by simpa using hw)) ⟨.bl _,H,I,rfl,?_⟩
  rw[show its.toArray.any (Bk x)=its.any (Bk x) by simp,n8 r fs]
  exact q
 ·obtain⟨its,r,pl,hz⟩:=I.tuple hq;refine SeqAt.in_tupleAt (Bk x) pl (fun w hw=>lA rx fx r fs w (by simpa using hw)) ⟨.bl _,H,I,rfl,?_⟩
  rw[show its.toArray.any (Bk x)=its.any (Bk x) by simp,n8 r fs]
  exact q
theorem xP:k6 X (compareOp .NotIn) (RI X.K true):=by
 intro pq s σ H x y v u Q I rx ry h;obtain⟨p,xs,rfl,hq,fx,fs,q⟩:=h;cases ry;rcases hq with hq|hq
 ·obtain⟨its,r,pl,hz⟩:=I.list hq;refine SeqAt.notIn_listAt (Bk x) pl.isList (fun w hw=>lA rx fx r fs w (by simpa using hw)) ⟨.bl _,H,I,rfl,?_⟩
  rw[show its.toArray.any (Bk x)=its.any (Bk x) by simp,n8 r fs]
  exact q
 ·obtain⟨its,r,pl,hz⟩:=I.tuple hq;refine SeqAt.notIn_tupleAt (Bk x) pl (fun w hw=>lA rx fx r fs w (by simpa using hw)) ⟨.bl _,H,I,rfl,?_⟩
  rw[show its.toArray.any (Bk x)=its.any (Bk x) by simp,n8 r fs]
  exact q
theorem xQ:e7 X (.builtin "len") (fun xs H Q=>∃ p ys,xs=[.ref p]/\(aK X.K H p ys\/aQ X.K H p ys)/\Q (.int ys.length) H):=by
 intro pq s σ H xs us Q I r h;obtain⟨p,ys,rfl,hq,q⟩:=h;obtain⟨u,rfl,rx⟩:=vals1 r;cases rx;have hn:=pR;rcases hq with hq|hq
 ·obtain⟨its,r',pl,hz⟩:=I.list hq;have hlen:=r'.length;exact Calls.call_len_list pl.isList (by simp only[List.size_toArray]<;>lia) ⟨.int ys.length,H,I.tok _,⟨s.toks+1,by rw[List.size_toArray,hlen]⟩,q⟩
 ·obtain⟨its,r',pl,hz⟩:=I.tuple hq;have hlen:=r'.length;exact len_tuple pl (by simp only[List.size_toArray]<;>lia) ⟨.int ys.length,H,I.tok _,⟨s.toks+1,by rw[List.size_toArray,hlen]⟩,q⟩
theorem xR:e7 X (.type "list") (fun xs H Q=>∃ p ys,xs=[.ref p]/\(aK X.K H p ys\/aQ X.K H p ys)/\∀ l,H l=none->Q (.ref l) (upd H l (.lst ys))):=by
 intro pq s σ H xs us Q I r h;obtain⟨p,ys,rfl,hq,q⟩:=h;obtain⟨u,rfl,rx⟩:=vals1 r;cases rx;have fin:∀(its:List Value),Vals ys its->ys.length<=sizeLine->∀(h' : Heap) (c' : Nat),(∀ b o',s.heap.get? b=some o'->h'.get? b=some o')->
  h'.get? s.heap.objs.size=some { cls:=.type "list",dict:=none,data:=.seq its.toArray c',slots:=#[]}->EP X pq σ Q (.ref s.heap.objs.size) { s with heap:=h'}:=fun its r' hz h' c' kp e =>
  ⟨.ref s.heap.objs.size,_,I.laid (t':=s.toks) kp (Nat.le_refl _) (show bz X.prog X.w _ h' _ (.lst ys) from⟨hz,its,c',r',e⟩),rfl,q _ (I.hok.fresh (Nat.le_refl _))⟩
 rcases hq with hq|hq
 ·obtain⟨its,r',pl,hz⟩:=I.list hq;have hlen:=r'.length;obtain⟨o,ho,hc,n,hd⟩:=pl.isList;exact call_list_seq p (.inl rfl) ho hc hd (fun h' c' kp e=>fin its r' hz h' c' kp e) (by simp only[List.size_toArray]<;>lia)
 ·obtain⟨its,r',pl,hz⟩:=I.tuple hq;have hlen:=r'.length;obtain⟨o,ho,hc,n,hd⟩:=pl;exact call_list_seq p (.inr rfl) ho hc hd (fun h' c' kp e=>fin its r' hz h' c' kp e) (by simp only[List.size_toArray]<;>lia)
theorem vq:e7 X (.type "tuple") (fun xs H Q=>∃ p ys,xs=[.ref p]/\((aK X.K H p ys/\∀ l,H l=none->Q (.ref l) (upd H l (.tup ys)))\/(aQ X.K H p ys/\Q (.ref p) H))):=by
 intro pq s σ H xs us Q I r h;obtain⟨p,ys,rfl,h⟩:=h;obtain⟨u,rfl,rx⟩:=vals1 r;cases rx;rcases h with⟨hq,q⟩|⟨hq,q⟩
 ·obtain⟨its,r',pl,hz⟩:=I.list hq;have hlen:=r'.length;refine call_tuple_list pl.isList (fun h' kp=>?_) (by simp only[List.size_toArray]<;>lia)
  have I1:Inv X pq σ H { s with heap:=h'}:=I.kept (t':=s.toks) kp
  have I2:Inv X pq σ (upd H h'.objs.size (.tup ys)) { s with heap:=h'.push { cls:=.type "tuple",data:=.seq its.toArray}} :=
   I1.laid (t':=s.toks) (fun b o e=>Heap.get?_push_of_some _ e) (Nat.le_refl _) (show bz X.prog X.w _ _ _ (.tup ys) from⟨hz,its,r',IsTup.new _ _⟩)
  exact⟨.ref h'.objs.size,_,I2,rfl,q _ (I1.hok.fresh (Nat.le_refl _))⟩
 ·obtain⟨its,r',pl,hz⟩:=I.tuple hq;exact call_tuple_same pl ⟨.ref p,H,I,rfl,q⟩
def SY(K:bX)(T:String)(x:V)(H:Hp):Prop:=match x with
 | .str _=>T="str"
 | .int _=>T="int"
 | .ref p=>(T="list"/\∃ xs,aK K H p xs)\/(T="tuple"/\∃ o,K.lookup p=some o/\o.cls = .type "tuple"/\o.dict=none)\/
  (T="dict"/\((∃ kvs,H p=some (.dK kvs))\/∃ kvs,H p=some (.dT kvs)))\/(T="set"/\∃ S n,H p=some (.set S n))
 | _=>False
theorem GA{pq:aR}{σ:St}{H:Hp}{s:Shared}{T:String}{x:V}{v:Value}(I:Inv X pq σ H s)(r:RelV x v)(ty:SY X.K T x H):
 s.TypeIs v T/\∀ a,v = .ref a->∃ ob,s.heap.get? a=some ob/\ob.dict=none:=by
 cases x with
 | str z =>
   obtain⟨t,rfl⟩:=r;cases(show T="str" from ty)
   exact⟨typeIs_str s z t,fun _ e=>nomatch e⟩
 | int i =>
   obtain⟨t,rfl⟩:=r;cases(show T="int" from ty)
   exact⟨typeIs_int s i t,fun _ e=>nomatch e⟩
 | ref p =>
   cases r;rcases ty with⟨rfl,xs,hq⟩|⟨rfl,o,hk,hc,hd⟩|⟨rfl,hk⟩|⟨rfl,S,n,hk⟩
   ·obtain⟨its,_,pl,_⟩:=I.list hq;refine⟨pl.isList.typeIs,fun a e=>?_⟩
    cases e;obtain⟨o,n,e,c,hd,_⟩:=pl;exact⟨o,e,hd⟩
   ·refine⟨⟨o,I.My p o hk,hc⟩,fun a e=>?_⟩
    cases e;exact⟨o,I.My _ o hk,hd⟩
   ·have z:∃ o,s.heap.get? p=some o/\o.ExactDict:=by
     rcases hk with⟨kvs,hk⟩|⟨kvs,hk⟩
     ·obtain⟨_,_,_,_,o,_,_,e,ex,_⟩:=I.hok p _ hk;exact⟨o,e,ex⟩
     ·obtain⟨_,_,_,_,o,_,_,e,ex,_⟩:=I.hok p _ hk;exact⟨o,e,ex⟩
    obtain⟨o,e,ex⟩:=z;refine⟨⟨o,e,ex.1⟩,fun a e2=>?_⟩
    cases e2;exact⟨o,e,ex.2.1⟩
   ·obtain⟨o,_,_,_,e,ex,_⟩:=I.hok p _ hk;refine⟨⟨o,e,ex.1⟩,fun a e2=>?_⟩
    cases e2;exact⟨o,e,ex.2.1⟩
 | _=>exact False.elim ty
def S0(K:bX)(T:String)(r:V->List V->Hp->VK->Prop)(to:TE):TE:=fun σ H Q=>to σ H fun x H1=>SY K T x H1/\r x [] H1 Q
def S3(K:bX)(T:String)(r:V->List V->Hp->VK->Prop)(to:TE)(t:TA):TE:=fun σ H Q=>to σ H fun x H1=>SY K T x H1/\t σ H1 fun xs H2=>r x xs H2 Q
variable {o e:Expr}{es:List Expr}{to:TE}{t:TA}{name:Str}{apos cpos:Pos}{T id:String}{r:V->List V->Hp->VK->Prop}
theorem GB(pa:PlainAttrs T)(slot:Slot T name id)(hty:typeOf (.builtin id)=pure (.type "method_descriptor"))(hm:SX X id r)(ho:PE X o to)
 (hbase:attributeBase o name X.env (eval o X.env)=eval o X.env:=by rfl) (hline:(apos.endLine==cpos.line)=true:=by rfl):PE X (.Call (.Attribute o name apos) [] [] cpos) (S0 X.K T r to):=by
 intro pq s σ H Q I h;refine wpAny_Call_method0_late hbase hline (cK (ho pq s σ H _ I h) fun v s1 ⟨x,H1,I1,r1,ty,q1⟩=>?_)
 obtain⟨h1,h2⟩:=GA I1 r1 ty;exact⟨T,id,pa,slot,hty,h1,h2,Calls.callWith_builtin rfl (PySem.evalArgs_none (hm pq s1 σ H1 x [] v [] Q I1 r1 .nil q1))⟩
theorem kX(pa:PlainAttrs T)(slot:Slot T name id)(hty:typeOf (.builtin id)=pure (.type "method_descriptor"))(hm:SX X id r)(ho:PE X o to)(ha:PA X (e::es) t)
 (hbase:attributeBase o name X.env (eval o X.env)=eval o X.env:=by rfl)
 (hfew:((backTo cpos (starEach (e::es) X.env)).all (fun x=>!x.1)&&(backToKw cpos (keywordEach [] X.env)).all (fun x=>x.1.isSome)
  && decide ((e::es).length+([]:List Keyword).length+(if([]:List Keyword).isEmpty then 0 else 1)<30))=true:=by rfl)
 (hline:(apos.endLine==cpos.line)=true:=by rfl) (hs:starEach (e::es) X.env=(false,eval e X.env)::starEach es X.env:=by rfl) (hplain:(backTo cpos (starEach es X.env)).any (·.1)=false:=by rfl) :
 PE X (.Call (.Attribute o name apos) (e::es) [] cpos) (S3 X.K T r to t):=by
 intro pq s σ H Q I h;refine wpAny_Call_method_late hbase hfew hline rfl (cK (ho pq s σ H _ I h) fun v s1 ⟨x,H1,I1,r1,ty,q1⟩=>?_)
 obtain⟨h1,h2⟩:=GA I1 r1 ty;refine⟨T,id,pa,slot,hty,h1,h2,?_⟩;have hA:=ha cpos pq s1 σ H1 _ I1 q1;rw[hs]at hA ⊢;refine Calls.callWith_builtin (by show(false || (backTo cpos (starEach es X.env)).any (·.1))=false;rw[hplain]<;>rfl) (Calls.evalArgs_plain ?_)
 exact cK hA fun us s2 ⟨vs,H2,I2,r2,q2⟩=>hm pq s2 σ H2 x vs v us Q I2 r1 r2 q2
end
def S4(X:Cx)(id:String)(r:V->List V->Hp->VK->Prop):Prop :=
 ∀(pq:aR) (s:Shared) (σ:St) (H:Hp) (x:V) (xs:List V) (v:Value) (us:List Value) (Q:VK),Inv X pq σ H s->RelV x v->Vals xs us->r x xs H Q->
  wpAny (model X.prog X.w) X.A (call (.builtin id) (v::us)) (EP X pq σ Q) X.xe s
theorem Vals.one:∀{x:V} {us:List Value},Vals [x] us->∃ u,us=[u]/\RelV x u
 | _,_,.cons r .nil=>⟨_,rfl,r⟩
theorem Vals.rep{xs:List V}{us:List Value}(h:Vals xs us):∀ k:Nat,Vals (List.replicate k xs).flatten (List.replicate k us).flatten
 | 0=>.nil
 | k+1=>by
   rw[List.replicate_succ,List.replicate_succ,List.flatten_cons,List.flatten_cons];exact Vals.append h (Vals.rep h k)
theorem foldl_rep(its:List Value):∀(k:Nat) (acc:List Value),
 List.foldl (fun x1 x2=>x1++x2) acc.toArray (List.replicate k its.toArray)=(acc++(List.replicate k its).flatten).toArray
 | 0,acc=>by simp
 | k+1,acc=>by
   have e:acc.toArray++its.toArray=(acc++its).toArray:=by simp
   have e2:(acc++its)++(List.replicate k its).flatten=acc++(List.replicate (k+1) its).flatten:=by
    rw[List.replicate_succ,List.flatten_cons,List.append_assoc]
   rw[<-e2,<-foldl_rep its k (acc++its),<-e,List.replicate_succ,List.foldl_cons]
section
variable {X:Cx}{pq:aR}{σ:St}{H:Hp}{s:Shared}{l b:Addr}{xs ys zs:List V}
theorem Inv.MR{its its' : List Value}{n:Nat}{f:Array Value->Array Value}{t' : Nat}(I:Inv X pq σ H s)(hH:H l=some (.lst xs))
 (e:s.heap.get? l=some { cls:=.type "list",data:=.seq its.toArray n}) (hf:f its.toArray=its'.toArray) (hv:Vals ys its') (hz:ys.length<=sizeLine) :
 Inv X pq σ (upd H l (.lst ys)) { s with heap:=s.heap.update l (Obj.mapSeq f),toks:=t'}:=by
 have q:=PySem.IsL.update e f;rw[hf]at q;refine I.write (x:=l) (e:=l) (by rw[hH];exact trivial) (.inl rfl) (fun b' u hb hu=>(Heap.get?_update_other s.heap (Obj.mapSeq f) (Ne.symm hb)).trans hu) ⟨_,q⟩ ?_
 exact⟨hz,its',_,hv,q⟩
theorem Inv.S5{its:List Value}{t' : Nat}(I:Inv X pq σ H s)(hv:Vals ys its)(hz:ys.length<=sizeLine):
 Inv X pq σ (upd H s.heap.objs.size (.lst ys)) { s with heap:=s.heap.push { cls:=.type "list",data:=.seq its.toArray},toks:=t'} :=
 I.laid (fun _ _ q=>Heap.get?_push_of_some _ q) (Nat.le_refl _) ⟨hz,its,0,hv,Heap.get?_push_size _ rfl⟩
theorem Inv.fresh(I:Inv X pq σ H s):H s.heap.objs.size=none:=I.hok.fresh (Nat.le_refl _)
theorem Inv.GC(I:Inv X pq σ H s)(hH:H l=some (.lst xs)):xs.length<=sizeLine/\∃(its:List Value) (n:Nat),Vals xs its/\xs.length=its.length/\s.heap.get? l=some { cls:=.type "list",data:=.seq its.toArray n}:=by
 obtain⟨z,its,n,r,e⟩:=I.hok l _ hH;exact⟨z,its,n,r,r.length,e⟩
theorem zc{n:Nat}(h:n<=sizeLine):Builtin.List.listTooLong n=false:=by
 unfold Builtin.List.listTooLong;exact cR (by lia)
end
section
variable {X:Cx}
def Kg:V->List V->Hp->VK->Prop:=fun x vs H Q=>∃ l xs y,x = .ref l/\vs=[y]/\H l=some (.lst xs)/\xs.length<sizeLine/\Q .dU (upd H l (.lst (xs++[y])))
theorem cX:S4 X "list.append" Kg:=by
 intro pq s σ H x vs v us Q I rx rv h;obtain⟨l,xs,y,rfl,rfl,hH,hz,q⟩:=h;cases rx;obtain⟨u,rfl,ru⟩:=rv.one;obtain⟨z,its,n,r,hl,e⟩:=I.GC hH;refine call_meets F.slot_list_append ⟨_,e,rfl⟩ F.entry_list_append (F.args_list_append_2 _ _) (PySem.list_append l its.toArray n u (by rw[List.size_toArray];lia)) ⟨e,?_⟩
 refine⟨.dU,_,I.MR (its':=its++[u]) hH e (by simp) (r.append (.cons ru .nil)) ?_,rfl,q⟩
 rw[List.length_append,List.length_singleton]
 lia
def Kh:V->List V->Hp->VK->Prop:=fun x vs H Q=>∃ l b xs zs,x = .ref l/\vs=[.ref b]/\H l=some (.lst xs)/\H b=some (.lst zs)/\xs.length+zs.length<=sizeLine/\Q .dU (upd H l (.lst (xs++zs)))
theorem Ea:S4 X "list.extend" Kh:=by
 intro pq s σ H x vs v us Q I rx rv h;obtain⟨l,b,xs,zs,rfl,rfl,hH,hB,hz,q⟩:=h;cases rx;obtain⟨u,rfl,ru⟩:=rv.one;cases ru;obtain⟨z,its,n,r,hl,e⟩:=I.GC hH;obtain⟨z2,its2,n2,r2,hl2,e2⟩:=I.GC hB;have hsz:its.toArray.size+its2.toArray.size<=sizeLine:=by rw[List.size_toArray,List.size_toArray];lia
 have GD : ¬(!its.toArray.isEmpty&&Builtin.List.listTooLong (its.toArray.size+its2.toArray.size))=true:=by
  rw[zc hsz,Bool.and_false];exact Bool.false_ne_true
 refine call_meets F.slot_list_extend ⟨_,e,rfl⟩ F.entry_list_extend (F.args_list_extend_2 _ _)
  (AutoSeq1.list_extend_list_list_0 l its.toArray n b its2.toArray n2 GD (by rw[List.size_toArray];lia) (by lia)) ⟨e,e2,?_⟩
 refine⟨.dU,_,I.MR (its':=its++its2) hH e (by simp) (r.append r2) ?_,rfl,q⟩
 rw[List.length_append]
 lia
def S6:R2:=fun x y H Q=>∃ l k xs,x = .ref l/\y = .int k/\H l=some (.lst xs)/\-(2^63)<=k/\k<2^63/\xs.length*k.toNat<=sizeLine/\
 ∀ p,H p=none->Q (.ref p) (upd H p (.lst (List.replicate k.toNat xs).flatten))
theorem len_rep{α:Type}(xs:List α)(k:Nat):(List.replicate k xs).flatten.length=k*xs.length:=by
 induction k with
 | zero=>simp
 | succ k ih=>rw[List.replicate_succ,List.flatten_cons,List.length_append,ih,Nat.succ_mul,Nat.add_comm]
theorem Bm:k6 X (binaryOp .Mult) S6:=by
 intro pq s σ H x y v u Q I rx ry h;obtain⟨l,k,xs,rfl,rfl,hH,h1,h2,hz,q⟩:=h;cases rx;obtain⟨t,rfl⟩:=ry;obtain⟨z,its,n,r,hl,e⟩:=I.GC hH;have hlen:its.toArray.size*k.toNat<=sizeLine:=by rw[List.size_toArray,<-hl];exact hz
 have S7 : ¬ its.toArray.size*k.toNat > (2^63-1)/8:=by
  have:(sizeLine:Nat)<=(2^63-1)/8:=by decide
  lia
 have hfit : ¬(!Builtin.List.listFitsIndex k)=true:=by
  rw[fitsIndex_both h1 h2];exact Bool.false_ne_true
 have GD : ¬ Builtin.List.listTooLong (its.toArray.size*k.toNat)=true:=by
  rw[zc hlen];exact Bool.false_ne_true
 have hnew:List.foldl (fun x1 x2=>x1++x2) #[] (List.replicate (if its.toArray.isEmpty=true then 0 else k.toNat) its.toArray)=(List.replicate k.toNat its).flatten.toArray:=by
  have f0:∀ m:Nat,List.foldl (fun x1 x2=>x1++x2) #[] (List.replicate m its.toArray)=(List.replicate m its).flatten.toArray:=fun m=>by
   have:=foldl_rep its m [];rw[List.nil_append]at this;exact this
  rw[f0];cases its with
  | nil=>simp
  | cons a r'=>rw[if_neg (by simp)]
 refine wpAny_binaryOp_repeat_ref (T:="list") (U:="int") (by decide) ⟨_,e,rfl⟩ (fun s'=>typeIs_int s' k t) noFill_list_mul F.fills_int_mul F.slot_int_rmul repeat_list F.slot_int_index.lookup
  (call_meets F.slot_int_rmul (typeIs_int s k t) F.entry_int_rmul (F.args_int_rmul_2 _ _) (int___rmul___int_list k t l its.toArray n)
   ⟨e,rfl,⟨_,e,rfl⟩,call_meets F.slot_list_mul ⟨_,e,rfl⟩ F.entry_list_mul (F.args_list_mul_2 _ _) (AutoListH.list___mul___list_int_3 l its.toArray n k t hfit S7 GD) ⟨e,?_⟩⟩)
 rw[hnew];exact⟨.ref _,_,I.S5 (t':=s.toks) (r.rep k.toNat) (by rw[len_rep,Nat.mul_comm];exact hz),rfl,q _ I.fresh⟩
end
end L2
namespace Att
open PySem PySem.W PySem.Calls PyProof.Rows
theorem rV{P:Params}{h:Heap}:∀(ns:List Int) (vs:List Value),WellAll P h vs (ns.map WData.int)->IntsAre vs ns:=by
 intro ns
 induction ns with
 | nil =>
   intro vs w;rw[List.map_nil]at w;cases w;exact .nil
 | cons n ns ih =>
   intro vs w;rw[List.map_cons]at w;cases w with
   | cons a b =>
     cases a;exact .cons _ _ (ih _ b)
theorem Eb{l:OpenLaw}{n:Nat}(hn:l.most=some n){P:Params}{h:Heap}{args:List WData}{vals:List Value}
 (hpre:l.row.toRowW.claim.pre args=true) (S8:WellAll P h vals args) :
 ∃ a vs ns,vals=[Value.ref a]/\args=[WData.list (ns.map WData.int)]/\h.get? a=some { cls:=.type "list",data:=.seq vs.toArray}/\IntsAre vs ns/\ns.length<=n:=by
 have hsh:WShape.hasAll [] args [.list .int]=true:=(pre_splitW hpre).1;have hc:l.pre.holds [] { args:=args}=true:=(pre_splitW hpre).2;obtain⟨d,r,rfl,h1,h2⟩:=hasAllW_cons hsh;obtain rfl:=hasAllW_nil h2;obtain⟨xs,rfl,h3⟩:=hasW_list h1;obtain⟨ns,rfl⟩:=items_int h3;have hlen:ns.length<=n:=by
  unfold OpenLaw.pre at hc;have h4:(WTm.not (.lt (.lit (.int (n:Int))) (.len (.arg 0)))).holds [] { args:=[.list (ns.map .int)]}=true:=by
   have h4:=(holds_andW hc).1;rw[hn]at h4;exact h4
  have h5:=condW_of h4 (w_not (w_lt w_lit (w_len_list (w_arg rfl))));rw[List.length_map]at h5;refine Nat.le_of_not_lt fun q=>?_
  have q' : (n:Int)<((ns.length:Nat):Int):=by lia
  first
   | (rw[cD q']at h5;exact absurd h5 (by decide))
   | (simp at h5;lia)
 cases S8 with
 | cons w1 w2 =>
   cases w2;cases w1 with
   | list ho hall=>exact⟨_,_,ns,rfl,rfl,ho,rV ns _ hall,hlen⟩
theorem Ec(l:OpenLaw)(args:List WData):l.row.toRowW.claim.post args (.bool true) args=true :=
 postW_of (r:=l.row.toRowW) (X:=(true==true))
  (show WShape.has [] (.bool true) .bool=true by first | rfl | decide | simp[WShape.has,WShape.arms,WShape.armsAll])
  (show(WTm.eq .res (.lit (.bool true))).value [] { args:=args,res:=some (.bool true),after:=args}=some (.bool (true==true)) from w_eq_bool (w_res rfl) w_lit) rfl
theorem zd{l:OpenLaw}{n:Nat}{q:Program}{loose:List Str}{XP:(Str->Option Value)->Heap->Prop}{YP:World->Heap->Prop}{d:DefRec}
 (hn:l.most=some n) (LR:d.params.defaults=[])
 (call:∀(w:World) (s₀ s₁:Shared) (mg mb:mZ) (fa:Addr) (o:Obj) (pm cd doc:Value) (a:Addr) (vs:List Value) (ns:List Int),
  Ground q loose [] XP w s₀ mg mb s₁.heap->YP w s₁.heap->
  s₁.heap.get? fa=some o->o.data = .func (docDef d.name d.params d.body d.scope pm cd doc)->s₁.heap.CodeRec cd d.name->mg d.name=some (.ref fa)->
  s₁.heap.get? a=some { cls:=.type "list",data:=.seq vs.toArray}->IntsAre vs ns->ns.length<=n->s₁.gens = #[]->
  codeAny (model l.prog w) callerA (.call (.ref fa) ⟨[.ref a],[]⟩) (fun r s'=>r = .ok (.ret (.bool true))/\OldK s₁.heap s'.heap/\s'.os=s₁.os/\AllBare s'.gens) s₁) :
 WalkO q loose XP YP l.row.toRowW d [] (fun f vs=>PySem.call f vs):=by
 intro w s₀ s₁ mg mb G Y fa o pm cd doc dV kV ho hd hcd hD hmg hg args vals as hpre hlay hrd S8 hlo;obtain rfl:dV = .none:=Dflts.none hD LR;obtain rfl:kV = .none:=Dflts.noKw hD;obtain⟨a,vs,ns,rfl,rfl,hobj,hints,hlen⟩:=Eb hn hpre S8;refine enter_call (codeAny_mono (call w s₀ s₁ mg mb fa o pm cd doc a vs ns G Y ho (fd_plain hd) hcd hmg hobj hints hlen hg) fun r s' hq=>?_)
 obtain⟨rfl,h2,h3,h4⟩:=hq;exact⟨.inl ⟨.bool true,.bool true,[],rfl,fun _=>rfl,.bool true,Ec l _,fun _=>⟨List.Pairwise.nil,fun _ hm=>(nomatch hm)⟩⟩,h2,h3,h4⟩
end Att
namespace L2
open PySem PySem.Spec PyProof.Rows
theorem wA:∀{vs:List Value} {ns:List Int},IntsAre vs ns->Vals (ns.map V.int) vs
 | _,_,.nil=>.nil
 | _,_,.cons n t h=>.cons ⟨t,rfl⟩ (wA h)
end L2
namespace L2
open PySem PySem.Spec PyProof.Rows
def dP(s:Stmt):Arguments:=match s with
 | .FunctionDef _ a _ _ _ _ _ _ _ _=>a
 | _=>{ posonlyargs:=[],args:=[],vararg:=none,kwonlyargs:=[],kw_defaults:=[],kwarg:=none,defaults:=[]}
def cf(s:Stmt):List Stmt:=match s with
 | .FunctionDef _ _ b _ _ _ _ _ _ _=>b
 | _=>[]
def ak(s:Stmt):Scope:=match s with
 | .FunctionDef _ _ _ _ _ _ sc _ _ _=>sc
 | _=>{ kind:=.function,names:=[],isGenerator:=false,isCoroutine:=false}
abbrev C5:F3:=fun _ _ _ _ _ _=>False
abbrev E0:XK:=fun _ _ _=>False
theorem aO{X:Cx}:Passes C5 X E0:=fun _ _ _ _ _ _ _ h=>h.elim
structure Kl(K:bX)(x qual:Str)(st:Stmt)(f:Addr)(fd:FuncData):Prop where
 ex:∃(oc:Value) (od:Option Addr) (kV doc pm:Value) (an:Option Addr) (cdv ct:Value) (osl:Array (Option Value)),
  fd=PySem.W.fnOf x qual (dP st) (cf st) (ak st) .none kV doc pm an cdv ct/\K.lookup f=some ⟨oc,od,.func fd,osl⟩/\PySem.W.codeIn K cdv qual=true
 kp:PySem.W.keepIn K (.ref f)=true
section
variable {P:Program}{w:World}{K:bX}{mg:mZ}{base:Heap}
theorem Kl.ok{x qual:Str}{st:Stmt}{f:Addr}{fd:FuncData}{N ps:List Str}{k:Nat}{sp:Sp}(F:Kl K x qual st f fd)(S:aE N ps (ak st))(len:∀ vs H Q E,sp vs H Q E->vs.length=ps.length)
 (hbody:∀(cdv:Value) (A:Around) (outer:List Env) (s:Shared) (H:Hp) (vs:List V) (Q:VK) (E:XK),eV k (A.deeper (envOfC qual (ak st) s.heap.objs.size f cdv))->sp vs H Q E->
  ∃ t,vX (rS C5 P w K mg base N qual (ak st) f cdv A outer s H E).A2 (cf st) t/\t { nx:=fun _ H'=>Q .dU H',rt:=Q} (start N vs) H):lz P w K mg base C5 (k+1) f fd ps sp:=by
 obtain⟨oc,od,kV,doc,pm,an,cdv,ct,osl,rfl,lk,hcd⟩:=F.ex;refine Gu lk hcd S len fun A outer s H vs Q E hr wu=>?_
 obtain⟨t,h,q⟩:=hbody cdv A outer s H vs Q E hr wu;exact⟨t,h.A2,q⟩
theorem Kl.binds{x qual:Str}{st:Stmt}{f:Addr}{fd:FuncData}{ps:List Str}(F:Kl K x qual st f fd)
 (h:∀(kV doc pm:Value) (an:Option Addr) (cdv ct:Value) (us:List Value),us.length=ps.length->bindArgs (PySem.W.fnOf x qual (dP st) (cf st) (ak st) .none kV doc pm an cdv ct) ⟨us,[]⟩=pure (ps.zip us)):Binds K fd ps []:=by
 obtain⟨oc,od,kV,doc,pm,an,cdv,ct,osl,rfl,lk,hcd⟩:=F.ex;exact .all (h kV doc pm an cdv ct)
theorem MS{x qual:Str}{st:Stmt}{f:Addr}{oc:Value}{od an:Option Addr}{osl:Array (Option Value)}{kV doc pm cdv ct:Value}(l:K.lookup f=some ⟨oc,od,.func (PySem.W.fnOf x qual (dP st) (cf st) (ak st) .none kV doc pm an cdv ct),osl⟩)
 (c:PySem.W.codeIn K cdv qual=true) (k:PySem.W.keepIn K (.ref f)=true):Kl K x qual st f (PySem.W.fnOf x qual (dP st) (cf st) (ak st) .none kV doc pm an cdv ct):=⟨⟨oc,od,kV,doc,pm,an,cdv,ct,osl,rfl,l,c⟩,k⟩
end
theorem oh{A:Around}{k:Nat}(hr:eV k A):A.units+1<cLine:=Nat.lt_of_le_of_lt (Nat.add_le_add_left (by decide:1<=64) _) hr.units
theorem iO{n:Nat}(h:n<=1000):n<sizeLine:=Nat.lt_of_le_of_lt h (by decide)
section
variable {X:Cx}
theorem pv(i:Nat){x:Str}{pos:Pos}(hN:X.N[i]?=some x:=by rfl)(hv:RB X.env.scope x:=by first | exact Or.inl rfl | exact Or.inr (Or.inl rfl) | exact Or.inr (Or.inr rfl))(hd:(x==("__debug__":Str))=false:=by decide)
 (hcd:(x==("__classdict__":Str))=false:=by decide):PE X (.Name x pos) (O4 i):=MA hN hv hd hcd
end
theorem e8{A B:Prop}(h:B):if false=true then A else B:=by
 rw[if_neg Bool.false_ne_true];exact h
theorem gC{A B:Prop}(h:A):if true=true then A else B:=by
 rw[if_pos rfl];exact h
theorem mS{c A B:Prop}[Decidable c](h1:c->A)(h2 : ¬ c->B):if c then A else B:=by
 by_cases h:c
 ·rw[if_pos h];exact h1 h
 ·rw[if_neg h];exact h2 h
theorem GF{c A B:Prop}[Decidable c](hc:c)(h:B):if(!decide c)=true then A else B:=by
 rw[cD hc];exact e8 h
def au(H H' : Hp):Prop:=∀ b o,H b=some o->H' b=some o
theorem au.refl(H:Hp):au H H:=fun _ _ h=>h
theorem au.trans{H H1 H2:Hp}(a:au H H1)(b:au H1 H2):au H H2:=fun c o h=>b c o (a c o h)
theorem au.free{H H' : Hp}(e:au H H'){l:Addr}(h:H' l=Option.none):H l=Option.none:=by
 cases q:H l with
 | none=>rfl
 | some o =>
   rw[e l o q]at h;cases h
theorem au.seq{K:bX}{H H' : Hp}{a:Addr}{xs:List V}(e:au H H')(h:aK K H a xs):aK K H' a xs:=by
 rcases h with(h|⟨o,h⟩) | h
 ·exact .inl (.inl (e _ _ h))
 ·exact .inl (.inr ⟨o,e _ _ h⟩)
 ·exact .inr h
def cY(cells:List (Str×Addr)):List (Str×NameKind)->List (Str×Addr)->List (Str×Addr)
 | [],cs=>cs
 | (n,k)::r,cs=>cY cells r (if(k==NameKind.free)=true then(n,(cells.lookup n).getD 0)::cs else cs)
theorem tI{env:Env}{f:Str×NameKind->List (Str×Addr)->Sem (ForInStep (List (Str×Addr)))}
 (hf1:∀ n k cs c,(k==NameKind.free)=true->env.cells.lookup n=some c->f (n,k) cs=pure (.yield ((n,c)::cs)))
 (hf2:∀ n k cs,(k==NameKind.free)=false->f (n,k) cs=pure (.yield cs)) :
 ∀(names:List (Str×NameKind)) (cs:List (Str×Addr)),(∀ n k,(n,k)∈names->(k==NameKind.free)=true->∃ c,env.cells.lookup n=some c)->
  forIn names cs f=(pure (cY env.cells names cs):Sem (List (Str×Addr)))
 | [],cs,_=>by rw[List.forIn_nil];rfl
 | (n,k)::r,cs,h=>by
   have ih:=fun cs=>tI hf1 hf2 r cs fun m j hm=>h m j (jY _ hm)
   rw[List.forIn_cons];cases e:(k==NameKind.free) with
   | true =>
     obtain⟨c,hc⟩:=h n k List.mem_cons_self e;rw[hf1 n k cs c e hc,pure_bind];show forIn r ((n,c)::cs) f=_;rw[ih]
     conv=>rhs;unfold cY
     rw[if_pos e,hc];rfl
   | false =>
     rw[hf2 n k cs e,pure_bind];show forIn r cs f=_;rw[ih]
     conv=>rhs;unfold cY
     rw[if_neg (by rw[e];exact Bool.false_ne_true)]
theorem nu{scope:Scope}{env:Env}(h:∀ n k,(n,k)∈scope.names->(k==NameKind.free)=true->∃ c,env.cells.lookup n=some c):closureFor scope env=pure (cY env.cells scope.names []):=by
 simp only[closureFor];rw[tI (env:=env) ?_ ?_ scope.names [] h]
 ·rfl
 ·intro n k cs c e hc;show(if(k==NameKind.free)=true then _ else _)=_
  rw[if_pos e];unfold cellOf;rw[hc];rfl
 ·intro n k cs e;show(if(k==NameKind.free)=true then _ else _)=_
  rw[if_neg (by rw[e];exact Bool.false_ne_true)]
theorem jg{cells:List (Str×Addr)}{x:Str}{c:Addr}:∀{names:List (Str×NameKind)} {cs:List (Str×Addr)},(cY cells names cs).lookup x=some c->cs.lookup x=some c\/((x,NameKind.free)∈names/\(cells.lookup x).getD 0=c)
 | [],cs,h=>.inl h
 | (n,k)::r,cs,h=>by
   unfold cY at h;rcases jg h with q|⟨q1,q2⟩
   ·by_cases e:(k==NameKind.free)=true
    ·rw[if_pos e]at q
     by_cases hx:x=n
     ·subst hx;rw[List.lookup_cons_self]at q;have hk:k=NameKind.free:=eq_of_beq e;exact .inr ⟨by rw[hk];exact List.mem_cons_self,Option.some.inj q⟩
     ·have hb:(x==n)=false:=beq_eq_false_iff_ne.mpr hx;simp only[List.lookup_cons,hb]at q;exact .inl q
    ·rw[if_neg e]at q;exact .inl q
   ·exact .inr ⟨jY _ q1,q2⟩
theorem iV{cells:List (Str×Addr)}{x:Str}:∀{names:List (Str×NameKind)} {cs:List (Str×Addr)},((x,NameKind.free)∈names\/∃ c,cs.lookup x=some c)->∃ c,(cY cells names cs).lookup x=some c
 | [],cs,h=>by
   rcases h with h|h
   ·cases h
   ·exact h
 | (n,k)::r,cs,h=>by
   unfold cY;apply iV;rcases h with h|⟨c,h⟩
   ·rcases List.mem_cons.mp h with h|h
    ·cases h
     right
     rw[if_pos (by rfl)]
     exact⟨_,List.lookup_cons_self⟩
    ·exact .inl h
   ·right
    by_cases e:(k==NameKind.free)=true
    ·rw[if_pos e]
     by_cases hx:x=n
     ·subst hx;exact⟨_,List.lookup_cons_self⟩
     ·have hb:(x==n)=false:=beq_eq_false_iff_ne.mpr hx;exact⟨c,by simp only[List.lookup_cons,hb];exact h⟩
    ·rw[if_neg e];exact⟨c,h⟩
theorem j6{env:Env}{x:Str}{k:NameKind}:∀{names:List (Str×NameKind)},
 (names.map fun(n,k)=>if(k==NameKind.free&&env.scope.kind == .function&&env.kindOf n==some .cell) then(n,NameKind.cell) else(n,k)).lookup x=some k->
  ∃ k0,names.lookup x=some k0/\(k=k0\/(k0 = .free/\k = .cell))
 | [],h=>by cases h
 | (n,j)::r,h=>by
   have ih:=@j6 env x k r
   replace h:List.lookup x ((if(j==NameKind.free&&env.scope.kind == .function&&env.kindOf n==some .cell)=true then(n,NameKind.cell) else(n,j))::_)=some k:=h
   cases hx:x==n with
   | true =>
     by_cases hc:(j==NameKind.free&&env.scope.kind == .function&&env.kindOf n==some .cell)=true
     ·rw[if_pos hc]at h;simp only[List.lookup_cons,hx]at h ⊢;have hj:j=NameKind.free:=by
       rw[Bool.and_eq_true,Bool.and_eq_true]at hc;exact eq_of_beq hc.1.1
      exact⟨j,rfl,.inr ⟨hj,(Option.some.inj h).symm⟩⟩
     ·rw[if_neg hc]at h;simp only[List.lookup_cons,hx]at h ⊢;exact⟨j,rfl,.inl (Option.some.inj h).symm⟩
   | false =>
     by_cases hc:(j==NameKind.free&&env.scope.kind == .function&&env.kindOf n==some .cell)=true
     ·rw[if_pos hc]at h;simp only[List.lookup_cons,hx]at h ⊢;exact ih h
     ·rw[if_neg hc]at h;simp only[List.lookup_cons,hx]at h ⊢;exact ih h
theorem om{env:Env}{x:Str}:∀{names:List (Str×NameKind)},names.lookup x=some .free->
 (names.map fun(n,k)=>if(k==NameKind.free&&env.scope.kind == .function&&env.kindOf n==some .cell) then(n,NameKind.cell) else(n,k)).lookup x=some .cell\/
 (names.map fun(n,k)=>if(k==NameKind.free&&env.scope.kind == .function&&env.kindOf n==some .cell) then(n,NameKind.cell) else(n,k)).lookup x=some .free
 | [],h=>by cases h
 | (n,j)::r,h=>by
   have ih:=@om env x r;show List.lookup x ((if(j==NameKind.free&&env.scope.kind == .function&&env.kindOf n==some .cell)=true then(n,NameKind.cell) else(n,j))::_)=_\/
    List.lookup x ((if(j==NameKind.free&&env.scope.kind == .function&&env.kindOf n==some .cell)=true then(n,NameKind.cell) else(n,j))::_)=_
   cases hx:x==n with
   | true =>
     simp only[List.lookup_cons,hx]at h;cases h
     by_cases hc:(NameKind.free==NameKind.free&&env.scope.kind == .function&&env.kindOf n==some .cell)=true
     ·rw[if_pos hc];simp only[List.lookup_cons,hx];exact .inl trivial
     ·rw[if_neg hc];simp only[List.lookup_cons,hx];exact .inr trivial
   | false =>
     simp only[List.lookup_cons,hx]at h
     by_cases hc:(j==NameKind.free&&env.scope.kind == .function&&env.kindOf n==some .cell)=true
     ·rw[if_pos hc];simp only[List.lookup_cons,hx];exact ih h
     ·rw[if_neg hc];simp only[List.lookup_cons,hx];exact ih h
def cZ(X:Cx)(N:List Str)(scope:Scope)(xe:di)(C:Addr)(s:Shared)(H:Hp)(fp:List Addr):Cx where
 prog:=X.prog
 w:=X.w
 K:=X.K
 mg:=X.mg
 base:=X.base
 A:=X.A
 N:=N
 s₀:=s
 H₀:=H
 env:=compEnvC scope (cY X.env.cells scope.names []) C X.env
 outer:=X.stack
 stack:=X.stack
 ex:=fp
 fn:=fun _=>false
 calm:=X.calm
 pn:=[]
 xe:=xe
def eW(σ:St)(js:List Nat):St:=js.map fun j=>(σ[j]?).getD none
structure dw(X:Cx)(scope:Scope)(own fq:List Str)(js:List Nat):Prop where
 kind:scope.kind = .function
 xS:∀ y∈scope.names,y.2≠.cell
 names:∀ y∈scope.names,y.2 = .local->scope.names.lookup y.1=some .local
 free:∀ y∈scope.names,y.2 = .free->X.env.scope.names.lookup y.1=some .cell\/X.env.scope.names.lookup y.1=some .free
 at_:js.map (fun j=>X.N[j]?)=fq.map some
 fr:∀ x∈fq,scope.names.lookup x=some .free
theorem tJ{σ:St}{js:List Nat}{i:Nat}{v:V}(h:(eW σ js)[i]?=some (some v)):∃ j,js[i]?=some j/\σ[j]?=some (some v):=by
 unfold eW at h;rw[List.getElem?_map]at h;cases e:js[i]? with
 | none=>rw[e]at h;cases h
 | some j =>
   rw[e]at h;have h' : (σ[j]?).getD none=some v:=Option.some.inj h;refine⟨j,rfl,?_⟩;cases q:σ[j]? with
   | none=>rw[q]at h';cases h'
   | some o=>rw[q]at h';rw[show o=some v from h']
section
variable {X:Cx}
theorem gD{pq:aR}{σ:St}{H:Hp}{s:Shared}{scope:Scope}{own fq:List Str}{js:List Nat}(I:Inv X pq σ H s)(T:dw X scope own fq js):
 ∀ n k,(n,k)∈scope.names->(k==NameKind.free)=true->∃ c,X.env.cells.lookup n=some c:=fun n k hm e=>by
 have hk:k=NameKind.free:=eq_of_beq e;exact I.ok.has n (T.free (n,k) hm hk)
theorem GG{pq:aR}{σ:St}{H:Hp}{s:Shared}{scope:Scope}{own fq:List Str}{js:List Nat}{fp:List Addr}{D C:Addr}{h1:Heap}{t1:Nat}{m:mZ}{xe:di}
 (I:Inv X pq σ H s) (T:dw X scope own fq js) (hf:∀ b∈fp,nk X pq H b) (hfo:∀ b∈fp,∃ o,s.heap.get? b=some o) (hD:s.heap.objs.size<=D) (hC:s.heap.objs.size<=C) (hDC:D≠C)
 (old:∀ b o,s.heap.get? b=some o->h1.get? b=some o) (hl:h1.get? D=some { cls:=.type "list",data:=.seq ([]:List Value).toArray 0}) (hn:h1.Ns C m) :
 Inv (cZ X (own++fq) scope xe C s H fp) [] (List.replicate own.length none++eW σ js) (upd H D (.lst [])) { s with heap:=h1,toks:=t1}:=by
 have cells:∀ x c,(cY X.env.cells scope.names []).lookup x=some c->X.env.cells.lookup x=some c:=fun x c h=>by
  rcases jg h with q|⟨q1,q2⟩
  ·cases q
  ·obtain⟨c',hc'⟩:=gD I T x .free q1 rfl;rw[hc']at q2;rw[hc'];exact congrArg some q2
 have PF:∀ b o,s.heap.get? b=some o->b<s.heap.objs.size:=fun b o e=>Heap.lt_size e
 have hcl:∀ x c,X.env.cells.lookup x=some c->c<s.heap.objs.size:=fun x c e=>by
  obtain⟨v,q⟩:=I.cell x c e;exact q.lt
 have XG:∀ b∈frs X.stack,b<s.heap.objs.size:=fun b hb=>by
  obtain⟨_,o,ho,_⟩:=I.stack.mem hb;exact Heap.lt_size ho
 have XH:H D=none:=I.hok.fresh hD;have MT:H C=none:=I.hok.fresh hC;refine⟨⟨I.ok.mod,T.kind,I.ok.glob,I.ok.blt,hC,fun x y c a b=>I.ok.inj x y c (cells x c a) (cells y c b),fun x hx=>?_,fun x c z _=>(nomatch z),I.ok.hd,I.ok.frames,.inl rfl,fun b hb=>⟨?_,fun x c e z=>?_⟩,
  fun b o e=>I.bs b o e,Nat.le_trans I.ok.JS I.sz,fun b o e hb=>?_,fun b hb z=>?_,I.stack,I.xH⟩,
  rfl,I.bare,Un.laid old hD XH,⟨m,hn,fun i x v e1 e2 e3=>?_⟩,fun x c e=>?_,?_,fun x c e=>?_,fun p hp=>absurd (show p∈([]:aR) from hp) (by simp),?_,?_⟩
 ·
  have hx:(relabel scope X.env).names.lookup x=some .cell\/(relabel scope X.env).names.lookup x=some .free:=hx;have XI:(x,NameKind.free)∈scope.names:=by
   rcases hx with hx|hx
   ·obtain⟨k0,q,r⟩:=j6 hx;have hm:=PySem.mem_of_lookup q;rcases r with r|⟨r,_⟩
    ·exact absurd r.symm (T.xS _ hm)
    ·rw[r]at hm;exact hm
   ·obtain⟨k0,q,r⟩:=j6 hx;have hm:=PySem.mem_of_lookup q;rcases r with r|⟨_,r⟩
    ·rw[<-r]at hm;exact hm
    ·cases r
  exact iV (.inl XI)
 ·
  obtain⟨o,ho⟩:=hfo b hb;exact Nat.ne_of_lt (Nat.lt_of_lt_of_le (PF b o ho) hC)
 ·exact(hf b hb).2.2.2.2.1 x c (cells x c e) z
 ·
  obtain⟨_,_,_,f3,_,_⟩:=hf b hb;rcases f3 with z|z
  ·exact I.ok.Gf b o e z
  ·exact absurd (Nat.lt_of_lt_of_le (Heap.lt_size (I.ok.bs b o e).1) z) (Nat.lt_irrefl _)
 ·
  obtain⟨_,f1,f2,_⟩:=hf b hb;rcases List.mem_cons.mp (I.sY b z) with q|q
  ·exact f1 q
  ·exact f2 q
 ·
  by_cases hi:i<own.length
  ·rw[List.getElem?_append_left (by simpa using hi),List.getElem?_replicate,if_pos hi]at e2
   cases e2
  ·rw[List.getElem?_append_right (by simpa using hi),List.length_replicate]at e2
   replace e1:(own++fq)[i]?=some x:=e1
   rw[List.getElem?_append_right (by lia)]at e1
   obtain⟨j,hj,hσ⟩:=tJ e2;have hN:X.N[j]?=some x:=by
    have q:=congrArg (fun l=>l[i-own.length]?) T.at_
    simp only[List.getElem?_map,hj,e1,Option.map_some]at q;exact Option.some.inj q
   have hfx:=T.fr x (gy e1);have hm:=PySem.mem_of_lookup hfx;have hk:=T.free (x,.free) hm rfl;obtain⟨m0,hn0,C6⟩:=I.loc;obtain⟨u,r,l⟩:=C6 j x v hN hσ (by rcases hk with k|k;exact .inr (.inl k);exact .inr (.inr k))
   refine⟨u,r,.inr ⟨om hfx,?_⟩⟩;rcases l with⟨jK,_⟩|⟨_,c,hc,hcell⟩
   ·have jK:X.env.scope.names.lookup x=some .local:=jK;rcases hk with k|k<;>(rw[jK]at k;cases k)
   ·obtain⟨c',hc'⟩:=iV (cells:=X.env.cells) (names:=scope.names) (cs:=[]) (x:=x) (.inl hm);have q:=cells x c' hc';rw[hc]at q;cases q;exact⟨c,hc',hcell.keeps old⟩
 ·
  obtain⟨v,q⟩:=I.cell x c (cells x c e);exact⟨v,q.keeps old⟩
 ·
  show upd H D (.lst []) C=none;rw[ao (Ne.symm hDC)];exact MT
 ·show upd H D (.lst []) c=none;have e:=cells x c e;rw[ao (Nat.ne_of_lt (Nat.lt_of_lt_of_le (hcl x c e) hD))];exact I.eZ x c e
 ·exact I.hok.laid old hD ⟨Nat.zero_le _,[],0,.nil,hl⟩
 ·show _=(own++fq).length;have q:=congrArg List.length T.at_;rw[List.length_map,List.length_map]at q;rw[List.length_append,List.length_append,List.length_replicate];unfold eW;rw[List.length_map,q]
theorem m4{pq:aR}{σ σ' : St}{H H' : Hp}{s s' : Shared}{scope:Scope}{N:List Str}{fp:List Addr}{C:Addr}{h' : Heap}{xe:di}
 (I:Inv X pq σ H s) (hf:∀ b∈fp,nk X pq H b) (hC:s.heap.objs.size<=C) (J:Inv (cZ X N scope xe C s H fp) [] σ' H' s') (sb:Heap.SameBut C s'.heap h'):Inv X pq σ H' { s' with heap:=h'}:=by
 have MT:H' C=none:=J.free;refine I.Gg (ch:=fp) J.os ?_ ?_ J.bare (fun b hb=>?_)
 ·have u:Un (frs X.stack) fp H H' s.heap s'.heap:=J.base;have ne:∀ b o,s.heap.get? b=some o->b≠C:=fun b o e=>Nat.ne_of_lt (Nat.lt_of_lt_of_le (Heap.lt_size e) hC)
  refine⟨fun b o e n hb hx=>(sb.2 b (ne b o e)).trans (u.keep b o e n hb hx),fun b o e n hb hx=>?_,u.free,fun b o e hx=>?_,u.tups,u.jZ,u.lg⟩
  ·obtain⟨sl,q⟩:=u.slot b o e n hb hx;exact⟨sl,(sb.2 b (ne b o e)).trans q⟩
  ·obtain⟨o',q⟩:=u.there b o e hx;exact⟨o',(sb.2 b (ne b o e)).trans q⟩
 ·intro b ob e;refine(J.hok b ob e).stay (fun c w' hc q=>(sb.2 c ?_).trans q) (fun _ q=>q) fun _ _ q=>q
  rintro rfl;rcases hc with rfl|hc
  ·rw[MT]at e;cases e
  ·rw[MT]at hc;cases hc
 ·obtain⟨_,f1,_,f3,f4,f5⟩:=hf b hb;exact⟨f3,f1,f4,f5⟩
end
section
variable {prog:Program}{w:World}{A:Around}{R:Result->Shared->Prop}{s:Shared}
abbrev C7(ifs:List Expr)(env:Env):Sem Bool:=forIn ifs true fun c r=>if r=true then do let ok←isTrue c env (eval c env);pure (ForInStep.yield ok) else pure (ForInStep.yield r)
theorem xT{elt target iter:Expr}{ifs:List Expr}{scope:Scope}{pos:Pos}{it acc:Value}{env:Env}(I:Nat->Shared->Prop)
 (turn:∀ n s,I n s->wpAny (model prog w) A (pyNext it) (fun r s₁=>match r with
  | none=>R (.ok .next) s₁
  | some v=>wpAny (model prog w) A (letOwnedTupleGo target it v) (fun _ s₀=>wpAny (model prog w) A (assign target env v) (fun _ s₂ =>
   wpAny (model prog w) A (C7 ifs env) (fun ok s₃ =>
    if ok=true then wpAny (model prog w) A (eval elt env) (fun x s₄ =>
     wpAny (model prog w) A (call (.builtin "list.append") [acc,x]) (fun _ s₅=>∃ m,m<n/\I m s₅) (notedBy (model prog w) A env fun e s'=>R (.error e) s') s₄) (notedBy (model prog w) A env fun e s'=>R (.error e) s') s₃
    else ∃ m,m<n/\I m s₃) (notedBy (model prog w) A env fun e s'=>R (.error e) s') s₂) (notedBy (model prog w) A env fun e s'=>R (.error e) s') s₀) (notedBy (model prog w) A env fun e s'=>R (.error e) s') s₁) (notedBy (model prog w) A env fun e s'=>R (.error e) s') s)
 (n:Nat) (h:I n s) :
 codeAny (model prog w) A (.compLoop (.ListComp elt [⟨target,iter,ifs,0⟩] scope pos) 0 it acc env) R s:=by
 refine codeAny_loop rfl I (fun n s hI=>?_) n h
 show wpAny _ A ((compTurn (.ListComp elt [⟨target,iter,ifs,0⟩] scope pos) 0 it acc env).onRaise (fun x=>do noteFrame x env;theTreesLotGoes x)) _ _ s
 refine wpAny_noted ?_;rw[compTurn_list];refine aP (wpAny_standAt (aP (wpAny_mono (turn n s hI) (fun r s₁ h₁=>?_) fun _ _ h'=>h')))
 cases r with
 | none=>exact wpAny_pure h₁
 | some v =>
   refine aP (wpAny_mono h₁ (fun _ s₀ h₀=>?_) fun _ _ h'=>h')
   refine aP (wpAny_mono h₀ (fun _ s₂ h₂=>aP (wpAny_mono h₂ (fun ok s₃ h₃=>?_) fun _ _ h'=>h')) fun _ _ h'=>h')
   cases ok with
   | false=>exact wpAny_pure ⟨rfl,h₃⟩
   | true =>
     exact aP (aP (wpAny_mono h₃ (fun x s₄ h₄=>aP (wpAny_mono h₄ (fun _ s₅ h₅=>wpAny_pure (wpAny_pure ⟨rfl,h₅⟩)) fun _ _ h'=>h')) fun _ _ h'=>h'))
end
def PJ(X:Cx)(ifs:List Expr)(t:TT):Prop :=
 ∀(pq:aR) (s:Shared) (σ:St) (H:Hp) (Q:Bool->Hp->Prop),Inv X pq σ H s->t σ H Q->wpAny (model X.prog X.w) X.A (C7 ifs X.env) (TP X pq σ Q) X.xe s
def PK:TT:=fun _ H Q=>Q true H
theorem bT{X:Cx}:PJ X [] PK:=fun _ _ _ H _ I h=>wpAny_tests_nil ⟨H,I,h⟩
theorem fW{X:Cx}{c:Expr}{t:TT}(h:PT X c t):PJ X [c] t:=fun pq s σ H Q I q=>wpAny_tests_one (h pq s σ H Q I q)
def iW(J:It)(g:TG)(tt:TT)(te:TE)(n:Nat)(fr:St)(D:Addr)(Q:Hp->Prop)(H1:Hp):Prop :=
 ∃ W:Nat->Nat->List V->Hp->Prop,(∃ m,W 0 m [] H1)/\∀ i m acc H,W i m acc H->H D=some (.lst acc)/\
   ((J.stop i H/\Q H)\/(J.go i H/\acc.length<sizeLine/\∃ N:List V->Hp->Prop,(∀ acc' H',N acc' H'->∃ m',m'<m/\W (i+1) m' acc' H')/\
     ∀ x H',J.Jz i H x H'->g x (List.replicate n none++fr) H' fun σ2 H2=>σ2.drop n=fr/\tt σ2 H2 fun b H3 =>
     if b=true then te σ2 H3 fun v H4=>H4 D=some (.lst acc)/\N (acc++[v]) (upd H4 D (.lst (acc++[v])))
     else N acc H3))
def LS(wi:TI)(g:TG)(tt:TT)(te:TE)(n:Nat)(js:List Nat):TE:=fun σ H Q=>wi σ H fun J H1=>∀ D,H1 D=none->iW J g tt te n (eW σ js) D (fun H2=>Q (.ref D) H2) (upd H1 D (.lst []))
structure LU(A:Around)(cm:Bool)(P:Program)(w:World)(K:bX)(tg:Expr)(J:It)(fp:List Addr)(it:Addr)(tn:Nat->Heap->Prop):Prop where
 mem:it∈fp
 obj:∀ i h,tn i h->∀ b∈fp,∃ o,h.get? b=some o/\∀ v,o.data≠.cell v
 keep:∀ i h h',tn i h->(∀ b∈fp,∀ o,h.get? b=some o->h'.get? b=some o)->tn i h'
 item:∀(X:Cx),X.prog=P->X.w=w->X.K=K->X.A=A->X.calm=cm->∀(i:Nat) (pq:aR) (s:Shared) (σ:St) (H:Hp) (E:di),Inv X pq σ H s->(∀ b∈fp,nk X pq H b)->tn i s.heap->J.go i H->
  wpAny (model P w) X.A (pyNext (.ref it)) (fun r s1=>∃ u,r=some u/\
   wpAny (model P w) X.A (letOwnedTupleGo tg (.ref it) u) (fun _ s2=>∃ x H',Inv X pq σ H' s2/\RelV x u/\J.Jz i H x H'/\tn (i+1) s2.heap/\∀ b∈fp,H' b=none) E s1) E s
 done:∀(X:Cx),X.prog=P->X.w=w->X.K=K->X.A=A->X.calm=cm->∀(i:Nat) (pq:aR) (s:Shared) (σ:St) (H:Hp) (E:di),Inv X pq σ H s->(∀ b∈fp,nk X pq H b)->tn i s.heap->J.stop i H->
  wpAny (model P w) X.A (pyNext (.ref it)) (fun r s1=>r=none/\Inv X pq σ H s1) E s
 self:∀(A:Around) (i:Nat) (s:Shared) (Q:di) (E:di),tn i s.heap->Q (.ref it) s->wpAny (model P w) A (pyIter (.ref it)) Q E s
theorem Turn.x{A:Around}{cm:Bool}{P:Program}{w:World}{K:bX}{tg:Expr}{J:It}{fp:List Addr}{it:Addr}{tn:Nat->Heap->Prop}(T:Turn P w K tg J fp it tn)(hc:cm=true):LU A cm P w K tg J fp it tn :=
 ⟨T.mem,T.obj,T.keep,fun X a b c _ d=>T.item X a b c (d.trans hc),fun X a b c _ d=>T.done X a b c (d.trans hc),T.self⟩
section
variable {X:Cx}{elt iter tg:Expr}{ifs:List Expr}{scope:Scope}{pos:Pos}{own fq:List Str}{js:List Nat}{wi:TI}{g:TG}{tt:TT}{te:TE}
theorem tK{pq:aR}{σ:St}{H2:Hp}{s2:Shared}{it:Addr}{fp:List Addr}{tn:Nat->Heap->Prop}{J:It}{E:di}{RR:Value->Addr->Result->Shared->Prop}{QQ:Addr->Hp->Prop}
 (T:dw X scope own fq js)
 (hg:∀ C s H fp,PG (cZ X (own++fq) scope (fun _ _=>False) C s H fp) tg g)
 (ht:∀ C s H fp,PJ (cZ X (own++fq) scope (fun _ _=>False) C s H fp) ifs tt)
 (he:∀ C s H fp,PE (cZ X (own++fq) scope (fun _ _=>False) C s H fp) elt te)
 (I2:Inv X pq σ H2 s2) (F4:LU X.A X.calm X.prog X.w X.K tg J fp it tn) (st2:tn 0 s2.heap) (f2:∀ b∈fp,nk X pq H2 b)
 (hl:∀ D,H2 D=none->iW J g tt te own.length (eW σ js) D (QQ D) (upd H2 D (.lst [])))
 (hRR:∀ D C σ' H' s',s2.heap.objs.size<=C->Inv (cZ X (own++fq) scope (fun _ _=>False) C s2 H2 fp) [] σ' H' s'->QQ D H'->RR (.ref D) C (.ok .next) s') :
 wpAny (model X.prog X.w) X.A (newList []) (fun acc s₃=>wpAny (model X.prog X.w) X.A (newFunctionEnv scope X.env.globals (cY X.env.cells scope.names []) [] X.env.qual none .none (some X.env)) (fun cenv s₄ =>
  codeAny (model X.prog X.w) X.A (.compStart (.ListComp elt [⟨tg,iter,ifs,0⟩] scope pos) 0 (.ref it) acc { cenv with scope:=relabel scope X.env}) (RR acc cenv.locals) s₄) E s₃) E s2:=by
 refine wpAny_newObj_type (wpAny_newFunctionEnv T.xS (by intro y hy;simp at hy) (fun h₁ MU Km=>?_) T.kind)
 dsimp only at MU Km ⊢;generalize Kn:s2.heap.push { cls:=.type "list",dict:=none,data:=.seq ([]:List Value).toArray}=G2 at MU Km ⊢;have hC:G2.objs.size=s2.heap.objs.size+1:=by rw[<-Kn,Heap.size_push]
 have hDC:s2.heap.objs.size≠G2.objs.size:=by rw[hC];exact Nat.ne_of_lt (Nat.lt_succ_self _)
 have PL:s2.heap.objs.size<=G2.objs.size:=by rw[hC];exact Nat.le_succ _
 have below:∀ b,b<s2.heap.objs.size->b≠G2.objs.size:=fun b hb=>by rw[hC];exact Nat.ne_of_lt (Nat.lt_succ_of_lt hb)
 have old:∀ b o,s2.heap.get? b=some o->h₁.get? b=some o:=fun b o e=>Km.extBut b o (below b (Heap.lt_size e)) (Heap.get?_push_of_some _ (Kn▸Heap.get?_push_of_some _ e))
 have hacc:h₁.get? s2.heap.objs.size=some { cls:=.type "list",data:=.seq ([]:List Value).toArray 0}:=Km.extBut _ _ hDC (Heap.get?_push_of_some _ (Kn▸Heap.get?_push_size _ rfl));have S9:∀ b∈fp,∃ o,s2.heap.get? b=some o:=fun b hb=>let⟨o,e,_⟩:=F4.obj _ _ st2 b hb;⟨o,e⟩
 have st1:tn 0 h₁:=F4.keep _ _ _ st2 fun b _ o e=>old b o e
 obtain⟨W,⟨m0,w0⟩,turn⟩:=hl s2.heap.objs.size (I2.hok.fresh (Nat.le_refl _));have hfx:∀{H' : Hp},(∀ b∈fp,H' b=none)->∀ b∈fp,nk (cZ X (own++fq) scope (fun _ _=>False) G2.objs.size s2 H2 fp) [] H' b:=fun {H'} hn b hb=>by
  obtain⟨_,f1,XJ,_,f4,_⟩:=f2 b hb;obtain⟨o,ho⟩:=S9 b hb;refine⟨hn b hb,below b (Heap.lt_size ho),fun z=>?_,.inl hb,fun x c e=>?_,fun p hp=>absurd (show p∈([]:aR) from hp) (by simp)⟩
  ·rcases List.mem_cons.mp (I2.sY b z) with q|q
   ·exact f1 q
   ·exact XJ q
  ·rcases jg (show(cY X.env.cells scope.names []).lookup x=some c from e) with q|⟨q1,q2⟩
   ·cases q
   ·obtain⟨c',hc'⟩:=gD I2 T x .free q1 rfl;rw[hc']at q2;have q2:c' = c:=q2;rw[<-q2];exact f4 x c' hc'
 have XM:∀ b∈fp,upd H2 s2.heap.objs.size (.lst []) b=none:=fun b hb=>by
  obtain⟨o,ho⟩:=S9 b hb;rw[ao (Nat.ne_of_lt (Heap.lt_size ho))];exact(f2 b hb).1
 have back:∀{σ6:St} {p6:aR} {H6:Hp} {s6:Shared},Inv (cZ X (own++fq) scope (fun _ _=>False) G2.objs.size s2 H2 fp) p6 σ6 H6 s6->σ6.drop own.length=eW σ js->
  Inv (cZ X (own++fq) scope (fun _ _=>False) G2.objs.size s2 H2 fp) [] (List.replicate own.length none++eW σ js) H6 s6:=fun {σ6 p6 H6 s6} I6 hd=>by
  have XN:σ6.length=(own++fq).length:=I6.len;have J6:=I6.fR (RE:=[]) fun p hp=>absurd hp (by simp)
  refine J6.weak ?_ fun i v e=>?_
  ·have q:=congrArg List.length hd;rw[List.length_drop]at q;rw[List.length_append]at XN;rw[List.length_append,List.length_replicate]
   lia
  ·by_cases hi:i<own.length
   ·rw[List.getElem?_append_left (by simpa using hi),List.getElem?_replicate,if_pos hi]at e
    cases e
   ·rw[List.getElem?_append_right (by simpa using hi),List.length_replicate,<-hd,List.getElem?_drop]at e
    rw[show own.length+(i-own.length)=i by lia]at e
    exact e
 have loop:∀ s₃:Shared,s₃={ s2 with heap:=h₁,toks:=s2.toks+([]:List (Str×Value)).length}->
  codeAny (model X.prog X.w) X.A (.compLoop (.ListComp elt [⟨tg,iter,ifs,0⟩] scope pos) 0 (.ref it) (.ref s2.heap.objs.size) (compEnvC scope (cY X.env.cells scope.names []) G2.objs.size X.env))
   (RR (.ref s2.heap.objs.size) G2.objs.size) s₃:=by
  rintro s₃ rfl;refine xT (fun n s'=>∃ i acc H',Inv (cZ X (own++fq) scope (fun _ _=>False) G2.objs.size s2 H2 fp) [] (List.replicate own.length none++eW σ js) H' s'/\tn i s'.heap/\(∀ b∈fp,H' b=none)/\W i n acc H') ?_ m0
   ⟨0,[],upd H2 s2.heap.objs.size (.lst []),GG I2 T f2 S9 (Nat.le_refl _) PL hDC old hacc MU,st1,XM,w0⟩
  rintro n s3 ⟨i,acc,H3,I3,st3,LM,w3⟩;obtain⟨pJ,PM⟩:=turn i n acc H3 w3;rcases PM with⟨stop,qn⟩|⟨go,hz,NN,Vd,step⟩
  ·refine wpAny_mono (F4.done (cZ X (own++fq) scope (fun _ _=>False) G2.objs.size s2 H2 fp) rfl rfl rfl rfl rfl i [] s3 _ H3 (fun _ _=>False) I3 (hfx LM) st3 stop) (fun r s4 ⟨hr,I4⟩=>?_) fun _ _ z=>z.elim
   subst hr;exact hRR _ _ _ H3 s4 PL I4 qn
  ·refine wpAny_mono (F4.item (cZ X (own++fq) scope (fun _ _=>False) G2.objs.size s2 H2 fp) rfl rfl rfl rfl rfl i [] s3 _ H3 (fun _ _=>False) I3 (hfx LM) st3 go) (fun r s4 ⟨u,hr,h4⟩=>?_) fun _ _ z=>z.elim
   subst hr;refine wpAny_mono h4 (fun _ s5 ⟨x,H5,I5,r5,y5,Gk,Pf⟩=>?_) fun _ _ z=>z.elim
   have Pg:=I5.pinned (hfx Pf) (F4.obj _ _ Gk);refine wpAny_mono (hg _ _ _ _ _ s5 _ H5 x u _ Pg r5 (step x H5 y5)) (fun _ s6 ⟨σ6,H6,I6,Ve,q6⟩=>?_) fun _ _ z=>z.elim
   refine wpAny_mono (ht _ _ _ _ _ s6 σ6 H6 _ I6 q6) (fun ok s7 ⟨H7,I7,q7⟩=>?_) fun _ _ z=>z.elim
   have again:∀{H8:Hp} {s8:Shared},Inv (cZ X (own++fq) scope (fun _ _=>False) G2.objs.size s2 H2 fp) ([]++pQ fp s5.heap) σ6 H8 s8->tn (i+1) s8.heap/\∀ b∈fp,H8 b=none:=fun {H8 s8} I8=>by
    refine⟨F4.keep _ _ _ Gk fun b hb o e=>(I8.pin (b,o) (gZ _ (gZ _ (gA hb e)))).1,fun b hb=>?_⟩
    obtain⟨o,e,d⟩:=F4.obj _ _ Gk b hb;exact(I8.pin (b,o) (gZ _ (gZ _ (gA hb e)))).2.1
   cases ok with
   | false =>
     rw[if_neg Bool.false_ne_true];obtain⟨m',hm,w7⟩:=Vd _ _ q7;obtain⟨t7,n7⟩:=again I7;exact⟨m',hm,i+1,acc,H7,back I7 Ve,t7,n7,w7⟩
   | true =>
     rw[if_pos rfl];refine wpAny_mono (he _ _ _ _ _ s7 σ6 H7 _ I7 q7) (fun xv s8 ⟨v,H8,I8,r8,RJ,q8⟩=>?_) fun _ _ z=>z.elim
     obtain⟨m',hm,w8⟩:=Vd _ _ q8;refine wpAny_mono (cX (X:=cZ X (own++fq) scope (fun _ _=>False) G2.objs.size s2 H2 fp) _ s8 σ6 H8 (.ref s2.heap.objs.size) [v] (.ref s2.heap.objs.size) [xv] (fun y H9=>y = .dU/\H9=upd H8 s2.heap.objs.size (.lst (acc++[v]))) I8 rfl (.cons r8 .nil) ⟨_,acc,v,rfl,rfl,RJ,hz,rfl,rfl⟩)
      (fun _ s9 ⟨y,H9,I9,_,_,e9⟩=>?_) fun _ _ z=>z.elim
     subst e9;obtain⟨t9,n9⟩:=again I9;exact⟨m',hm,i+1,acc++[v],_,back I9 Ve,t9,n9,w8⟩
 exact codeAny_compStart_list (loop _ rfl) (F4.self _ 0 _ _ _ st1 (loop _ rfl))
theorem bM(T:dw X scope own fq js)(hc:X.calm=true)(hi:PI X tg iter wi)
 (hg:∀ C s H fp,PG (cZ X (own++fq) scope (fun _ _=>False) C s H fp) tg g)
 (ht:∀ C s H fp,PJ (cZ X (own++fq) scope (fun _ _=>False) C s H fp) ifs tt)
 (he:∀ C s H fp,PE (cZ X (own++fq) scope (fun _ _=>False) C s H fp) elt te)
 (hs:∀ x,foldedSetIterable iter X.env x=pure x:=by intro _;rfl) :
 PE X (.ListComp elt [⟨tg,iter,ifs,0⟩] scope pos) (LS wi g tt te own.length js):=by
 intro pq s σ H Q I h;rw[eval_ListComp];refine wpAny_comprehension_free (use:=none) rfl hs (nu (gD I T)) T.kind T.names ?_;refine wpAny_mono (hi pq s σ H _ I h) (fun v s1 h1=>wpAny_mono h1 (fun itv s2 h2=>?_) fun _ _ z=>z) fun _ _ z=>z
 obtain⟨it,fp,tn,J,H2,e,I2,F4,st2,f2,hl⟩:=h2;subst e;refine tK (QQ:=fun D H'=>Q (.ref D) H') T hg ht he I2 (F4.x hc) st2 f2 hl fun D C σ' H' s' hC J' q=>?_
 obtain⟨m,hn,_⟩:=J'.loc;exact⟨m,hn,fun h' sb=>⟨.ref D,H',m4 I2 f2 hC J' sb,rfl,q⟩⟩
def GH(i:Nat)(wi:TI)(g:TG)(tt:TT)(te:TE)(n:Nat)(js:List Nat):TS:=fun D σ H=>LS wi g tt te n js σ H fun v H1=>D.nx (σ.set i (some v)) H1
theorem g7{i:Nat}{x:Str}{pos' spos:Pos}(hN:X.N.Nodup)(hix:X.N[i]?=some x)(hx:X.env.scope.names.lookup x=some .local)(T:dw X scope own fq js)(hc:X.calm=true)(hi:PI X tg iter wi)
 (hg:∀ C s H fp,PG (cZ X (own++fq) scope (fun _ _=>False) C s H fp) tg g)
 (ht:∀ C s H fp,PJ (cZ X (own++fq) scope (fun _ _=>False) C s H fp) ifs tt)
 (he:∀ C s H fp,PE (cZ X (own++fq) scope (fun _ _=>False) C s H fp) elt te)
 (hsw:swapsWith (.ListComp elt [⟨tg,iter,ifs,0⟩] scope pos) (some (.Name x pos')) spos.line X.env=pure true:=by rfl)
 (hs:∀ x,foldedSetIterable iter X.env x=pure x:=by intro _;rfl) :
 PS X (.Assign [.Name x pos'] (.ListComp elt [⟨tg,iter,ifs,0⟩] scope pos) spos) (GH i wi g tt te own.length js):=by
 intro pq s σ H D I h;rw[exec_Assign_Name_used _ _ _ _ hsw];refine aP (wpAny_standAt (aP ?_));show wpAny _ X.A (do let _←comprehension (.ListComp elt [⟨tg,iter,ifs,0⟩] scope pos) scope X.env _ (newList []) false (eval iter X.env) (some (assign (.Name x pos') X.env))) _ _ s
 refine aP (wpAny_mono (wpAny_comprehension_free (use:=some (assign (.Name x pos') X.env)) (Q:=fun _ s'=>SP X pq D .next s') rfl hs (nu (gD I T)) T.kind T.names ?_) (fun _ s' hq=>wpAny_pure (wpAny_pure hq)) fun _ _ e=>e)
 refine wpAny_mono (hi pq s σ H _ I h) (fun v s1 h1=>wpAny_mono h1 (fun itv s2 h2=>?_) fun _ _ z=>z) fun _ _ z=>z
 obtain⟨it,fp,tn,J,H2,e,I2,F4,st2,f2,hl⟩:=h2;subst e;refine tK (QQ:=fun D' H'=>D.nx (σ.set i (some (.ref D'))) H') T hg ht he I2 (F4.x hc) st2 f2 hl fun D' C σ' H' s' hC J' q=>?_
 have I3:Inv X pq σ H' s':=by
  obtain⟨hh,gg,dd,tt',oo⟩:=s';exact m4 I2 f2 hC J' (Heap.SameBut.refl ..)
 obtain⟨m,hn,_⟩:=J'.loc;obtain⟨oC,es,ep,XO,Vf,rest⟩:=id hn;have MT:H' C=none:=J'.free;have Vg:C≠X.env.locals:=Nat.ne_of_gt (Nat.lt_of_lt_of_le I2.lt hC);have XQ:C∉X.fs:=fun z=>by
  obtain⟨_,o,ho,_⟩:=I2.funs.mem z;exact absurd (Nat.lt_of_lt_of_le (Heap.lt_size ho) hC) (Nat.lt_irrefl _)
 have I4:Inv X (pq++[(C,oC)]) σ H' s':=I3.fR fun p hp=>(List.mem_append.mp hp).elim (fun z=>I3.pin p (gZ _ z)) fun z=>by
  have e:p=(C,oC):=by simpa using z
  subst e;exact⟨XO,MT,Vg,XQ,fun v z=>by have z' : oC.data = .cell v:=z;rw[Vf]at z';cases z'⟩
 show wpAny _ X.A (assign (.Name x pos') X.env (.ref D')) _ _ _;refine wpAny_assign_Name (nW (v:=.ref D') I4 hN hix (.inl hx) rfl (fun s5 I5=>?_) (.inr hx))
 have e5:s5.heap.get? C=some oC:=(I5.pin (C,oC) (gZ _ (gZ _ (by simp)))).1
 refine⟨m,⟨oC,es,ep,e5,Vf,rest⟩,fun h' sb=>⟨_,H',?_,q⟩⟩
 have I6:Inv X pq (σ.set i (some (.ref D'))) H' s5:=I5.iU;refine I6.turned (t':=s5.toks) (fun b o hb e=>(sb.2 b hb).trans e) MT Vg (.inr (Nat.le_trans I2.sz hC)) (fun y c e=>?_) (fun p hp z=>?_)
 ·obtain⟨v,qc⟩:=I2.cell y c e;exact Nat.ne_of_lt (Nat.lt_of_lt_of_le qc.lt hC)
 ·have Ou:=(I2.pin p hp).1;exact absurd (Nat.lt_of_lt_of_le (Heap.lt_size Ou) (by rw[z];exact hC)) (Nat.lt_irrefl _)
end
section
variable {K:bX}{a:Addr}{xs:List V}{g:TG}{tt:TT}{te:TE}{n:Nat}{fr:St}{D:Addr}{Q:Hp->Prop}{H1:Hp}
theorem bQ(Pv:Nat->List V->Hp->Prop)(h0:Pv 0 [] H1)(hl:∀ i acc H,i<=xs.length->Pv i acc H->aK K H a xs/\H D=some (.lst acc)/\acc.length<=i)(hz:xs.length<=sizeLine)
 (hs:∀ i x acc H,xs[i]?=some x->Pv i acc H->g x (List.replicate n none++fr) H fun σ2 H2=>σ2.drop n=fr/\tt σ2 H2 fun b H3 =>
  if b=true then te σ2 H3 fun v H4=>H4 D=some (.lst acc)/\Pv (i+1) (acc++[v]) (upd H4 D (.lst (acc++[v]))) else Pv (i+1) acc H3)
 (hd:∀ acc H,Pv xs.length acc H->Q H):iW (JW K a) g tt te n fr D Q H1:=by
 refine⟨fun i m acc H=>m=xs.length-i/\i<=xs.length/\Pv i acc H,⟨xs.length,by simp,Nat.zero_le _,h0⟩,?_⟩
 rintro i m acc H ⟨rfl,hi,p⟩;obtain⟨q,hD,ha⟩:=hl i acc H hi p;refine⟨hD,?_⟩
 by_cases hlt:i<xs.length
 ·refine .inr ⟨⟨xs,xs[i],q,by simp[hlt]⟩,by lia,Pv (i+1),fun acc' H' p'=>⟨xs.length-(i+1),by lia,rfl,hlt,p'⟩,fun x H' y=>?_⟩
  obtain⟨e,y⟩:=y;subst e;exact hs i x acc _ (y xs q) p
 ·have e:i=xs.length:=by lia
  subst e;exact .inl ⟨⟨xs,q,Nat.le_refl _⟩,hd acc H p⟩
theorem bN{lo:Int}{m:Nat}(Pv:Nat->List V->Hp->Prop)(h0:Pv 0 [] H1)(hl:∀ i acc H,i<=m->Pv i acc H->H D=some (.lst acc)/\acc.length<=i)(hz:m<=sizeLine)
 (hs:∀ i acc H,i<m->Pv i acc H->g (.int (lo+i)) (List.replicate n none++fr) H fun σ2 H2=>σ2.drop n=fr/\tt σ2 H2 fun b H3 =>
  if b=true then te σ2 H3 fun v H4=>H4 D=some (.lst acc)/\Pv (i+1) (acc++[v]) (upd H4 D (.lst (acc++[v]))) else Pv (i+1) acc H3)
 (hd:∀ acc H,Pv m acc H->Q H):iW (JA lo m) g tt te n fr D Q H1:=by
 refine⟨fun i k acc H=>k=m-i/\i<=m/\Pv i acc H,⟨m,by simp,Nat.zero_le _,h0⟩,?_⟩
 rintro i k acc H ⟨rfl,hi,p⟩;obtain⟨hD,ha⟩:=hl i acc H hi p;refine⟨hD,?_⟩
 by_cases hlt:i<m
 ·refine .inr ⟨hlt,by lia,Pv (i+1),fun acc' H' p'=>⟨m-(i+1),by lia,rfl,hlt,p'⟩,fun x H' y=>?_⟩
  obtain⟨e,y⟩:=y;subst e y;exact hs i acc _ hlt p
 ·have e:i=m:=by lia
  subst e;exact .inl ⟨Nat.le_refl _,hd acc H p⟩
end
def ze(scope PN:Scope)(N fq:List Str)(js:List Nat):Bool :=
 decide (scope.kind = .function)&&scope.names.all (fun y=>decide (y.2≠.cell))&&scope.names.all (fun y=>decide (y.2 = .local->scope.names.lookup y.1=some .local)) &&
 scope.names.all (fun y=>decide (y.2 = .free->PN.names.lookup y.1=some .cell\/PN.names.lookup y.1=some .free))&&decide (js.map (fun j=>N[j]?)=fq.map some)&&fq.all (fun x=>decide (scope.names.lookup x=some .free))
theorem aD{X:Cx}{scope:Scope}{own fq:List Str}{js:List Nat}(PN:Scope)(N:List Str)(h1:X.env.scope=PN:=by rfl)(h2:X.N=N:=by rfl)(h:ze scope PN N fq js=true:=by decide +kernel):dw X scope own fq js:=by
 unfold ze at h;simp only[Bool.and_eq_true,decide_eq_true_eq,List.all_eq_true]at h;obtain⟨⟨⟨⟨⟨a,b⟩,c⟩,d⟩,e⟩,f⟩:=h;exact⟨a,b,c,by rw[h1];exact d,by rw[h2];exact e,f⟩
mutual
inductive rW(K:bX)(H:Hp):V->PyData->Prop
 | dU:rW K H .dU .none
 | bl (b:Bool):rW K H (.bl b) (.bool b)
 | int (i:Int):rW K H (.int i) (.int i)
 | str (x:Str):rW K H (.str x) (.str x)
 | lst {a:Addr} {xs:List V} {ds:List PyData} (h:aK K H a xs) (r:DatVs K H xs ds):rW K H (.ref a) (.list ds)
 | tup {a:Addr} {xs:List V} {ds:List PyData} (h:aQ K H a xs) (r:DatVs K H xs ds):rW K H (.ref a) (.tuple ds)
inductive DatVs(K:bX)(H:Hp):List V->List PyData->Prop
 | nil:DatVs K H [] []
 | cons {x:V} {d:PyData} {xs:List V} {ds:List PyData} (h:rW K H x d) (r:DatVs K H xs ds):DatVs K H (x::xs) (d::ds)
end
section
variable {X:Cx}{pq:aR}{σ:St}{H:Hp}{s:Shared}
mutual
theorem rW.reads(I:Inv X pq σ H s):∀{v:V} {d:PyData} {u:Value},rW X.K H v d->RelV v u->∃ as,Reads s.heap u d as
 | _,_,u,.dU,r=>by cases(show u=Value.none from r);exact⟨_,.none⟩
 | _,_,u,.bl b,r=>by cases(show u=Value.bool b from r);exact⟨_,.bool b⟩
 | _,_,u,.int i,r=>by obtain⟨t,rfl⟩:=(show ∃ t,u=Value.int i t from r);exact⟨_,.int i t⟩
 | _,_,u,.str x,r=>by obtain⟨t,rfl⟩:=(show ∃ t,u=Value.str x t from r);exact⟨_,.str x t⟩
 | _,_,u,.lst (a:=a) h rs,r=>by
   cases(show u=Value.ref a from r)
   obtain⟨its,rv,⟨o,n,e,c,_,d⟩,_⟩:=I.list h;obtain⟨as,q⟩:=DatVs.reads I rs rv;exact⟨_,.list e c d (by simpa using q)⟩
 | _,_,u,.tup (a:=a) h rs,r=>by
   cases(show u=Value.ref a from r)
   obtain⟨its,rv,⟨o,e,c,n,d⟩,_⟩:=I.tuple h;obtain⟨as,q⟩:=DatVs.reads I rs rv;exact⟨_,.tuple e c d (by simpa using q)⟩
theorem DatVs.reads(I:Inv X pq σ H s):∀{vs:List V} {ds:List PyData} {us:List Value},DatVs X.K H vs ds->Vals vs us->∃ as,ReadsAll s.heap us ds as
 | _,_,_,.nil,.nil=>⟨_,.nil⟩
 | _,_,_,.cons h r,.cons rv rr=>by
   obtain⟨as,q⟩:=rW.reads I h rv;obtain⟨bs,q2⟩:=DatVs.reads I r rr;exact⟨_,.cons q q2⟩
end
end
section
variable {X:Cx}
def PR(K:bX):R2:=fun x y H Q=>∃ d e,rW K H x d/\rW K H y e/\SeqAt.shaped d=true/\SeqAt.shaped e=true/\Q (.bl (PyData.eqv d e)) H
theorem MV(hu:X.A.units+64<cLine):k6 X (compareOp .Eq) (PR X.K):=by
 intro pq s σ H x y v u Q I rx ry h;obtain⟨d,e,h1,h2,s1,s2,q⟩:=h;obtain⟨as,ra⟩:=h1.reads I rx;obtain⟨bs,rb⟩:=h2.reads I ry;exact eq_dataH ra rb s1 s2 hu ⟨.bl _,H,I,rfl,q⟩
theorem C8:SX X "int.bit_length" (fun x xs H Q=>∃ i,x = .int i/\xs=[]/\Q (.int (Builtin.Int.intBits i)) H):=by
 intro pq s σ H x xs v us Q I rx rs h;obtain⟨i,rfl,rfl,q⟩:=h;obtain⟨t,rfl⟩:=rx;cases rs;exact call_int_bit_length ⟨.int _,H,I.tok _,⟨_,rfl⟩,q⟩
end
theorem dl{n:Nat}(h:Nat.ble n 1000=true):n<=sizeLine:=Nat.le_of_lt (iO (Nat.le_of_ble_eq_true h))
theorem mT{j:Int}(h:decide (0<j)=true):0<j:=iG h
theorem Bo{c A B:Prop}[Decidable c](h : ¬ c)(hb:B):if decide c=true then A else B:=by
 rw[cR h];exact e8 hb
theorem MW{c A B:Prop}[Decidable c](h:c)(ha:A):if decide c=true then A else B:=by
 rw[cD h];exact gC ha
theorem au.new{H:Hp}{p:Addr}{o:HO}(h:H p=none):au H (upd H p o):=fun b u e=>by
 rw[ao (aW e h)];exact e
theorem au.put{H H2:Hp}{D:Addr}{o:HO}(s:au H H2)(h:H D=none):au H (upd H2 D o):=fun b u e=>by
 rw[ao (aW e h)];exact s b u e
theorem au.XR{K:bX}{H H' : Hp}{a:Addr}{xs:List V}(e:au H H')(h:aQ K H a xs):aQ K H' a xs:=by
 rcases h with(h|⟨o,h⟩) | h
 ·exact .inl (.inl (e _ _ h))
 ·exact .inl (.inr ⟨o,e _ _ h⟩)
 ·exact .inr h
def dz(H H' : Hp):Prop:=∀ b xs,H b=some (.tup xs)->H' b=some (.tup xs)
theorem au.tups{H H' : Hp}(s:au H H'):dz H H':=fun b xs e=>s b _ e
theorem dz.trans{H H1 H2:Hp}(a:dz H H1)(b:dz H1 H2):dz H H2:=fun c xs e=>b c xs (a c xs e)
theorem dz.put{H:Hp}{D:Addr}{o:HO}{ys:List V}(h:H D=some (.lst ys)):dz H (upd H D o):=fun b xs e=>by
 rw[ao (aS e h (by intro z;cases z))]
 exact e
theorem Paired.tM{α β:Type}{F:α->β->Prop}:∀{l:List α} {r:List β} {i:Nat} {x:α},Paired F l r->l[i]?=some x->∃ y,r[i]?=some y/\F x y
 | _,_,_,_,.nil,e=>by simp at e
 | _,_,0,_,.cons h _,e=>by
   simp at e;subst e;exact⟨_,rfl,h⟩
 | _,_,i+1,x,.cons _ t,e=>by
   obtain⟨y,h1,h2⟩:=Paired.tM (i:=i) (x:=x) t (by simpa using e)
   exact⟨y,by simpa using h1,h2⟩
theorem GI(ns:List Int)(lo hi:Option Int):rT (ns.map V.int) lo hi=((ns.drop (HT.fF ns.length 0 lo)).take (HT.fF ns.length ns.length hi-HT.fF ns.length 0 lo)).map V.int:=by
 unfold rT;rw[List.length_map,<-List.map_drop,<-List.map_take]
section
variable {X:Cx}{l:Expr}{tl:TE}{tg a b o e:Expr}{ta tb to:TE}{es:List Expr}
theorem Bp(K:bX)(hu:X.A.units+64<cLine)(h:X.K=K:=by rfl):k6 X (compareOp .Eq) (PR K):=by subst h;exact MV hu
def PU(K:bX):List V->Hp->VK->Prop:=fun xs H Q=>∃ p ys,xs=[.ref p]/\(aK K H p ys\/aQ K H p ys)/\Q (.int ys.length) H
theorem Tc(K:bX)(h:X.K=K:=by rfl):e7 X (.builtin "len") (PU K):=by subst h;exact xQ
def PV(K:bX):List V->Hp->VK->Prop:=fun xs H Q=>∃ p ys,xs=[.ref p]/\(aK K H p ys\/aQ K H p ys)/\∀ l,H l=none->Q (.ref l) (upd H l (.lst ys))
theorem PX(K:bX)(h:X.K=K:=by rfl):e7 X (.type "list") (PV K):=by subst h;exact xR
def PY(K:bX):List V->Hp->VK->Prop:=fun xs H Q=>∃ p ys,xs=[.ref p]/\((aK K H p ys/\∀ l,H l=none->Q (.ref l) (upd H l (.tup ys)))\/(aQ K H p ys/\Q (.ref p) H))
theorem C9(K:bX)(h:X.K=K:=by rfl):e7 X (.type "tuple") (PY K):=by subst h;exact vq
theorem iI(K:bX)(h:X.K=K:=by rfl):Ot X (Py K):=by subst h;exact Kd
theorem bR(K:bX)(h:X.K=K:=by rfl):Ot X (Pz K):=by subst h;exact MO
theorem Td(K:bX)(h:X.K=K:=by rfl):Pu X (PD K):=by subst h;exact Ke
theorem XS(K:bX)(h:X.K=K:=by rfl):Pu X (Pw K):=by subst h;exact MN
theorem Tf(K:bX)(h:X.K=K:=by rfl):k6 X (compareOp .In) (RI K false):=by subst h;exact D9
theorem GJ(K:bX)(h:X.K=K:=by rfl):k6 X (compareOp .NotIn) (RI K true):=by subst h;exact xP
theorem pL(K:bX)(hl:PE X l tl)(h:X.K=K:=by rfl):PI X tg l (LK K tl):=by subst h;exact JX hl
theorem JB(K:bX){k:Nat}{t:Jy}{n:Nat}{pos:Pos}(hc:X.calm=true)(hp:Oo X es t)(hn:(assignEach es X.env).length=n:=by rfl)(hst:(assignEach es X.env).findIdx? (·.1)=none:=by rfl)(h:X.K=K:=by rfl):
 PG X (.Tuple es k pos) (Pa K n t):=by subst h;exact MF hc hp hn hst
end
def vt(od:Option Addr)(c:Value)(e:Addr)(h:Heap):Prop:=∃ oe vs,h.get? e=some oe/\oe.data = .fields vs/\vs[2]?=some c/\oe.dict=od
theorem GK(o:Obj)(f):(o.mapFields f).dict=o.dict:=by
 obtain⟨c,d,dt,sl⟩:=o;cases dt<;>rfl
section
variable {M:Model}{A:Around}{E:di}{s:Shared}{B:Heap}{env:Env}{outer l:List Env}{L e:Addr}{cls a0:Value}{Q:Unit->Shared->Prop}{od:Option Addr}{c:Value}
theorem xU{h:Heap}{T:Addr}{oT:Obj}{ts:Array Value}(f:Obj->Obj)(hT:h.get? T=some oT)(hd:oT.data = .fields ts):h.UpToSlots (h.update T f):=fun b o hb hn=>by
 have ne:T≠b:=fun z=>by
  rw[<-z,hT]at hb;cases hb;exact hn ts hd
 exact⟨o.slots,(Heap.get?_update_other h f ne).trans hb⟩
theorem pW{h:Heap}{T:Addr}(f:Obj->Obj)(k:B.StaysIn h)(n:B.get? T=none):B.StaysIn (h.update T f):=fun b o hb=>by
 have ne:T≠b:=fun z=>by
  rw[<-z,n]at hb;cases hb
 exact(Heap.get?_update_other h f ne).trans (k b o hb)
theorem j7{h h' : Heap}(x:h.FunFrames B l)(u:h.UpToSlots h'):h'.FunFrames B l:=x.of_keeps fun b o hb hn =>
 let⟨_,q⟩:=u b o hb hn
 ⟨_,q,rfl⟩
theorem LV{fl:Value}(hk:B.StaysIn s.heap)(hn:B.get? e=none)(hl:s.heap.FunFrames B l)(ht:s.heap.TracedAtW B e cls a0 fl)(h2:vt od c e s.heap)
 (q:∀ h',Heap.FlyingW B l e cls a0 h'->vt od c e h'->s.heap.UpToSlots h'->Q () { s with heap:=h'}):wpAny M A (setFlight (.ref e) none) Q E s:=by
 obtain⟨oe,vs,T,oT,ts,ge,hc,de,f1,nT,Te,gT,dT,f3⟩:=ht;have z3:3<ts.size:=(Array.getElem?_eq_some_iff.mp f3).1;rw[setFlight];refine aP (wpAny_field ge de f1 ?_);rw[if_pos (by simp)]
 refine wpAny_setField gT dT z3 ?_;have up:=xU (Obj.mapFields (·.setIfInBounds 3 ((none:Option Addr).elim Value.none fun f=>rawInt f))) gT dT
 have RK:=(Heap.get?_update_other s.heap (Obj.mapFields (·.setIfInBounds 3 ((none:Option Addr).elim Value.none fun f=>rawInt f))) Te).trans ge
 have Vh:=Obj.data_mapFields dT (·.setIfInBounds 3 ((none:Option Addr).elim Value.none fun f=>rawInt f))
 refine q _ ⟨pW _ hk nT,hn,j7 hl up,oe,vs,T,_,_,RK,hc,de,f1,nT,Te,Heap.get?_update_self _ gT (Obj.isFreed_of_fields Vh),Vh,by simp[z3]⟩ ?_ up
 obtain⟨o2,v2,g2,d2,k2,z2⟩:=h2;rw[ge]at g2;cases g2;exact⟨oe,v2,RK,d2,k2,z2⟩
theorem GL{oe:Obj}{vs:Array Value}{head:Value}{hadNext:Bool}(hfr:A.frames=some (env::outer))(hl:s.heap.FunFrames B (env::outer))(hf:env.frame=some L)(ge:s.heap.get? e=some oe)(hk:B.StaysIn s.heap)(hn:B.get? e=none)
 (de:oe.data = .fields vs) (hz:1<vs.size) (h0:vs[0]?=some a0) (h2:vs[2]?=some c) (hz2:oe.dict=od)
 (q:∀ h',Heap.HeldW B (env::outer) e oe.cls a0 L h'->vt od c e h'->s.heap.UpToSlots h'->Q () { s with heap:=h'}) :
 wpAny M A (do let a←frameOf env;let pl←entryPlaceOf L hadNext;let b←EntryCells.newEntry head a .none (rawInt L) .none pl;setField (.ref e) 1 b) Q E s:=by
 have Tg:e∉(env::outer).filterMap (·.frame):=fun z=>by
  obtain⟨_,o,ho,nf⟩:=hl.mem z;rw[ge]at ho;cases ho;exact nf vs de
 refine aP (wpAny_frameOf_fun hfr hl hf fun h1 so=>aP (wpAny_entryPlaceOf fun pl ip=>?_))
 rw[EntryCells.newEntry,newFields];refine aP (wpAny_newObj_type ?_ (ip.sizeOk5 _ _ _ _ _));generalize hnw:({ cls:=.type "traceback",dict:=none,data:=.fields ([head,.ref L,.none,rawInt L,.none]++(if pl.isEmpty then List.replicate 6 Value.none else pl)).toArray}:Obj)=nw
 have dn:nw.data = .fields ([head,.ref L,.none,rawInt L,.none]++(if pl.isEmpty then List.replicate 6 Value.none else pl)).toArray:=by rw[<-hnw]
 have ge1:h1.get? e=some oe:=(so.2.1 e Tg).trans ge;have Th:=Heap.get?_push_of_some (h:=h1) nw ge1;have Te:h1.objs.size≠e:=Nat.ne_of_gt (Heap.lt_size ge1);refine wpAny_setField Th de hz ?_;have Ti:=Obj.data_mapFields de (·.setIfInBounds 1 (Value.ref h1.objs.size));have Vi:=Heap.get?_update_self (Obj.mapFields (·.setIfInBounds 1 (Value.ref h1.objs.size))) Th (Obj.isFreed_of_fields Ti);have XT:=(Heap.get?_update_other (h1.push nw) (Obj.mapFields (·.setIfInBounds 1 (Value.ref h1.objs.size))) (Ne.symm Te)).trans (Heap.get?_push_size h1 (by rw[<-hnw];rfl))
 have up:s.heap.UpToSlots ((h1.push nw).update e (Obj.mapFields (·.setIfInBounds 1 (Value.ref h1.objs.size)))):=by
  have u1:s.heap.UpToSlots h1:=fun b o hb _=>so.2.2 b o hb
  exact(u1.trans (.of_keeps fun b o hb=>Heap.get?_push_of_some nw hb)).trans (xU _ Th de)
 have k1:B.StaysIn h1:=fun b o hb=>(so.2.1 b fun z=>by rw[(hl.mem z).1]at hb;cases hb).trans (hk b o hb)
 have k2:B.StaysIn (h1.push nw):=fun b o hb=>Heap.get?_push_of_some nw (k1 b o hb)
 refine q _ ⟨pW _ k2 hn,hn,j7 hl up,_,_,h1.objs.size,nw,_,Vi,⟨Obj.cls_mapFields _ _,by rw[Array.getElem?_setIfInBounds_ne (by decide)];exact h0⟩,Ti,by simp[hz],k1.fresh,Te,XT,dn,?_⟩ ?_ up
 ·first | (simp;done) | (rcases ip with rfl | ⟨_,_,_,_,_,_,_,rfl⟩<;>simp)
 ·exact⟨_,_,Vi,Ti,by rw[Array.getElem?_setIfInBounds_ne (by decide)];exact h2,(GK _ _).trans hz2⟩
theorem P0(hfr:A.frames=some (env::outer))(hf:env.frame=some L)(fl:Heap.FlyingW B (env::outer) e cls a0 s.heap)(h2:vt od c e s.heap)
 (q:∀ h',Heap.HeldW B (env::outer) e cls a0 L h'->vt od c e h'->s.heap.UpToSlots h'->Q () { s with heap:=h'}):wpAny M A (noteFrame (.ref e) env) Q E s:=by
 obtain⟨hk,hn,hl,oe,vs,T,oT,ts,ge,⟨hc,h0⟩,de,f1,nT,Te,gT,dT,f3⟩:=fl;obtain⟨o2,v2,g2,d2,k2,z2⟩:=h2;rw[ge]at g2;cases g2;rw[de]at d2;cases d2;cases hc;rw[noteFrame];simp only[hf];refine aP (wpAny_field ge de f1 ?_);rw[if_pos (by simp)]
 refine aP (wpAny_field gT dT f3 ?_);rw[if_neg (by simp[rawInt])]
 refine aP (wpAny_setField gT dT (Array.getElem?_eq_some_iff.mp f3).1 ?_);have up:=xU (Obj.mapFields (·.setIfInBounds 3 Value.none)) gT dT;have RK:=(Heap.get?_update_other s.heap (Obj.mapFields (·.setIfInBounds 3 Value.none)) Te).trans ge;exact GL (s:={ s with heap:=s.heap.update T (Obj.mapFields (·.setIfInBounds 3 Value.none))}) hfr (j7 hl up) hf RK (pW _ hk nT) hn de (Array.getElem?_eq_some_iff.mp f1).1 h0 k2 z2 fun h' x1 x2 x3=>q h' x1 x2 (up.trans x3)
theorem P1(x:Heap.FlyingW B (env::outer) e cls a0 s.heap):Heap.FlyingW B outer e cls a0 s.heap :=
 let⟨k1,k2,⟨_,_,k3⟩,k4⟩:=x
 ⟨k1,k2,k3,k4⟩
theorem leave_on2(hfr:A.frames=some (env::outer))(hf:env.frame=some L)(fl:Heap.FlyingW B (env::outer) e cls a0 s.heap)(h2:vt od c e s.heap)
 (q:∀ h',Heap.FlyingW B outer e cls a0 h'->vt od c e h'->s.heap.UpToSlots h'->Q () { s with heap:=h'}):wpAny M A (leaving env (.ref e)) Q E s:=by
 rw[leaving];refine aP (P0 hfr hf fl h2 fun h' x1 x2 x3=>?_)
 obtain⟨y1,y2,y3,y4⟩:=x1;exact LV (s:={ s with heap:=h'}) y1 y2 y3 y4 x2 fun h'' z1 z2 z3=>q h'' (P1 (s:={ s with heap:=h''}) z1) z2 (x3.trans z3)
theorem leave_new{oe:Obj}{vs:Array Value}(hfr:A.frames=some (env::outer))(hf:env.frame=some L)(hk:B.StaysIn s.heap)(hn:B.get? e=none)(hl:s.heap.FunFrames B (env::outer))(ge:s.heap.get? e=some oe)(de:oe.data = .fields vs)
 (h0:vs[0]?=some a0) (h1:vs[1]?=some .none) (h2:vs[2]?=some c) (hz2:oe.dict=od)
 (q:∀ h',Heap.FlyingW B outer e oe.cls a0 h'->vt od c e h'->s.heap.UpToSlots h'->Q () { s with heap:=h'}):wpAny M A (leaving env (.ref e)) Q E s:=by
 rw[leaving,noteFrame];simp only[hf];refine aP (aP (wpAny_field ge de h1 ?_));rw[if_neg (by decide)]
 refine GL (a0:=a0) hfr hl hf ge hk hn de (Array.getElem?_eq_some_iff.mp h1).1 h0 h2 hz2 fun h' x1 x2 x3=>?_
 obtain⟨y1,y2,y3,y4⟩:=x1;exact LV (s:={ s with heap:=h'}) y1 y2 y3 y4 x2 fun h'' z1 z2 z3=>q h'' (P1 (s:={ s with heap:=h''}) z1) z2 (x3.trans z3)
end
section
variable {P:Program}{w:World}{H H0 H1:Hp}{h h0 h1 h2:Heap}{a:Addr}{o:HO}{fs:List Addr}{B:Heap}
theorem bz.thing(x:bz P w H h a o):∃ ob,h.get? a=some ob:=by
 cases o with
 | lst xs=>obtain⟨_,_,_,_,e⟩:=x;exact⟨_,e⟩
 | tup xs=>obtain⟨_,_,_,ob,e,_⟩:=x;exact⟨ob,e⟩
 | dK kvs=>obtain⟨_,_,_,_,ob,_,_,e,_⟩:=x;exact⟨ob,e⟩
 | dT kvs=>obtain⟨_,_,_,_,ob,_,_,e,_⟩:=x;exact⟨ob,e⟩
 | set S n=>obtain⟨ob,_,_,_,e,_⟩:=x;exact⟨ob,e⟩
 | ins C dx fs=>obtain⟨_,_,_,e,_⟩:=x;exact⟨_,e⟩
 | own y=>exact x
 | xd fs=>obtain⟨_,⟨ob,_,_,e,_⟩,_⟩:=x;exact⟨ob,e⟩
 | DV lo hi=>obtain⟨_,_,_,e⟩:=x;exact⟨_,e⟩
 | k9 ob u=>obtain⟨e,_⟩:=x;exact⟨_,e⟩
 | jJ ps=>obtain⟨_,e,_⟩:=x;exact⟨_,e⟩
 | met f y=>exact⟨_,(show h.get? a=some _ from x)⟩
 | ext φ=>obtain⟨_,e,_⟩:=x;exact e
def Ko(B:Heap)(fs:List Addr)(h0:Heap)(H:Hp)(h:Heap):Prop:=∀ b o,h.get? b=some o->(H b≠none\/∃ o',h0.get? b=some o')->b∉fs->B.get? b=some o
theorem GN(un:Un fs [] H0 H1 h0 h1)(hok:l8 P w H1 h1)(XU:∀ b∈fs,H1 b=none)(fr:∀ b∈fs,∀ ob,h1.get? b=some ob->∀ vs,ob.data≠.fields vs)(LW:Ko B fs h0 H1 h1)
 (hB:B.StaysIn h2) (up:h1.UpToSlots h2):Un fs [] H0 H1 h0 h2/\l8 P w H1 h2/\Ko B fs h0 H1 h2:=by
 have Tj:∀ b ob,h1.get? b=some ob->(H1 b≠none\/∃ o',h0.get? b=some o')->b∉fs->h2.get? b=some ob:=fun b ob e c n=>hB b ob (LW b ob e c n)
 have Om:∀ b u,H1 b=some u->b∉fs:=fun b u e z=>by
  rw[XU b z]at e;cases e
 refine⟨⟨fun b ob e n hb hx=>Tj b ob (un.keep b ob e n hb hx) (.inr ⟨ob,e⟩) hb,fun b ob e n hb hx=>?_,un.free,fun b ob e hx=>?_,un.tups,un.jZ,un.lg⟩,fun b u e=>?_,fun b ob e c n=>?_⟩
 ·obtain⟨sl,q⟩:=un.slot b ob e n hb hx;obtain⟨RD,q'⟩:=up b _ q (fr b hb _ q);exact⟨RD,q'⟩
 ·obtain⟨o',q⟩:=un.there b ob e hx
  by_cases hb:b∈fs
  ·obtain⟨RD,q'⟩:=up b _ q (fr b hb _ q);exact⟨_,q'⟩
  ·exact⟨o',Tj b o' q (.inr ⟨ob,e⟩) hb⟩
 ·refine(hok b u e).stay (fun c v hc q=>?_) (fun _ q=>q) fun _ _ q=>q
  have hct:∃ z,H1 c=some z:=by
   rcases hc with hc|hc
   ·rw[hc];exact⟨u,e⟩
   ·exact⟨_,hc⟩
  obtain⟨z,hz⟩:=hct;exact Tj c v q (.inl (by rw[hz];simp)) (Om c z hz)
 ·have ht:∃ o1,h1.get? b=some o1:=by
   rcases c with c|⟨o',c⟩
   ·cases hz:H1 b with
    | none=>exact absurd hz c
    | some z=>exact(hok b z hz).thing
   ·exact un.there b o' c (by simp)
  obtain⟨o1,q⟩:=ht;have q2:=LW b o1 q c n;have q3:=hB b o1 q2;rw[e]at q3;rw[Option.some.inj q3];exact q2
end
def Tn(ea:Addr)(cls:Value):HO:=.ext fun h=>∃ oe vs,h.get? ea=some oe/\oe.cls=cls/\oe.data = .fields vs/\vs[2]?=some .none
def MX(E:XK)(cls:Value)(od:Option Addr)(c:Value)(H:Hp):Prop:=(c = .none/\(∃ C0:Addr,cls = .ref C0)/\E cls od H)\/∃ C e' C',cls = .ref C/\od=none/\c = .ref e'/\H e' = some (Tn e' C')/\E (.int (C:Int) e') none H
def GO(P:Program)(w:World):F3:=fun outer H s E e s'=>∃(ea:Addr) (cls a0:Value) (od:Option Addr) (c:Value) (H' : Hp) (B:Heap),e = .ref ea/\s'.os=s.os/\AllBare s'.gens/\Un (frs outer) [] H H' s.heap s'.heap/\l8 P w H' s'.heap/\H' ea=none/\
 Ko B (frs outer) s.heap H' s'.heap/\Heap.FlyingW B outer ea cls a0 s'.heap/\vt od c ea s'.heap/\MX E cls od c H'
structure Out(X:Cx)(E:XK):Prop where
 JR:X.stack=X.env::X.outer
 fr:X.env.frame=some X.env.locals
 ex:X.ex=[]
 xe:∀ e s',wpAny (model X.prog X.w) X.A (leaving X.env e) (fun _ s''=>GO X.prog X.w X.outer X.H₀ X.s₀ E e s'') (fun e' s''=>GO X.prog X.w X.outer X.H₀ X.s₀ E e' s'') s'->X.xe e s'
def Vj(X:Cx)(E:XK):Prop:=∀(pq:aR) (σ:St) (H:Hp) (s:Shared) (h1:Heap) (ea C0:Addr) (vs:List Value),Inv X pq σ H s->Heap.MadeExcOf s.heap h1 ea (.ref C0) vs->E (.ref C0) none H->X.xe (.ref ea) { s with heap:=h1}
section
variable {X:Cx}{E:XK}{pq:aR}{σ:St}{H:Hp}{s:Shared}
theorem Inv.MY(I:Inv X pq σ H s):∀ b∈X.fs,∀ ob,s.heap.get? b=some ob->∀ vs,ob.data≠.fields vs:=fun b hb ob e=>by
 obtain⟨_,o,ho,hnf⟩:=I.funs.mem hb;rw[e]at ho;cases ho;exact hnf
theorem Inv.MZ(I:Inv X pq σ H s)(hx:X.ex=[]):∀ b∈X.fs,H b=none:=fun b hb=>by
 obtain⟨_,o,ho,_⟩:=I.ok.funs.mem hb;exact I.base.free b o ho (I.ok.Mx b hb) (by rw[hx];simp)
theorem Ko.outer{B h0:Heap}{h:Heap}(I:Inv X pq σ H s)(LW:Ko B (frs X.stack) h0 H h)(k:∀ b o,X.s₀.heap.get? b=some o->∃ o',h0.get? b=some o'):Ko B X.fs X.s₀.heap H h:=fun b o e c n=>by
 refine LW b o e (c.imp id fun⟨o',q⟩=>k b o' q) fun z=>?_
 rcases List.mem_cons.mp (I.sY b z) with q|q
 ·subst q;rcases c with c|⟨o',c⟩
  ·exact c I.free
  ·exact absurd (Nat.lt_of_lt_of_le (Heap.lt_size c) I.ok.above) (Nat.lt_irrefl _)
 ·exact n q
theorem Dd(O:Out X E)(I:Inv X pq σ H s){B:Heap}{ea:Addr}{cls a0:Value}{od:Option Addr}{c:Value}{h2:Heap}(LW:Ko B X.fs X.s₀.heap H s.heap)(fl:Heap.FlyingW B X.outer ea cls a0 h2)(sc:vt od c ea h2)(up:s.heap.UpToSlots h2)(hn:H ea=none)(q:MX E cls od c H):
 GO X.prog X.w X.outer X.H₀ X.s₀ E (.ref ea) { s with heap:=h2}:=by
 have un:Un X.fs [] X.H₀ H X.s₀.heap s.heap:=by
  have u:=I.base;rw[O.ex]at u;exact u
 obtain⟨u2,XW,c2⟩:=GN un I.hok (I.MZ O.ex) I.MY LW fl.1 up;exact⟨ea,cls,a0,od,c,H,B,rfl,I.os,I.bare,u2,XW,hn,c2,fl,sc,q⟩
theorem Out.To(O:Out X E){ea:Addr}{oe:Obj}{vs:Array Value}{a0 c:Value}(I:Inv X pq σ H s)(ge:s.heap.get? ea=some oe)(de:oe.data = .fields vs)(h0:vs[0]?=some a0)(h1:vs[1]?=some .none)(h2:vs[2]?=some c)
 (hn:H ea=none) (new:X.s₀.heap.get? ea=none) (q:MX E oe.cls oe.dict c H):X.xe (.ref ea) s:=by
 refine O.xe _ _ ?_;have hfr:X.A.frames=some (X.env::X.outer):=by rw[I.ok.frames,O.JR]
 have hl:s.heap.FunFrames (PySem.W.hideAll s.heap (ea::frs X.stack)) (X.env::X.outer):=by
  have z:=PySem.W.funFrames_hide (as:=ea::frs X.stack) I.stack fun env he b hb=>jY _ (List.mem_filterMap.mpr ⟨env,he,hb⟩)
  rw[O.JR]at z ⊢;exact z
 refine leave_new hfr O.fr (fun b o e=>PySem.W.of_hideAll _ e) (PySem.W.hideAll_none _ (List.mem_cons_self ..)) hl ge de h0 h1 h2 rfl fun h3 fl sc up=>?_
 refine Dd O I (Ko.outer I (h0:=X.s₀.heap) (fun b o e c n=>?_) fun b o e=>⟨o,e⟩) fl sc up hn q
 refine PySem.W.hideAll_get _ e fun z=>?_
 rcases List.mem_cons.mp z with z|z
 ·subst z;rcases c with c|⟨o',c⟩
  ·exact c hn
  ·rw[new]at c;cases c
 ·exact n z
theorem Out.Tp(O:Out X E){ea:Addr}{oe:Obj}{vs:Array Value}{a0:Value}(I:Inv X pq σ H s)(ge:s.heap.get? ea=some oe)(de:oe.data = .fields vs)(h0:vs[0]?=some a0)(h1:vs[1]?=some .none)(h2:vs[2]?=some .none)
 (hn:H ea=none) (new:X.s₀.heap.get? ea=none) (hcl:∃ C0:Addr,oe.cls = .ref C0) (q:E oe.cls oe.dict H):X.xe (.ref ea) s:=O.To I ge de h0 h1 h2 hn new (.inl ⟨rfl,hcl,q⟩)
theorem Out.Vk(O:Out X E):Vj X E:=by
 intro pq σ H s h1 ea C0 vs I mk q;have I1:Inv X pq σ H { s with heap:=h1}:=I.kept (t':=s.toks) mk.keeps
 have hn:H ea=none:=by
  cases hz:H ea with
  | none=>rfl
  | some z =>
    obtain⟨ob,e⟩:=(I.hok ea z hz).thing;rw[mk.new]at e;cases e
 obtain⟨t,ge,_,_⟩:=mk.there;refine O.Tp I1 (a0:=.ref t) ge rfl rfl rfl rfl hn ?_ ⟨_,rfl⟩ q;cases hz:X.s₀.heap.get? ea with
 | none=>rfl
 | some o =>
   obtain⟨o',e⟩:=I.base.there ea o hz (by rw[O.ex];simp)
   rw[mk.new]at e;cases e
theorem Inv.P4{H' : Hp}{s' : Shared}(I:Inv X pq σ H s)(os:s'.os=s.os)(bare:AllBare s'.gens)(un:Un (frs X.stack) [] H H' s.heap s'.heap)(hok:l8 X.prog X.w H' s'.heap):Inv X pq σ H' s' :=
 I.Gg (ch:=[]) os un hok bare fun b z=>absurd z (by simp)
theorem Out.passes(O:Out X E):Passes (GO X.prog X.w) X E:=by
 intro pq σ H s e s' I q;obtain⟨ea,cls,a0,od,c,H',B,rfl,os,bare,un,hok,hn,LW,fl,sc,qE⟩:=q;have I1:=I.P4 os bare un hok;refine O.xe _ _ ?_;have hfr:X.A.frames=some (X.env::X.outer):=by rw[I.ok.frames,O.JR]
 rw[O.JR]at fl;refine leave_on2 hfr O.fr fl sc fun h2 XX RL up=>?_
 exact Dd O I1 (Ko.outer I1 LW fun b o e=>I.base.there b o e (by rw[O.ex];simp)) XX RL up hn qE
end
theorem gE{P:Program}{w:World}{K:bX}{mg:mZ}{base:Heap}{N:List Str}{qual:Str}{scope:Scope}{f:Addr}{cd:Value}{A:Around}{outer:List Env}{s:Shared}{H:Hp}{E:XK}:
 Out (rS (GO P w) P w K mg base N qual scope f cd A outer s H E) E:=⟨rfl,rfl,rfl,fun _ _ h=>h⟩
theorem Kl.F5{P:Program}{w:World}{K:bX}{mg:mZ}{base:Heap}{x qual:Str}{st:Stmt}{f:Addr}{fd:FuncData}{N ps:List Str}{k:Nat}{sp:Sp}(F:Kl K x qual st f fd)(S:aE N ps (ak st))
 (len:∀ vs H Q E,sp vs H Q E->vs.length=ps.length)
 (hbody:∀(cdv:Value) (A:Around) (outer:List Env) (s:Shared) (H:Hp) (vs:List V) (Q:VK) (E:XK),eV k (A.deeper (envOfC qual (ak st) s.heap.objs.size f cdv))->sp vs H Q E->
  ∃ t,vX (rS (GO P w) P w K mg base N qual (ak st) f cdv A outer s H E) (cf st) t/\t { nx:=fun _ H'=>Q .dU H',rt:=Q} (start N vs) H):lz P w K mg base (GO P w) (k+1) f fd ps sp:=by
 obtain⟨oc,od,kV,doc,pm,an,cdv,ct,osl,rfl,lk,hcd⟩:=F.ex;exact Gu lk hcd S len fun A outer s H vs Q E hr wu=>hbody cdv A outer s H vs Q E hr wu
section
variable {X:Cx}{E:XK}
def M0(C:Addr)(E:XK)(t:TA):TS:=fun _ σ H=>t σ H fun vs H1=>vs.length<=sizeLine/\E (.ref C) none H1
theorem zf{x:Str}{C:Addr}{bm:List Value}{B newId initId:String}{e:Expr}{es:List Expr}{ta:TA}{np cpos pos:Pos}(th:Vj X E)(hc:X.calm=true)(hg:Gl X x)(O:∀ h,X.K.In h->h.Ns mainGlobals X.mg->OwnCls x C bm newId X.mg h)
 (FB:ExcBaseFacts B newId initId bm) (ha:PA X (e::es) ta) (he:starEach (e::es) X.env=(false,eval e X.env)::starEach es X.env:=by rfl) (hpl:(backTo cpos (starEach es X.env)).any (·.1)=false:=by rfl)
 (hd:(x==("__debug__":Str))=false:=by decide):PS X (.Raise (some (.Call (.Name x np) (e::es) [] cpos)) none pos) (M0 C E ta):=by
 intro pq s σ H D I h;have OC:=O _ I.mod.RA I.mod.glob;obtain⟨tl,N,nm,q,bs,hdct,sn,sub,ab,col,dd,k0,k1,k2,k3,k5,mN,hC,hN,hni,T⟩:=OC.obj;refine wpAny_Raise_call_subT (C:=C) (nm:=nm) (q:=q) (N:=N) (bs:=bs) (bm:=tl) (hdct:=hdct) (sn:=sn) (sub:=sub) (ab:=ab) (col:=col) (dd:=dd) (k0:=k0) (k1:=k1) (k2:=k2) (k3:=k3) (k5:=k5)
  FB (mN:=mN) (T.hasType FB.hasBase) (I.ok.hd hc) (by rw[he];show(false || (backTo cpos (starEach es X.env)).any (·.1))=false;rw[hpl];rfl) hni (CO I hg OC.bound ⟨rfl,?_⟩ hd)
 have hA:=ha cpos pq s σ H _ I h;rw[he]at hA ⊢;refine Calls.evalArgs_plain (wpAny_mono hA (fun us s1 ⟨vs,H1,I1,r1,z,q1⟩=>?_) fun _ _ y=>y)
 exact⟨rfl,by rw[<-r1.length];exact z,I1.bk _ _ hC,hN.keeps I1.bk,T.keeps I1.bk,fun h' ea hm=>th pq σ H1 s1 h' ea _ us I1 hm q1⟩
end
open PySem PySem.Spec PySem.Calls PyProof.Rows PySem.W PySem.Builtin PySem.Builtin.ObjectAttr PySem.Builtin.Getset_descriptor
section
variable {X:Cx}
theorem M3:k6 X (compareOp .IsNot) (fun x y H Q=>∃ a b,x = .bl a/\y = .bl b/\Q (.bl (!(a==b))) H):=by
 intro pq s σ H x y v u Q I rx ry h;obtain⟨a,b,rfl,rfl,q⟩:=h;cases rx;cases ry;refine wpAny_isNot_plain rfl ⟨.bl _,H,I,?_,q⟩;cases a<;>cases b<;>rfl
def P5(K:bX):V->V->Hp->VK->Prop:=fun o i H Q=>∃ p xs j v,o = .ref p/\i = .int ((j:Nat):Int)/\aK K H p xs/\xs[j]?=some v/\Q v H
theorem getL(K:bX)(hK:X.K=K:=by rfl):Pd X (P5 K):=by
 subst hK;intro pq s σ H o i ov iv Q I ro ri h;obtain⟨p,xs,j,v,rfl,rfl,hq,e,q⟩:=h;cases ro;obtain⟨t,rfl⟩:=ri;obtain⟨its,r,pl,hz⟩:=I.list hq;obtain⟨u,eu,ru⟩:=r.get e;have hj:j<xs.length:=(iH.mp e).1;have hn:=pR;exact wpAny_getItem_list pl.isList (by lia) (by lia) (by simpa using eu) ⟨v,H,I,ru,q⟩
end
section
variable {X:Cx}{tg:Expr}
theorem xV{iter:Expr}{body:List Stmt}{wi:TI}{g:TG}{tb:TS}{pos:Pos}(hc:X.calm=true)(hi:PI X tg iter wi)(hg:PG X.A2 tg g)(hb:vX X.A2 body tb)(hs:∀ x,foldedSetIterable iter X.env x=pure x:=by intro _;rfl):
 PS X (.For tg iter body [] pos) (eG wi g tb):=by
 intro pq s σ H D I h;refine wpAny_For (cK (hi pq s σ H _ I h) fun v s1 h1=>cK h1 fun itv s2 h2=>?_) hs
 obtain⟨it,fp,tn,J,H2,e,I2,T,st2,f2,W,⟨m0,w0⟩,turn⟩:=h2;subst e;have Ba:∀{H' : Hp},(∀ b∈fp,H' b=none)->∀ b∈fp,nk X.A2 pq H' b:=fun hn b hb=>⟨hn b hb,(f2 b hb).2⟩
 refine codeAny_forLoop_any (fun n s'=>∃ i σ' H',Inv X.A2 pq σ' H' s'/\tn i s'.heap/\(∀ b∈fp,H' b=none)/\W i n σ' H') ?_ m0 ⟨0,σ,H2,I2.tu _,st2,fun b hb=>(f2 b hb).1,w0⟩
 rintro n s3 ⟨i,σ3,H3,I3,st3,LM,w3⟩;rcases turn i n σ3 H3 w3 with⟨stop,qn⟩|⟨go,N,hN,step⟩
 ·refine wpAny_mono (T.done X.A2 rfl rfl rfl hc i pq s3 σ3 H3 (fun _ _=>False) I3 (Ba LM) st3 stop) (fun r s4 ⟨hr,I4⟩=>?_) fun _ _ z=>z.elim
  subst hr;exact wpAny_execs_nil ⟨σ3,H3,I4.iT,qn⟩
 ·refine wpAny_mono (T.item X.A2 rfl rfl rfl hc i pq s3 σ3 H3 (fun _ _=>False) I3 (Ba LM) st3 go) (fun r s4 ⟨u,hr,h4⟩=>?_) fun _ _ z=>z.elim
  subst hr;refine wpAny_mono h4 (fun _ s5 ⟨x,H5,I5,r5,y5,Gk,Pf⟩=>?_) fun _ _ z=>z.elim
  have Pg:=I5.pinned (Ba Pf) (T.obj _ _ Gk);refine wpAny_mono (hg _ s5 σ3 H5 x u _ Pg r5 (step x H5 y5)) (fun _ s6 ⟨σ6,H6,I6,q6⟩=>?_) fun _ _ z=>z.elim
  refine wpAny_mono (hb _ s6 σ6 H6 _ I6 q6) (fun f s7 q7=>?_) fun _ _ z=>z.elim
  have again:∀{σ7:St} {H7:Hp},Inv X.A2 (pq++pQ fp s5.heap) σ7 H7 s7->N σ7 H7->∃ m,m<n/\∃ i σ' H',Inv X.A2 pq σ' H' s7/\tn i s7.heap/\(∀ b∈fp,H' b=none)/\W i m σ' H':=fun {σ7 H7} I7 n7=>by
   obtain⟨m',hm,w7⟩:=hN σ7 H7 n7;refine⟨m',hm,i+1,σ7,H7,I7.iU,T.keep _ _ _ Gk fun b hb o e=>(I7.pin (b,o) (gZ _ (gZ _ (gA hb e)))).1,fun b hb=>?_,w7⟩
   obtain⟨o,e,d⟩:=T.obj _ _ Gk b hb;exact(I7.pin (b,o) (gZ _ (gZ _ (gA hb e)))).2.1
  cases f with
  | next=>obtain⟨σ7,H7,I7,n7⟩:=q7;exact again I7 n7
  | cont=>obtain⟨σ7,H7,I7,n7⟩:=q7;exact again I7 n7
  | brk=>obtain⟨σ7,H7,I7,q7⟩:=q7;exact⟨σ7,H7,I7.iU.iT,q7⟩
  | ret v=>obtain⟨x7,σ7,H7,I7,r7,q7⟩:=q7;exact⟨x7,σ7,H7,I7.iU.iT,r7,q7⟩
theorem zg{P:Program}{w:World}{X:Cx}:Passes (GO P w) X (fun _ _ _=>False):=by
 intro pq σ H s e s' I q;obtain⟨_,_,_,_,_,_,_,_,_,_,_,_,_,_,_,_,z⟩:=q;rcases z with⟨_,_,z⟩|⟨_,_,_,_,_,_,_,z⟩
 ·exact z.elim
 ·exact z.elim
end
theorem GP{K:bX}{h:Heap}{mg:mZ}{x:Str}{C:Addr}{bmB:List Value}{newId:String}(X:K.In h)(G:h.Ns mainGlobals mg)(e:PySem.W.nsIn K mainGlobals x=some (some (.ref C)))(q:PySem.W.excIn K C bmB newId=true):
 OwnCls x C bmB newId mg h:=by
 refine⟨PySem.W.mg_of X G e,?_⟩;unfold PySem.W.excIn at q
 split at q
 ·rename_i od cd sl look
  split at q
  ·rename_i Cx bm j0 j1 j2 j3 nw j5 hmro hsl
   simp only[Bool.and_eq_true,beq_iff_eq,Bool.not_eq_true']at q;obtain⟨⟨⟨⟨⟨rfl,rfl⟩,P6⟩,ht⟩,hok⟩,hni⟩:=q;obtain⟨nm,bs,mro,ns,qn,hd,sn,sub,ab,col,del⟩:=cd
   (dsimp only at hmro P6 hok hni;subst hmro P6)
   have hs2:sl = #[j0,j1,j2,j3,some (.builtin nw),j5]:=by
    obtain⟨l⟩:=sl;simp only at hsl;rw[hsl]
   subst hs2;exact⟨bm,ns,nm,qn,bs,hd,sn,sub,ab,col,od,j0,j1,j2,j3,j5,_,X _ _ look,.of_isNs (PySem.W.isNs_of_in X hok),PySem.W.nsMap_none_of_in X hok hni,PySem.W.tail_of_in X ht⟩
  ·cases q
 ·cases q
theorem Tq{α:Type}:∀ us:List α,us.length=1->∃ a,us=[a]
 | [_],_=>⟨_,rfl⟩
theorem Tr{α:Type}:∀ us:List α,us.length=2->∃ a b,us=[a,b]
 | [_,_],_=>⟨_,_,rfl⟩
theorem Tt{α:Type}:∀ us:List α,us.length=3->∃ a b c,us=[a,b,c]
 | [_,_,_],_=>⟨_,_,_,rfl⟩
theorem Tu{α:Type}:∀ us:List α,us.length=4->∃ a b c d,us=[a,b,c,d]
 | [_,_,_,_],_=>⟨_,_,_,_,rfl⟩
section
variable {X:Cx}{pq:aR}{σ:St}{H:Hp}{s:Shared}{h' : Heap}
theorem Inv.yields{t' : Nat}{wr:List Addr}{T:Addr}{o:HO}(I:Inv X pq σ H s)(k:∀ b u,b∉wr->s.heap.get? b=some u->h'.get? b=some u)(hf:∀ b∈wr,nk X pq H b)(hT:s.heap.objs.size<=T)
 (new:bz X.prog X.w (upd H T o) h' T o):Inv X pq σ (upd H T o) { s with heap:=h',toks:=t'}:=by
 have Vl:H T=none:=I.hok.fresh hT;have nT:∀ b u,H b=some u->b≠T:=fun b u e=>aW e Vl
 have nw:∀ b u,H b=some u->b∉wr:=fun b u e hb=>by rw[(hf b hb).1]at e;cases e
 refine I.step (g':=s.gens) (d':=s.drawn) (ch:=wr) (fun b hb=>?_) (fun b o _ _ hc e _=>k b o hc e) (fun b o _ _ hc e _=>⟨o.slots,k b o hc e⟩) (fun b u hc e n=>?_)
  (fun b o hc e=>⟨o,k b o hc e⟩) (fun b xs e=>?_) (fun b ob xs e=>?_) (fun b ps e=>⟨#[],?_⟩) (fun m hm=>?_) (fun b u e=>?_) I.bare
 ·obtain⟨_,f1,_,f3,f4,f5⟩:=hf b hb;exact⟨f3,f1,f4,f5⟩
 ·rw[ao (Nat.ne_of_lt (Nat.lt_of_lt_of_le (Heap.lt_size e) hT))];exact n
 ·rw[ao (nT b _ e)];exact e
 ·rw[ao (nT b _ e)];exact e
 ·rw[ao (nT b _ e),e];simp
 ·obtain⟨o,es,ep,ho,r⟩:=hm;exact⟨o,es,ep,k _ o (fun hb=>(hf _ hb).2.1 rfl) ho,r⟩
 ·by_cases hb:b=T
  ·subst hb;rw[ae]at e;cases e;exact new
  ·rw[ao hb]at e;refine(I.hok b u e).stay (fun c v hc q=>k c v ?_ q) (fun c q=>by rw[ao (nT c _ q)];exact q) fun c xs q=>by rw[ao (nT c _ q)];exact q
   rcases hc with z|z
   ·rw[z];exact nw b u e
   ·exact nw c _ z
theorem Inv.Kp{t' : Nat}{wr:List Addr}(I:Inv X pq σ H s)(k:∀ b u,b∉wr->s.heap.get? b=some u->h'.get? b=some u)(hf:∀ b∈wr,nk X pq H b):Inv X pq σ H { s with heap:=h',toks:=t'}:=by
 have nw:∀ b u,H b=some u->b∉wr:=fun b u e hb=>by rw[(hf b hb).1]at e;cases e
 refine I.step (g':=s.gens) (d':=s.drawn) (ch:=wr) (fun b hb=>?_) (fun b o _ _ hc e _=>k b o hc e) (fun b o _ _ hc e _=>⟨o.slots,k b o hc e⟩) (fun _ _ _ _ n=>n)
  (fun b o hc e=>⟨o,k b o hc e⟩) (fun _ _ e=>e) (fun _ _ _ e=>e) (fun b ps e=>⟨#[],by rw[e];simp⟩) (fun m hm=>?_) (fun b u e=>?_) I.bare
 ·obtain⟨_,f1,_,f3,f4,f5⟩:=hf b hb;exact⟨f3,f1,f4,f5⟩
 ·obtain⟨o,es,ep,ho,r⟩:=hm;exact⟨o,es,ep,k _ o (fun hb=>(hf _ hb).2.1 rfl) ho,r⟩
 ·refine(I.hok b u e).stay (fun c v hc q=>k c v ?_ q) (fun _ q=>q) fun _ _ q=>q
  rcases hc with z|z
  ·rw[z];exact nw b u e
  ·exact nw c _ z
end
def Ov(K:bX)(a:Addr):It :=
 ⟨fun i H=>∃ xs x,aK K H a xs/\xs[i]?=some x,fun i H v H'=>∃ T x,v = .ref T/\H T=none/\H' = upd H T (.tup [.int (i:Int),x])/\∀ xs,aK K H a xs->xs[i]?=some x,fun i H=>∃ xs,aK K H a xs/\xs.length<=i⟩
theorem Ed{P:Program}{w:World}{K:bX}{elts:List Expr}{k:Nat}{pos:Pos}(a e it:Addr)(hne:e≠it):
 Turn P w K (.Tuple elts k pos) (Ov K a) [e,it] e (fun i h=>(∃ old,IsEnum h e it (i:Int) old)/\h.IsListIter it a i) where
 mem:=by simp
 obj:=fun i h st b hb=>by
  obtain⟨⟨old,he⟩,o,ho,c,d⟩:=st;have hb' : b=e\/b=it:=by simpa using hb
  rcases hb' with rfl|rfl
  ·exact⟨_,he,fun v z=>by cases z⟩
  ·exact⟨o,ho,fun v z=>by rw[d]at z;cases z⟩
 keep:=fun i h h' st k=>by
  obtain⟨⟨old,he⟩,hit⟩:=st;exact⟨⟨old,k e (by simp) _ he⟩,hit.at fun o x=>k it (by simp) o x⟩
 item:=by
  intro X hP hw hK hc i pq s σ H E I hf st hg;subst hP hw hK;obtain⟨xs,x,hq,hx⟩:=hg;obtain⟨its,rv,p,hz⟩:=I.list hq;obtain⟨u,hu,ru⟩:=rv.get hx;obtain⟨⟨old,he⟩,hit⟩:=st;refine wpAny_pyNext_enum_item he hit p.isList (x:=u) (by simpa using hu) hne fun h1 ho M4 hT hsz hk=>?_
  refine⟨_,rfl,wpAny_letOwnedTupleGo_enum ho fun h2 Kq hs2=>?_⟩
  have P7:s.heap.objs.size≠e:=Nat.ne_of_gt (Heap.lt_size he);have hT2:h2.get? s.heap.objs.size=some { cls:=.type "tuple",data:=.seq #[.int i s.toks,u]}:=(hs2.2 _ P7).trans hT;refine⟨.ref s.heap.objs.size,upd H s.heap.objs.size (.tup [.int (i:Int),x]),I.yields (wr:=[e,it]) (t':=s.toks+1) (fun b o hb q=>?_) hf (Nat.le_refl _) ?_,rfl,⟨_,x,rfl,I.fresh,rfl,fun ys hy=>by rw[I.nY hy hq];exact hx⟩,⟨⟨u,by simpa using Kq⟩,?_⟩,fun b hb=>?_⟩
  ·have GQ:b≠e:=fun z=>hb (by simp[z])
   have M5:b≠it:=fun z=>hb (by simp[z])
   exact(hs2.2 b GQ).trans (hk b o GQ M5 q)
  ·exact⟨dl rfl,[.int i s.toks,u],.cons ⟨_,rfl⟩ (.cons ru .nil),⟨_,hT2,rfl,_,rfl⟩⟩
  ·exact M4.at fun o q=>(hs2.2 it (Ne.symm hne)).trans q
  ·rw[ao]
   ·exact(hf b hb).1
   ·have hb' : b=e\/b=it:=by simpa using hb
    rcases hb' with rfl|rfl
    ·exact Ne.symm P7
    ·obtain⟨o,q,_⟩:=hit;exact Nat.ne_of_lt (Heap.lt_size q)
 done:=by
  intro X hP hw hK hc i pq s σ H E I hf st hg;subst hP hw hK;obtain⟨xs,hq,hx⟩:=hg;obtain⟨its,rv,p,hz⟩:=I.list hq;obtain⟨⟨old,he⟩,hit⟩:=st;obtain⟨f0,f1,f2,f3,f4,f5⟩:=hf it (by simp)
  have hl:=rv.length;exact wpAny_pyNext_enum_end (I.ok.hd hc) he hit p.isList (by simp;lia) fun h' eb=>⟨rfl,I.turned (t':=s.toks) (fun b o hb e=>eb b o hb e) f0 f1 f3 f4 f5⟩
 self:=fun _ _ _ _ _ st h=>by
  obtain⟨⟨old,he⟩,_⟩:=st;exact wpAny_pyIter_enum he h
def Tv(K:bX)(a b:Addr):It :=
 ⟨fun i H=>∃ xs ys x y,aK K H a xs/\aK K H b ys/\xs[i]?=some x/\ys[i]?=some y,
  fun i H v H'=>∃ T x y,v = .ref T/\H T=none/\H' = upd H T (.tup [x,y])/\(∀ xs,aK K H a xs->xs[i]?=some x)/\∀ ys,aK K H b ys->ys[i]?=some y,
  fun i H=>∃ xs ys,aK K H a xs/\aK K H b ys/\(xs.length<=i\/ys.length<=i)⟩
theorem GR{P:Program}{w:World}{K:bX}{elts:List Expr}{k:Nat}{pos:Pos}(a b z TI TO i1 i2:Addr)(D:ZipApart z TI TO i1 i2 a b):
 Turn P w K (.Tuple elts k pos) (Tv K a b) [z,TI,TO,i1,i2] z (fun i h=>IsZip h z TI TO .none/\IsPair h TI (.ref i1) (.ref i2)/\(∃ u v,IsPair h TO u v)/\h.IsListIter i1 a i/\h.IsListIter i2 b i) where
 mem:=by simp
 obj:=fun i h st c hc=>by
  obtain⟨hz,hI,⟨u,v,hO⟩,⟨o1,JC,_,d1⟩,o2,ho2,_,d2⟩:=st;have hc' : c=z\/c=TI\/c=TO\/c=i1\/c=i2:=by simpa using hc
  rcases hc' with rfl|rfl|rfl|rfl|rfl
  ·exact⟨_,hz,fun v z=>by cases z⟩
  ·exact⟨_,hI,fun v z=>by cases z⟩
  ·exact⟨_,hO,fun v z=>by cases z⟩
  ·exact⟨o1,JC,fun v z=>by rw[d1]at z;cases z⟩
  ·exact⟨o2,ho2,fun v z=>by rw[d2]at z;cases z⟩
 keep:=fun i h h' st k=>by
  obtain⟨hz,hI,⟨u,v,hO⟩,h1,h2⟩:=st;exact⟨k z (by simp) _ hz,k TI (by simp) _ hI,⟨u,v,k TO (by simp) _ hO⟩,h1.at fun o e=>k i1 (by simp) o e,h2.at fun o e=>k i2 (by simp) o e⟩
 item:=by
  intro X hP hw hK hc i pq s σ H E I hf st hg;subst hP hw hK;obtain⟨xs,ys,x,y,hq,hq2,hx,hy⟩:=hg;obtain⟨its,rv,p,XY⟩:=I.list hq;obtain⟨its2,RN,p2,Tw⟩:=I.list hq2;obtain⟨u,hu,ru⟩:=rv.get hx;obtain⟨u2,XZ,X0⟩:=RN.get hy;obtain⟨hz,hI,⟨v1,v2,hO⟩,h1,h2⟩:=st;refine wpAny_pyNext_zip_item D hz hI hO h1 h2 p.isList p2.isList (x:=u) (y:=u2) (by simpa using hu) (by simpa using XZ) fun h3 X3 X4 X5 X6 hT hsz hk=>?_
  refine⟨_,rfl,wpAny_letOwnedTupleGo_zip X3 fun h4 X7 GS=>?_⟩
  have lt:∀{c o},s.heap.get? c=some o->s.heap.objs.size≠c:=fun e=>Nat.ne_of_gt (Heap.lt_size e)
  have RO:h4.get? s.heap.objs.size=some { cls:=.type "tuple",data:=.seq #[u,u2]}:=(GS.2 _ (lt hz)).trans hT;have kk:∀ c o,c∉[z,TO,i1,i2]->s.heap.get? c=some o->h4.get? c=some o:=fun c o hc q=>by
   have c1:c≠z:=fun e=>hc (by simp[e])
   exact(GS.2 c c1).trans (hk c o c1 (fun e=>hc (by simp[e])) (fun e=>hc (by simp[e])) (fun e=>hc (by simp[e])) q)
  have hsub:∀ c∈[z,TO,i1,i2],c∈[z,TI,TO,i1,i2]:=fun c hc=>by
   have hc' : c=z\/c=TO\/c=i1\/c=i2:=by simpa using hc
   rcases hc' with rfl|rfl|rfl|rfl<;>simp
  refine⟨.ref s.heap.objs.size,upd H s.heap.objs.size (.tup [x,y]),I.yields (wr:=[z,TO,i1,i2]) (t':=s.toks) kk (fun c hc=>hf c (hsub c hc)) (Nat.le_refl _) ?_,rfl,
   ⟨_,x,y,rfl,I.fresh,rfl,fun zs hy=>by rw[I.nY hy hq];exact hx,fun zs hz=>by rw[I.nY hz hq2];exact hy⟩,⟨X7,(GS.2 _ D.TIz).trans (hk _ _ D.TIz D.TITO D.TIi1 D.TIi2 hI),⟨u,u2,(GS.2 _ D.TOz).trans X4⟩,?_,?_⟩,fun c hc=>?_⟩
  ·exact⟨dl rfl,[u,u2],.cons ru (.cons X0 .nil),⟨_,RO,rfl,_,rfl⟩⟩
  ·exact X5.at fun o q=>(GS.2 _ D.i1z).trans q
  ·exact X6.at fun o q=>(GS.2 _ D.i2z).trans q
  ·rw[ao]
   ·exact(hf c hc).1
   ·have hc' : c=z\/c=TI\/c=TO\/c=i1\/c=i2:=by simpa using hc
    rcases hc' with rfl|rfl|rfl|rfl|rfl
    ·exact Ne.symm (lt hz)
    ·exact Ne.symm (lt hI)
    ·exact Ne.symm (lt hO)
    ·obtain⟨o,q,_⟩:=h1;exact Ne.symm (lt q)
    ·obtain⟨o,q,_⟩:=h2;exact Ne.symm (lt q)
 done:=by
  intro X hP hw hK hc i pq s σ H E I hf st hg;subst hP hw hK;obtain⟨xs,ys,hq,hq2,hx⟩:=hg;obtain⟨its,rv,p,XY⟩:=I.list hq;obtain⟨its2,RN,p2,Tw⟩:=I.list hq2;obtain⟨hz,hI,⟨v1,v2,hO⟩,h1,h2⟩:=st;have hl:=rv.length;have hl2:=RN.length;have hsub:∀ c∈[z,TO,i1,i2],c∈[z,TI,TO,i1,i2]:=fun c hc=>by
   have hc' : c=z\/c=TO\/c=i1\/c=i2:=by simpa using hc
   rcases hc' with rfl|rfl|rfl|rfl<;>simp
  refine wpAny_pyNext_zip_end (I.ok.hd hc) D hz hI hO h1 h2 p.isList p2.isList (hx.imp (fun q=>by simp;lia) fun q=>by simp;lia) fun h' kk=>⟨rfl,I.Kp (wr:=[z,TO,i1,i2]) (t':=s.toks) (fun c o hc q=>?_) fun c hc=>hf c (hsub c hc)⟩
  exact kk c o (fun e=>hc (by simp[e])) (fun e=>hc (by simp[e])) (fun e=>hc (by simp[e])) (fun e=>hc (by simp[e])) q
 self:=fun _ _ _ _ _ st h=>wpAny_pyIter_zip st.1 h
theorem Ef{n a b:Nat}(la:a<n)(lb:b<n):ZipApart (n+4) (n+2) (n+3) n (n+1) a b:=by
 have k:∀{x y:Nat},x<y\/y<x->x≠y:=fun h=>by lia
 constructor<;>exact k (by lia)
section
variable {X:Cx}{elts:List Expr}{n:Nat}{tp:Pos}
def P8(K:bX)(ta:TA):TI:=fun σ H R=>ta σ H fun vs H1=>∃ a,vs=[.ref a]/\(∃ xs,aK K H1 a xs)/\R (Ov K a) H1
def Tz(K:bX)(ta:TA):TI:=fun σ H R=>ta σ H fun vs H1=>∃ a b,vs=[.ref a,.ref b]/\(∃ xs,aK K H1 a xs)/\(∃ ys,aK K H1 b ys)/\R (Tv K a b) H1
theorem De(K:bX){a:Expr}{ta:TA}{p pos:Pos}(hg:Gl X "enumerate")(hm:X.mg "enumerate"=none)(ha:PA X [a] ta)(hs:starEach [a] X.env=[(false,eval a X.env)]:=by rfl)(hK:X.K=K:=by rfl):
 PI X (.Tuple elts n tp) (.Call (.Name "enumerate" p) [a] [] pos) (P8 K ta):=by
 subst hK;intro pq s σ H R I h;refine Call_ (lq I hg hm boot_enumerate (PyProof.Rows.callWith_type1 (cK (ha pos pq s σ H _ I h) fun us s1 ⟨vs,H1,I1,r1,q1⟩=>?_) hs rfl))
 obtain⟨a,e,⟨xs,hq⟩,q⟩:=q1;subst e;cases r1 with
 | cons r rr =>
   cases rr;cases r;obtain⟨its,rv,pl,hz⟩:=I1.list hq;refine call_enumerate_list pl.isList fun h' he hit hsz hk=>?_
   have I2:Inv X pq σ H1 { s1 with heap:=h'}:=I1.kept (t':=s1.toks) hk
   refine wpAny_pyIter_enum he ⟨_,[s1.heap.objs.size+1,s1.heap.objs.size],_,_,H1,rfl,I2,Ed a _ _ (Nat.succ_ne_self _),⟨⟨_,he⟩,hit⟩,fun b hb=>?_,q⟩
   have hb' : b=s1.heap.objs.size+1\/b=s1.heap.objs.size:=by simpa using hb
   have P9:s1.heap.objs.size<=b:=by
    rcases hb' with rfl|rfl
    ·exact Nat.le_succ _
    ·exact Nat.le_refl _
   exact I1.DZ P9 (I1.hok.fresh P9)
theorem M6(K:bX){a b:Expr}{ta:TA}{p pos:Pos}(hg:Gl X "zip")(hm:X.mg "zip"=none)(ha:PA X [a,b] ta)(hs:starEach [a,b] X.env=[(false,eval a X.env),(false,eval b X.env)]:=by rfl)(hs2:starEach [b] X.env=[(false,eval b X.env)]:=by rfl)(hK:X.K=K:=by rfl):
 PI X (.Tuple elts n tp) (.Call (.Name "zip" p) [a,b] [] pos) (Tz K ta):=by
 subst hK;intro pq s σ H R I h;refine Call_ (lq I hg hm boot_zip (PyProof.Rows.callWith_type1 (cK (ha pos pq s σ H _ I h) fun us s1 ⟨vs,H1,I1,r1,q1⟩=>?_) (by rw[hs,hs2]) (by rw[hs2];rfl)))
 obtain⟨a,b,e,⟨xs,hq⟩,⟨ys,hq2⟩,q⟩:=q1;subst e;cases r1 with
 | cons r rr =>
   cases rr with
   | cons r' rr =>
     cases rr;cases r;cases r';obtain⟨its,rv,pl,hz⟩:=I1.list hq;obtain⟨its2,RN,Vm,hz2⟩:=I1.list hq2;refine call_zip_2 pl.isList Vm.isList fun h' Vn hI hO h1 h2 hsz hk=>?_
     have I2:Inv X pq σ H1 { s1 with heap:=h'}:=I1.kept (t':=s1.toks) hk
     have la:a<s1.heap.objs.size:=by obtain⟨_,q,_⟩:=pl.isList;exact Heap.lt_size q
     have lb:b<s1.heap.objs.size:=by obtain⟨_,q,_⟩:=Vm.isList;exact Heap.lt_size q
     refine wpAny_pyIter_zip Vn ⟨_,[s1.heap.objs.size+4,s1.heap.objs.size+2,s1.heap.objs.size+3,s1.heap.objs.size,s1.heap.objs.size+1],_,_,H1,rfl,I2,
      GR a b _ _ _ _ _ (Ef la lb),⟨Vn,hI,⟨_,_,hO⟩,h1,h2⟩,fun c hc=>?_,q⟩
     have hc' : c=s1.heap.objs.size+4\/c=s1.heap.objs.size+2\/c=s1.heap.objs.size+3\/c=s1.heap.objs.size\/c=s1.heap.objs.size+1:=by simpa using hc
     have hcs:s1.heap.objs.size<=c:=by
      rcases hc' with rfl|rfl|rfl|rfl|rfl
      ·exact Nat.le_add_right _ _
      ·exact Nat.le_add_right _ _
      ·exact Nat.le_add_right _ _
      ·exact Nat.le_refl _
      ·exact Nat.le_add_right _ _
     exact I1.DZ hcs (I1.hok.fresh hcs)
end
section
variable {K:bX}{a b:Addr}{xs ys:List V}{g:TG}{tt:TT}{te:TE}{n:Nat}{fr:St}{D:Addr}{Q:Hp->Prop}{H1:Hp}
theorem GU{tb:TS}{D:Ends}{σ:St}{H:Hp}(Pv:Nat->St->Hp->Prop)(h0:Pv 0 σ H)(hl:∀ i σ H,i<=xs.length->Pv i σ H->aK K H a xs)
 (hs:∀ i x T σ H,xs[i]?=some x->Pv i σ H->H T=none->g (.ref T) σ (upd H T (.tup [.int (i:Int),x])) fun σ2 H2=>tb { D with nx:=Pv (i+1),ct:=Pv (i+1),bk:=D.nx} σ2 H2) (hd:∀ σ H,Pv xs.length σ H->D.nx σ H) :
 ∃ W:Nat->Nat->St->Hp->Prop,(∃ m,W 0 m σ H)/\∀ i m σ H,W i m σ H->
   ((Ov K a).stop i H/\D.nx σ H)\/((Ov K a).go i H/\∃ N:St->Hp->Prop,(∀ σ' H',N σ' H'->∃ m',m'<m/\W (i+1) m' σ' H')/\∀ x H',(Ov K a).Jz i H x H'->g x σ H' fun σ2 H2=>tb { D with nx:=N,ct:=N,bk:=D.nx} σ2 H2):=by
 refine⟨fun i m σ H=>m=xs.length-i/\i<=xs.length/\Pv i σ H,⟨xs.length,by simp,Nat.zero_le _,h0⟩,?_⟩
 rintro i m σ H ⟨rfl,hi,p⟩;have q:=hl i σ H hi p
 by_cases hlt:i<xs.length
 ·refine .inr ⟨⟨xs,xs[i],q,by simp[hlt]⟩,Pv (i+1),fun σ' H' p'=>⟨xs.length-(i+1),by lia,rfl,hlt,p'⟩,fun v H' y=>?_⟩
  obtain⟨T,x,rfl,hT,rfl,y⟩:=y;exact hs i x T σ _ (y xs q) p hT
 ·have e:i=xs.length:=by lia
  subst e;exact .inl ⟨⟨xs,q,Nat.le_refl _⟩,hd σ H p⟩
theorem GV(hxy:xs.length=ys.length)(Pv:Nat->List V->Hp->Prop)(h0:Pv 0 [] H1)(hl:∀ i acc H,i<=xs.length->Pv i acc H->aK K H a xs/\aK K H b ys/\H D=some (.lst acc)/\acc.length<=i)(hz:xs.length<=sizeLine)
 (hs:∀ i x y T acc H,xs[i]?=some x->ys[i]?=some y->Pv i acc H->H T=none->g (.ref T) (List.replicate n none++fr) (upd H T (.tup [x,y])) fun σ2 H2=>σ2.drop n=fr/\tt σ2 H2 fun b H3 =>
  if b=true then te σ2 H3 fun v H4=>H4 D=some (.lst acc)/\Pv (i+1) (acc++[v]) (upd H4 D (.lst (acc++[v]))) else Pv (i+1) acc H3)
 (hd:∀ acc H,Pv xs.length acc H->Q H):iW (Tv K a b) g tt te n fr D Q H1:=by
 refine⟨fun i m acc H=>m=xs.length-i/\i<=xs.length/\Pv i acc H,⟨xs.length,by simp,Nat.zero_le _,h0⟩,?_⟩
 rintro i m acc H ⟨rfl,hi,p⟩;obtain⟨q,q2,hD,ha⟩:=hl i acc H hi p;refine⟨hD,?_⟩
 by_cases hlt:i<xs.length
 ·have TF:i<ys.length:=by lia
  refine .inr ⟨⟨xs,ys,xs[i],ys[i],q,q2,by simp[hlt],by simp[TF]⟩,by lia,Pv (i+1),fun acc' H' p'=>⟨xs.length-(i+1),by lia,rfl,hlt,p'⟩,fun v H' y=>?_⟩
  obtain⟨T,x,z,rfl,hT,rfl,y1,y2⟩:=y;exact hs i x z T acc _ (y1 xs q) (y2 ys q2) p hT
 ·have e:i=xs.length:=by lia
  subst e;exact .inl ⟨⟨xs,ys,q,q2,.inl (Nat.le_refl _)⟩,hd acc H p⟩
end
section
variable {X:Cx}
theorem zh:e7 X (.type "range") (fun xs H Q=>∃ j:Int,xs=[.int j]/\∀ p,H p=none->Q (.ref p) (upd H p (.DV 0 j))):=by
 intro pq s σ H xs us Q I r h;obtain⟨j,rfl,q⟩:=h;obtain⟨u,rfl,t,rfl⟩:=vals1 r;refine call_range_1 ⟨.ref s.heap.objs.size,_,I.laid (t':=s.toks+1+1) (fun b o e=>Heap.get?_push_of_some _ e) (Nat.le_refl _) ?_,rfl,q _ I.fresh⟩
 exact⟨_,_,_,Heap.get?_push_size _ rfl⟩
def vy(n:Nat):List V:=(List.range n).map fun i=>V.int ((i:Nat):Int)
theorem LX(hc:X.calm=true):e7 X (.type "list") (fun xs H Q=>∃ p,∃ n:Nat,xs=[.ref p]/\H p=some (.DV 0 (n:Int))/\n<=900/\∀ l,H l=none->Q (.ref l) (upd H l (.lst (vy n)))):=by
 intro pq s σ H xs us Q I r h;obtain⟨p,n,rfl,hp,hn,q⟩:=h;obtain⟨u,rfl,rx⟩:=vals1 r;cases rx;obtain⟨t,u,v,e⟩:=(show bz X.prog X.w H s.heap p (.DV 0 (n:Int)) from I.hok p _ hp)
 have hsz:Builtin.Range.rangeSize 0 (n:Int) 1=(n:Int):=by rw[rangeSize_one];split<;>lia
 refine call_list_range (I.ok.hd hc) e (small_one (by lia) (by lia) (by lia) (by lia)) hsz (Nat.le_trans hn (by decide)) fun h' tk acc c kp e' hacc=>?_
 refine⟨.ref s.heap.objs.size,_,I.laid (t':=tk) kp (Nat.le_refl _) ?_,rfl,q _ I.fresh⟩;have hl:acc.toList.length=n:=by rw[Array.length_toList];exact hacc.1
 have hz:(vy n).length<=sizeLine:=by
  unfold vy;rw[List.length_map,List.length_range];exact Nat.le_of_lt (iO (by lia))
 refine⟨hz,acc.toList,c,?_,by simpa using e'⟩
 have key:∀(ys:List Value) (k:Nat),(∀ j v,ys[j]?=some v->∃ t,v=Value.int (((k+j:Nat)):Int) t)->Vals ((List.range' k ys.length).map fun i=>V.int ((i:Nat):Int)) ys:=by
  intro ys
  induction ys with
  | nil=>intro k _;exact .nil
  | cons y r ih =>
    intro k hy;obtain⟨t,ht⟩:=hy 0 y rfl;refine .cons ⟨t,by simpa using ht⟩ (ih (k+1) fun j v hv=>?_)
    obtain⟨t',ht'⟩:=hy (j+1) v (by simpa using hv)
    exact⟨t',by rw[ht'];congr 2;lia⟩
 have z:=key acc.toList 0 fun j v hv=>by
  obtain⟨t,ht⟩:=hacc.2 j v (by simpa using hv)
  exact⟨t,by rw[ht];congr 1;lia⟩
 rw[hl]at z;unfold vy;rw[List.range_eq_range'];exact z
theorem sumK(K:bX)(hc:X.calm=true)(hK:X.K=K:=by rfl):e7 X (.builtin "sum") (fun xs H Q=>∃(p:Addr) (ns:List Int),xs=[.ref p]/\aK K H p (ns.map V.int)/\Q (.int ns.sum) H):=by
 subst hK;intro pq s σ H xs us Q I r h;obtain⟨p,ns,rfl,hq,q⟩:=h;obtain⟨u,rfl,rx⟩:=vals1 r;cases rx;obtain⟨its,rv,pl,hz⟩:=I.list hq;have hi:∀{ns:List Int} {its:List Value},Vals (ns.map V.int) its->∃ xs:Array (Int×Tok),its.toArray=intItems xs/\xs.toList.map (·.1)=ns:=by
  intro ns
  induction ns with
  | nil=>intro its r;cases r;exact⟨#[],by simp[intItems],rfl⟩
  | cons a l ih =>
    intro its r;cases r with
    | cons r1 r2 =>
      obtain⟨t,rfl⟩:=r1;obtain⟨xs,h1,h2⟩:=ih r2;refine⟨#[(a,t)]++xs,?_,by simp[h2]⟩
      have GQ:=congrArg Array.toList h1;simp only[intItems,Array.toList_map,List.toList_toArray]at GQ;simp[intItems,GQ,Array.map_append]
 obtain⟨ar,e1,e2⟩:=hi rv;have hl:s.heap.IsList p (intItems ar):=e1▸pl.isList;refine sum_intListG (I.ok.hd hc) hl fun h' tk t' hk=>?_
 have e3:preSum (numAt ar) ar.size=ns.sum:=by rw[preSum_eq,List.take_of_length_le (by simp),e2]
 rw[e3];exact⟨.int ns.sum,H,I.kept hk,⟨t',rfl⟩,q⟩
end
theorem zj:∀{us:List Value} {ns:List Int},IntsAre us ns->Vals (ns.map V.int) us
 | _,_,.nil=>.nil
 | _,_,.cons n t r=>.cons ⟨t,rfl⟩ (zj r)
section
variable {X:Cx}
theorem sortedK(K:bX)(hK:X.K=K:=by rfl):e7 X (.builtin "sorted") (fun xs H Q=>∃(p:Addr) (ns:List Int),xs=[.ref p]/\aK K H p (ns.map V.int)/\ns.length<64/\
 ∀(l:Addr) (ns' : List Int),H l=none->ns'.Perm ns->ns'.Pairwise (·<=·)->Q (.ref l) (upd H l (.lst (ns'.map V.int)))):=by
 subst hK;intro pq s σ H xs us Q I r h;obtain⟨p,ns,rfl,hq,hn,q⟩:=h;obtain⟨u,rfl,rx⟩:=vals1 r;cases rx;obtain⟨its,rv,pl,hz⟩:=I.list hq;have hl:=rv.length;rw[List.length_map]at hl;refine PyProof.Rows.sorted_ints pl.isList (intsAre_of rv) (by lia) fun out ns' a1 a2 a3=>?_
 obtain⟨e,he⟩:=sortedAll_at s.heap its out;have hfr:H (s.heap.objs.size+1)=none:=I.hok.fresh (Nat.le_succ _);refine⟨.ref (s.heap.objs.size+1),_,I.laid (t':=s.toks) (fun _ _=>sortedAll_old) (Nat.le_succ _) ?_,rfl,q _ ns' hfr a2 a3⟩
 refine⟨?_,out.toList,e,zj a1,?_⟩
 ·rw[List.length_map,a2.length_eq];exact Nat.le_of_lt (iO (by lia))
 ·have:out.toList.toArray=out:=by simp
  rw[this];exact he
theorem TH(K:bX)(hc:X.calm=true)(hK:X.K=K:=by rfl):e7 X (.type "set") (fun xs H Q=>∃(p:Addr) (ns:List Int),xs=[.ref p]/\aK K H p (ns.map V.int)/\ns.length<=900/\
 ∀(l:Addr) (S:Int->Bool),H l=none->Q (.ref l) (upd H l (.set S (firstMet (fun i=>ns.getD i 0) ns.length).length))):=by
 subst hK;intro pq s σ H xs us Q I r h;obtain⟨p,ns,rfl,hq,hn,q⟩:=h;obtain⟨u,rfl,rx⟩:=vals1 r;cases rx;obtain⟨its,rv,pl,hz⟩:=I.list hq;have hl:=rv.length;rw[List.length_map]at hl;have hsz:its.toArray.size=ns.length:=by rw[List.size_toArray];lia
 refine PySem.call_set_list (I.ok.hd hc) pl.isList (ns:=ns) (by simpa using intsAre_of rv) (by rw[hsz];show ns.length+1<4096;lia) fun h' tk hS hk=>?_
 rw[hsz]at hS;exact⟨.ref s.heap.objs.size,_,I.laid (t':=tk) (o:=.set (fun k'=>(firstMet (fun i=>ns.getD i 0) ns.length).any fun x=>x==k') (firstMet (fun i=>ns.getD i 0) ns.length).length) (fun b o e=>hk b o (Heap.lt_size e) e) (Nat.le_refl _) hS,rfl,q _ _ I.fresh⟩
theorem M7:e7 X (.builtin "len") (fun xs H Q=>∃(p:Addr) (S:Int->Bool) (n:Nat),xs=[.ref p]/\H p=some (.set S n)/\Q (.int (n:Int)) H):=by
 intro pq s σ H xs us Q I r h;obtain⟨p,S,n,rfl,hp,q⟩:=h;obtain⟨u,rfl,rx⟩:=vals1 r;cases rx;obtain⟨o,es,ep,t,ho,hex,hd,_,_,hb,hf,rfl⟩:=(show bz X.prog X.w H s.heap p (.set S n) from I.hok p _ hp)
 refine call_len_set ho hex hd hf (by have:es.size<4096:=hb;lia) ⟨.int _,H,I.tok _,⟨_,rfl⟩,q⟩
end
end L2
namespace HT
open PySem PyProof.Rows
end HT
namespace L2
open PySem PySem.Spec PyProof.Rows
end L2
namespace Ring
open PySem
abbrev c9:=Int×Int×Int
def bit(S:Int)(k:Nat):Bool:=decide (S/2^k%2=1)
def bx(S:Int):List Nat:=(List.range (Builtin.Int.intBits S)).filter (bit S)
def bump(e:List Int)(i:Int):List Int:=e.set i.toNat (e.getD i.toNat 0+1)
def step(ts:List c9)(e:List Int)(k:Nat):List Int:=match ts[k]? with
 | some t=>bump (bump e t.1) t.2.1
 | none=>e
def jz(p:Nat)(ts:List c9)(S:Int):List Int:=(bx S).foldl (step ts) (List.replicate p 0)
def tN(p:Nat)(ts:List c9)(S:Int):List Nat:=(List.range p).filter fun i=>decide ((jz p ts S).getD i 0%2=1)
def JD(ts:List c9)(k i:Nat):Int:=match ts[k]? with
 | some t=>(if t.1=(i:Int) then 1 else 0)+(if t.2.1=(i:Int) then 1 else 0)
 | none=>0
theorem jL(e:List Int)(i:Int):(bump e i).length=e.length:=by unfold bump;rw[List.length_set]
theorem GW(ts:List c9)(e:List Int)(k:Nat):(step ts e k).length=e.length:=by
 unfold step
 split
 ·rw[jL,jL]
 ·rfl
theorem zk(e:List Int)(j:Int)(i:Nat)(h0:0<=j)(h1:j<e.length):(bump e j).getD i 0=e.getD i 0+if j=(i:Int) then 1 else 0:=by
 unfold bump;rw[List.getD_eq_getElem?_getD,List.getD_eq_getElem?_getD,List.getD_eq_getElem?_getD]
 by_cases h:j=(i:Int)
 ·have hi:j.toNat=i:=by lia
  rw[if_pos h,hi,List.getElem?_set_self (by lia)]
  rfl
 ·have hi:j.toNat≠i:=by lia
  rw[if_neg h,List.getElem?_set_ne hi]
  lia
structure Df(p:Nat)(ts:List c9):Prop where
 ends:∀ t∈ts,0<=t.1/\t.1<(p:Int)/\0<=t.2.1/\t.2.1<(p:Int)
theorem step_get{p:Nat}{ts:List c9}(W:Df p ts)(e:List Int)(k i:Nat)(he:e.length=p):(step ts e k).getD i 0=e.getD i 0+JD ts k i:=by
 unfold step JD;cases h:ts[k]? with
 | none=>simp
 | some t =>
   obtain⟨a0,a1,b0,b1⟩:=W.ends t (gy h);dsimp only;rw[zk _ _ _ b0 (by rw[jL,he];exact b1),zk _ _ _ a0 (by rw[he];exact a1)]
   lia
def pY(ts:List c9)(ks:List Nat)(i:Nat):Int:=(ks.map fun k=>JD ts k i).sum
theorem zl{p:Nat}{ts:List c9}(W:Df p ts)(i:Nat):∀(ks:List Nat) (e:List Int),e.length=p->(ks.foldl (step ts) e).getD i 0=e.getD i 0+pY ts ks i
 | [],e,_=>by simp[pY]
 | k::r,e,he=>by
   rw[List.foldl_cons,zl W i r _ (by rw[GW,he]),step_get W e k i he]
   unfold pY;rw[List.map_cons,List.sum_cons]
   lia
theorem GX{p:Nat}{ts:List c9}(W:Df p ts)(S:Int)(i:Nat):(jz p ts S).getD i 0=pY ts (bx S) i:=by
 unfold jz;rw[zl W i _ _ (by simp)]
 have e:(List.replicate p (0:Int)).getD i 0=0:=by
  rw[List.getD_eq_getElem?_getD,List.getElem?_replicate]
  split<;>rfl
 rw[e]
 lia
theorem fk(m k:Nat):bit (m:Int) k=m.testBit k:=by
 unfold bit;rw[Nat.testBit_eq_decide_div_mod_eq];have e:((m:Int)/2^k%2=1)↔(m/2^k%2=1):=by
  have h2:((2:Int)^k)=((2^k:Nat):Int):=by simp
  rw[h2,<-Int.natCast_ediv]
  lia
 simp only[e]
theorem tO(m:Nat):Builtin.Int.intBits (m:Int)=if m=0 then 0 else m.log2+1:=by
 unfold Builtin.Int.intBits
 by_cases h:m=0
 ·simp[h]
 ·simp[h]
theorem bits_le{m n:Nat}(h:m<2^n):Builtin.Int.intBits (m:Int)<=n:=by
 rw[tO]
 split
 ·exact Nat.zero_le _
 ·rename_i h0
  exact(Nat.log2_lt h0).mpr h
theorem zm{m k:Nat}(h:Builtin.Int.intBits (m:Int)<=k):bit (m:Int) k=false:=by
 rw[fk];rw[tO]at h
 by_cases h0:m=0
 ·simp[h0]
 ·rw[if_neg h0]at h;exact Nat.testBit_lt_two_pow (Nat.lt_of_lt_of_le Nat.lt_log2_self (Nat.pow_le_pow_right (by decide) h))
theorem oq(f:Nat->Bool)(a:Nat):∀ d,(∀ k,a<=k->f k=false)->(List.range (a+d)).filter f=(List.range a).filter f
 | 0,_=>rfl
 | d+1,h=>by
   rw[<-Nat.add_assoc,List.range_succ,List.filter_append,oq f a d h];have e:[a+d].filter f=[]:=by rw[List.filter_cons,if_neg (by rw[h _ (by lia)];simp)];rfl
   rw[e,List.append_nil]
theorem fX{m n:Nat}(h:m<2^n):bx (m:Int)=(List.range n).filter fun k=>m.testBit k:=by
 unfold bx;have hb:=bits_le h;obtain⟨d,hd⟩:=Nat.exists_eq_add_of_le hb;have e:(fun k=>m.testBit k)=bit (m:Int):=funext fun k=>(fk m k).symm
 rw[e]
 conv=>rhs;rw[hd]
 exact(oq _ _ d fun k hk=>zm hk).symm
theorem sI{m n:Nat}(h:m<2^n){k:Nat}(hk:k∈bx (m:Int)):k<n:=by
 rw[fX h]at hk;exact List.mem_range.mp (List.mem_filter.mp hk).1
theorem sum_filter(ts:List c9)(i:Nat)(f:Nat->Bool):∀ ks:List Nat,pY ts (ks.filter f) i=(ks.map fun k=>if f k=true then JD ts k i else 0).sum
 | []=>rfl
 | k::r=>by
   have ih:=sum_filter ts i f r;rw[List.map_cons,List.sum_cons,<-ih];cases h:f k with
   | true =>
     rw[List.filter_cons,if_pos h];unfold pY;rw[List.map_cons,List.sum_cons];simp
   | false =>
     rw[List.filter_cons,if_neg (by rw[h];simp)]
     simp
theorem GY{a b x y:Nat}(q:x/2+2*(y/2)=a/2+b/2)(h:x%2+2*(y%2)=a%2+b%2):x+2*y=a+b:=by lia
theorem mod_one{u v:Nat}(hu:u=0\/u=1)(hv:v=0\/v=1):(u^^^v)+2*(u&&&v)=u+v:=by
 rcases hu with rfl|rfl<;>rcases hv with rfl|rfl<;>rfl
theorem Ks:∀ a b:Nat,(a^^^b)+2*(a&&&b)=a+b:=by
 intro a
 induction a using Nat.strongRecOn with
 | ind a ih =>
   intro b
   by_cases h:a=0
   ·subst h;simp
   ·have q:=ih (a/2) (by lia) (b/2)
    rw[<-Nat.xor_div_two,<-Nat.and_div_two]at q;refine GY q ?_;have e1:(a^^^b)%2=a%2^^^b%2:=Nat.xor_mod_two_pow (n:=1);have e2:(a&&&b)%2=a%2&&&b%2:=Nat.and_mod_two_pow (n:=1);rw[e1,e2];exact mod_one (Nat.mod_two_eq_zero_or_one a) (Nat.mod_two_eq_zero_or_one b)
theorem xor_int(a b:Nat):Builtin.bitXor (a:Int) (b:Int)=((a^^^b:Nat):Int):=by
 have h:(a:Int)+b-2*((a&&&b:Nat):Int)=((a^^^b:Nat):Int):=by
  have q:=Ks a b
  lia
 have e:=PyProof.Rows.bitXor_and (a:Int) (b:Int);rw[e,PyProof.Rows.bitAnd_pp (by lia) (by lia)]
 simpa using h
open PySem L2
def Eg(t:c9):List V:=[.int t.1,.int t.2.1,.int t.2.2]
def TupAt(H:Hp)(x:V)(t:c9):Prop:=∃ b,x = .ref b/\H b=some (.tup (Eg t))
structure bq(H:Hp)(w:Addr)(p:Nat)(ts:List c9):Prop where
 ex:∃ b xs,H w=some (.tup [.int (p:Int),.ref b])/\H b=some (.tup xs)/\Paired (TupAt H) xs ts
structure Ku(p:Nat)(ts:List c9):Prop where
 Vo:Df p ts
 len:ts.length<=24
 Vp:p<=10
theorem TupAt.tups{H H' : Hp}(s:dz H H'){x:V}{t:c9}(h:TupAt H x t):TupAt H' x t:=by
 obtain⟨b,e,h⟩:=h;exact⟨b,e,s _ _ h⟩
theorem bq.tups{H H' : Hp}{w:Addr}{p:Nat}{ts:List c9}(s:dz H H')(h:bq H w p ts):bq H' w p ts:=by
 obtain⟨b,xs,h1,h2,h3⟩:=h.ex;exact⟨b,xs,s _ _ h1,s _ _ h2,Paired.imp' (fun _ _ z=>z.tups s) h3⟩
theorem bq.same{H H' : Hp}{w:Addr}{p:Nat}{ts:List c9}(s:au H H')(h:bq H w p ts):bq H' w p ts:=h.tups s.tups
def az(l:List Nat):List V:=l.map fun k=>V.int ((k:Nat):Int)
theorem dX(l:List Nat)(k:Nat):az (l++[k])=az l++[.int (k:Int)]:=by unfold az;rw[List.map_append];rfl
theorem aF(l:List Nat):(az l).length=l.length:=by unfold az;rw[List.length_map]
theorem fK{l:List Nat}{i:Nat}{x:V}(h:(az l)[i]?=some x):∃ k,l[i]?=some k/\x = .int (k:Int):=by
 unfold az at h;rw[List.getElem?_map]at h;obtain⟨k,e,q⟩:=vn.mp h;exact⟨k,e,q.symm⟩
theorem bA(f:Nat->Bool)(i:Nat):(List.range (i+1)).filter f=(List.range i).filter f++(if f i=true then[i] else[]):=by
 rw[List.range_succ,List.filter_append]
 congr 1
 cases h:f i with
 | true=>rw[List.filter_cons,if_pos h,if_pos rfl];rfl
 | false=>rw[List.filter_cons,if_neg (by rw[h];simp),if_neg (by simp)];rfl
def mU(f:Nat->Bool)(H:Hp)(D:Addr)(i:Nat)(acc:List V)(H2:Hp):Prop:=au H H2/\H2 D=some (.lst acc)/\acc=az ((List.range i).filter f)
section
variable {f:Nat->Bool}{H H2 H3:Hp}{D:Addr}{i:Nat}{acc:List V}
theorem mU.start(hD:H D=none):mU f H D 0 [] (upd H D (.lst [])):=⟨au.new hD,ae,rfl⟩
theorem mU.len(p:mU f H D i acc H2):H2 D=some (.lst acc)/\acc.length<=i:=by
 refine⟨p.2.1,?_⟩;rw[p.2.2,aF];exact Nat.le_trans (List.length_filter_le _ _) (by rw[List.length_range];exact Nat.le_refl _)
theorem mU.yes(p:mU f H D i acc H2)(hD:H D=none)(s:au H2 H3)(hf:f i=true):H3 D=some (.lst acc)/\mU f H D (i+1) (acc++[.int (i:Int)]) (upd H3 D (.lst (acc++[.int (i:Int)]))):=by
 refine⟨s _ _ p.2.1,(p.1.trans s).put hD,ae,?_⟩;rw[bA,if_pos hf,dX,<-p.2.2]
theorem mU.no(p:mU f H D i acc H2)(s:au H2 H3)(hf:f i=false):mU f H D (i+1) acc H3:=by
 refine⟨p.1.trans s,s _ _ p.2.1,?_⟩;rw[bA,if_neg (by rw[hf];simp),List.append_nil]
 exact p.2.2
end
def aU(ts:List c9)(k:Nat):c9:=ts.getD k (0,0,0)
def stepT(e:List Int)(t:c9):List Int:=bump (bump e t.1) t.2.1
theorem wB{ts:List c9}:∀(ks:List Nat) (e:List Int),(∀ k∈ks,k<ts.length)->(ks.map (aU ts)).foldl stepT e=ks.foldl (step ts) e
 | [],_,_=>rfl
 | k::r,e,h=>by
   rw[List.map_cons,List.foldl_cons,List.foldl_cons,wB r _ fun j hj=>h j (jY _ hj)]
   have hk:=h k List.mem_cons_self;have e1:ts[k]?=some (aU ts k):=by
    unfold aU;rw[List.getD_eq_getElem?_getD];simp[hk]
   have e2:step ts e k=stepT e (aU ts k):=by
    unfold step stepT;rw[e1]
   rw[e2]
theorem wC{p:Nat}{ts:List c9}{m:Nat}(h:m<2^ts.length):jz p ts (m:Int)=((bx (m:Int)).map (aU ts)).foldl stepT (List.replicate p 0):=by
 unfold jz;rw[wB _ _ fun k hk=>sI h hk]
theorem Eh(e:List Int)(t:c9):(stepT e t).length=e.length:=by unfold stepT;rw[jL,jL]
theorem pZ:∀(l:List c9) (e:List Int),(l.foldl stepT e).length=e.length
 | [],_=>rfl
 | t::r,e=>by rw[List.foldl_cons,pZ r,Eh]
def lB(l:List Int):List V:=l.map V.int
theorem p5{l:List Int}{i:Nat}(h:i<l.length):(lB l)[i]?=some (.int (l.getD i 0)):=by
 unfold lB;rw[List.getElem?_map,List.getD_eq_getElem?_getD];simp[h]
theorem tP(l:List Int)(i:Nat):(lB l).set i (.int (l.getD i 0+1))=lB (bump l (i:Int)):=by
 unfold lB bump;rw[Int.toNat_natCast,List.map_set]
theorem GZ(p:Nat):(List.replicate p [V.int 0]).flatten=lB (List.replicate p 0):=by
 induction p with
 | zero=>rfl
 | succ p ih=>rw[List.replicate_succ,List.flatten_cons,ih,List.replicate_succ];rfl
theorem l9{n j:Nat}(h:j<n):Kc n (j:Int)=some j:=by
 unfold Kc;rw[if_pos (by lia),if_pos (by lia),Int.toNat_natCast]
def xW(k:Nat):PyData:=.int (k:Int)
theorem zo{K:bX}{H:Hp}:∀ l:List Nat,DatVs K H (az l) (l.map xW)
 | []=>.nil
 | _::r=>.cons (.int _) (zo r)
theorem zp:∀ l:List Nat,PyData.canLayAll0 (l.map xW)=true
 | []=>rfl
 | _::r=>by
   have ih:=zp r;simp only[List.map_cons,PyData.canLayAll0,ih,Bool.and_true];rfl
theorem wF:∀ l:List Nat,PyData.depthAll (l.map xW)=0
 | []=>rfl
 | _::r=>by
   have ih:=wF r;show max (PyData.depth (PyData.int _)) (PyData.depthAll (r.map _))=0;rw[ih];rfl
theorem zq(l:List Nat):SeqAt.shaped (.list (l.map xW))=true:=by
 unfold SeqAt.shaped;have e:(PyData.list (l.map xW)).canLay0=PyData.canLayAll0 (l.map xW):=by simp[PyData.canLay0]
 rw[e,zp,Bool.true_and];refine cD ?_;have e2:PyData.depth (PyData.list (l.map xW))=PyData.depthAll (l.map xW)+1:=by simp[PyData.depth]
 rw[e2,wF]
 decide
theorem Kv(l:List Nat):PyData.eqv (.list (l.map xW)) (.list [])=decide (l=[]):=by
 cases l with
 | nil=>rfl
 | cons a r=>rfl
theorem M8(S:Int)(k:Nat):decide (V.int (Builtin.bitAnd (S/2^k) 1)=V.int 1)=bit S k:=by
 unfold bit;rw[PyProof.Rows.bitAnd_m1];rw[Bool.eq_iff_iff];simp
theorem xX(S:Int)(k:Nat):decide (V.int (S/2^k%2)=V.int 1)=bit S k:=by
 unfold bit;rw[Bool.eq_iff_iff];simp
theorem Kw(x:Int):decide (V.int x=V.int 1)=decide (x=1):=by
 rw[Bool.eq_iff_iff];simp
structure mh(p:Int)(t:c9):Prop where
 a0:0<=t.1
 a1:t.1<p
 b0:0<=t.2.1
 b1:t.2.1<p
 ne:t.1≠t.2.1
 l0:1<=t.2.2
 l1:t.2.2<=1000000000000000000000000000000
structure aA(p:Nat)(ts:List c9):Prop where
 p1:1<=p
 p2:p<=10
 len:ts.length<=24
 vz:∀ t∈ts,mh (p:Int) t
theorem aA.G0{p:Nat}{ts:List c9}(g:aA p ts):Ku p ts:=⟨⟨fun t ht=>let z:=g.vz t ht;⟨z.a0,z.a1,z.b0,z.b1⟩⟩,g.len,g.p2⟩
def rX(p:Int)(H:Hp)(D:Addr)(n:Nat)(H2:Hp):Prop:=au H H2/\∃ acc ts,H2 D=some (.lst acc)/\Paired (TupAt H2) acc ts/\acc.length=n/\∀ t∈ts,mh p t
section
variable {p:Int}{H H2 H3:Hp}{D b:Addr}{n:Nat}{t:c9}
theorem rX.start(hD:H D=none):rX p H D 0 (upd H D (.lst [])):=⟨au.new hD,[],[],ae,.nil,rfl,fun t ht=>nomatch ht⟩
theorem rX.push(h:rX p H D n H2)(hD:H D=none)(s:au H2 H3)(g:mh p t)(hb:H3 b=some (.tup (Eg t))):
 ∃ acc,H3 D=some (.lst acc)/\acc.length=n/\rX p H D (n+1) (upd H3 D (.lst (acc++[.ref b]))):=by
 obtain⟨s2,acc,ts,hd,pr,hn,gt⟩:=h;have LY:H3 D=some (.lst acc):=s _ _ hd;refine⟨acc,LY,hn,(s2.trans s).put hD,acc++[.ref b],ts++[t],ae,?_,by rw[List.length_append,List.length_singleton,hn],fun u hu=>?_⟩
 ·exact Paired.snoc (Paired.imp' (fun _ _ z=>z.tups (s.tups.trans (dz.put LY))) pr) ⟨b,rfl,dz.put LY _ _ hb⟩
 ·rcases List.mem_append.mp hu with hu|hu
  ·exact gt u hu
  ·cases List.mem_singleton.mp hu;exact g
theorem rX.fin{q:Nat}(h:rX (q:Int) H D n H2):∃ acc ts,H2 D=some (.lst acc)/\ts.length=n/\(∀ t∈ts,mh (q:Int) t)/\∀ l,H2 l=none->∀ w,upd H2 l (.tup acc) w=none->
 au H (upd (upd H2 l (.tup acc)) w (.tup [.int (q:Int),.ref l]))/\bq (upd (upd H2 l (.tup acc)) w (.tup [.int (q:Int),.ref l])) w q ts:=by
 obtain⟨s2,acc,ts,hd,pr,hn,gt⟩:=h;refine⟨acc,ts,hd,by rw[<-pr.length,hn],gt,fun l hl w hw=>?_⟩
 have n1:au H2 (upd H2 l (.tup acc)):=au.new hl;have n2:=n1.trans (au.new (o:=.tup [.int (q:Int),.ref l]) hw);refine⟨s2.trans n2,l,acc,ae,?_,Paired.imp' (fun _ _ z=>z.tups n2.tups) pr⟩
 rw[ao (aW ae hw),ae]
end
theorem G3{p o r:Int}(h:0<=o)(h1:o<p)(r0:0<=r)(r1:r<p-1):0<=(o+1+r)%p/\(o+1+r)%p<p/\o≠(o+1+r)%p:=by
 have hp:0<p:=by lia
 refine⟨Int.emod_nonneg _ (by lia),Int.emod_lt_of_pos _ hp,?_⟩
 by_cases hlt:o+1+r<p
 ·rw[Int.emod_eq_of_lt (by lia) hlt]
  lia
 ·have e:(o+1+r)%p=o+1+r-p:=by
   rw[<-Int.sub_emod_right,Int.emod_eq_of_lt (by lia) (by lia)]
  rw[e]
  lia
theorem dQ{n:Nat}(h:n<=24):n<=sizeLine:=Nat.le_of_lt (iO (by lia))
theorem dY{n:Nat}(h:n<=900):n<sizeLine:=iO (by lia)
theorem Kx{ns:List Int}{k:Nat}(h:k<ns.length):(ns.map V.int)[k]?=some (.int (ns.getD k 0)):=by
 rw[List.getElem?_map,List.getD_eq_getElem?_getD];simp[h]
theorem kY(x m:Int)(h:0<m):0<=x%m/\x%m<m:=⟨Int.emod_nonneg _ (by lia),Int.emod_lt_of_pos _ h⟩
end Ring
namespace RM
def bg(f:Nat->Bool):Nat->Bool
 | 0=>false
 | n+1=>bg f n^^f n
theorem aZ{f g:Nat->Bool}:∀{n:Nat},(∀ k,k<n->f k=g k)->bg f n=bg g n
 | 0,_=>rfl
 | n+1,h=>by
   unfold bg;rw[aZ fun k hk=>h k (by lia),h n (by lia)]
theorem iX(f g:Nat->Bool):∀ n,bg (fun k=>f k^^g k) n=(bg f n^^bg g n)
 | 0=>rfl
 | n+1=>by
   unfold bg;rw[iX f g n];cases bg f n<;>cases bg g n<;>cases f n<;>cases g n<;>rfl
theorem j8:∀ n,bg (fun _=>false) n=false
 | 0=>rfl
 | n+1=>by unfold bg;rw[j8 n];rfl
theorem ou(c:Bool)(f:Nat->Bool):∀ n,bg (fun k=>c&&f k) n=(c&&bg f n)
 | 0=>by cases c<;>rfl
 | n+1=>by
   unfold bg;rw[ou c f n];cases c<;>simp
theorem wG(f:Nat->Nat->Bool)(n:Nat):∀ m,bg (fun x=>bg (fun k=>f x k) n) m=bg (fun k=>bg (fun x=>f x k) m) n
 | 0=>by
   show false=_;rw[<-j8 n];rfl
 | m+1=>by
   show(bg (fun x=>bg (fun k=>f x k) n) m^^bg (fun k=>f m k) n)=_
   rw[wG f n m,<-iX];rfl
theorem iP{f:Nat->Bool}{n:Nat}(h:∀ k,k<n->f k=false):bg f n=false:=by
 rw[aZ (g:=fun _=>false) h,j8]
theorem lC{f:Nat->Bool}{a:Nat}:∀{n:Nat},a<n->(∀ k,k<n->k≠a->f k=false)->bg f n=f a
 | 0,h,_=>absurd h (Nat.not_lt_zero _)
 | n+1,h,z=>by
   unfold bg
   by_cases e:a=n
   ·subst e;rw[iP fun k hk=>z k (by lia) (by lia)]
    simp
   ·rw[lC (a:=a) (by lia) fun k hk hn=>z k (by lia) hn,z n (by lia) (fun q=>e q.symm)]
    simp
theorem gF(C:Nat->Bool){a m:Nat}(h:a<m):bg (fun x=>C x&&decide (a=x)) m=C a:=by
 rw[lC h fun k _ hk=>by simp[Ne.symm hk]]
 simp
structure Net where
 p:Nat
 n:Nat
 a:Nat->Nat
 b:Nat->Nat
 al:∀ k,k<n->a k<p
 bl:∀ k,k<n->b k<p
 ne:∀ k,k<n->a k≠b k
variable (N:Net)
def Net.inc(k x:Nat):Bool:=decide (N.a k=x)^^decide (N.b k=x)
def Net.bd(m x:Nat):Bool:=bg (fun k=>m.testBit k&&N.inc k x) N.n
def Net.cL(m:Nat):Prop:=∀ x,x<N.p->N.bd m x=false
variable {N}
theorem eX(m q x:Nat):N.bd (m^^^q) x=(N.bd m x^^N.bd q x):=by
 unfold Net.bd;rw[<-iX];refine aZ fun k _=>?_
 rw[Nat.testBit_xor];cases m.testBit k<;>cases q.testBit k<;>cases N.inc k x<;>rfl
theorem j9(x:Nat):N.bd 0 x=false:=by
 unfold Net.bd;exact iP fun k _=>by simp
theorem iY{k:Nat}(h:k<N.n)(x:Nat):N.bd (2^k) x=N.inc k x:=by
 unfold Net.bd;rw[lC h fun j _ hj=>by simp[Nat.testBit_two_pow,Ne.symm hj]]
 simp[Nat.testBit_two_pow]
theorem cL.xor{m q:Nat}(h:N.cL m)(h' : N.cL q):N.cL (m^^^q):=fun x hx=>by rw[eX,h x hx,h' x hx];rfl
theorem cL.zero:N.cL 0:=fun x _=>j9 x
theorem zu{m:Nat}(C:Nat->Bool)(h:∀ k,k<N.n->m.testBit k=true->C (N.a k)=C (N.b k)):bg (fun x=>C x&&N.bd m x) N.p=false:=by
 have e:bg (fun x=>C x&&N.bd m x) N.p=bg (fun x=>bg (fun k=>C x&&(m.testBit k&&N.inc k x)) N.n) N.p :=
  aZ fun x _=>(ou (C x) _ N.n).symm
 rw[e,wG];refine iP fun k hk=>?_
 have e2:bg (fun x=>C x&&(m.testBit k&&N.inc k x)) N.p=(m.testBit k&&(C (N.a k)^^C (N.b k))):=by
  rw[<-gF C (N.al k hk),<-gF C (N.bl k hk),<-iX,<-ou];refine aZ fun x _=>?_
  unfold Net.inc;cases C x<;>cases m.testBit k<;>cases decide (N.a k=x)<;>cases decide (N.b k=x)<;>rfl
 rw[e2];cases hb:m.testBit k with
 | false=>rfl
 | true=>rw[h k hk hb];simp
def join(L:Nat->Nat)(u v:Nat):Nat->Nat:=fun x=>if L x=max (L u) (L v) then min (L u) (L v) else L x
theorem join_eq{L:Nat->Nat}{u v x y:Nat}(h:L x=L y):join L u v x=join L u v y:=by unfold join;rw[h]
theorem wH(L:Nat->Nat)(u v:Nat):join L u v u=join L u v v:=by
 unfold join
 split<;>split<;>lia
theorem wI{L:Nat->Nat}{u v:Nat}(h:L u=L v):join L u v=L:=by
 funext x
 unfold join;rw[h]
 split<;>lia
theorem tQ{L:Nat->Nat}{u v x y:Nat}(h:join L u v x=join L u v y):L x=L y\/(L x=L u/\L y=L v)\/(L x=L v/\L y=L u):=by
 unfold join at h;have mm:(max (L u) (L v)=L u/\min (L u) (L v)=L v)\/(max (L u) (L v)=L v/\min (L u) (L v)=L u):=by
  rcases Nat.le_total (L u) (L v) with q|q
  ·exact .inr ⟨Nat.max_eq_right q,Nat.min_eq_left q⟩
  ·exact .inl ⟨Nat.max_eq_left q,Nat.min_eq_right q⟩
 rcases mm with⟨e1,e2⟩|⟨e1,e2⟩
 ·rw[e1,e2]at h
  split at h
  ·rename_i hx
   split at h
   ·rename_i hy
    exact .inl (hx.trans hy.symm)
   ·exact .inr (.inl ⟨hx,h.symm⟩)
  ·split at h
   ·rename_i hy
    exact .inr (.inr ⟨h,hy⟩)
   ·exact .inl h
 ·rw[e1,e2]at h
  split at h
  ·rename_i hx
   split at h
   ·rename_i hy
    exact .inl (hx.trans hy.symm)
   ·exact .inr (.inr ⟨hx,h.symm⟩)
  ·split at h
   ·rename_i hy
    exact .inr (.inl ⟨h,hy⟩)
   ·exact .inl h
theorem join_le{L:Nat->Nat}{u v x:Nat}(h:L x<=x):join L u v x<=x:=by
 unfold join
 split<;>lia
theorem Ei{L:Nat->Nat}{u v:Nat}(h:∀ x,L (L x)=L x)(x:Nat):join L u v (join L u v x)=join L u v x:=by
 have hu:=h u;have hv:=h v;have hx:=h x;have hlo:L (min (L u) (L v))=min (L u) (L v):=by
  rcases Nat.le_total (L u) (L v) with q|q
  ·rw[Nat.min_eq_left q];exact hu
  ·rw[Nat.min_eq_right q];exact hv
 unfold join
 split
 ·rw[hlo]
  split<;>lia
 ·rw[hx]
  split<;>lia
def Net.aJ(N:Net)(S:Nat->Bool):Nat->Nat->Nat
 | 0=>fun x=>x
 | k+1=>if S k=true then join (Net.aJ N S k) (N.a k) (N.b k) else Net.aJ N S k
variable {S:Nat->Bool}
theorem oz:∀(k x:Nat),N.aJ S k x<=x
 | 0,_=>Nat.le_refl _
 | k+1,x=>by
   unfold Net.aJ
   split
   ·exact join_le (oz k x)
   ·exact oz k x
theorem bY:∀(k x:Nat),N.aJ S k (N.aJ S k x)=N.aJ S k x
 | 0,_=>rfl
 | k+1,x=>by
   by_cases hs:S k=true
   ·have e:N.aJ S (k+1)=join (N.aJ S k) (N.a k) (N.b k):=by
     conv=>lhs;unfold Net.aJ
     rw[if_pos hs]
    rw[e];exact Ei (bY k) x
   ·have e:N.aJ S (k+1)=N.aJ S k:=by
     conv=>lhs;unfold Net.aJ
     rw[if_neg hs]
    rw[e];exact bY k x
theorem wJ{x y k:Nat}(h:N.aJ S k x=N.aJ S k y):∀ d,N.aJ S (k+d) x=N.aJ S (k+d) y
 | 0=>h
 | d+1=>by
   have ih:=wJ h d;show N.aJ S (k+d+1) x=N.aJ S (k+d+1) y;unfold Net.aJ
   split
   ·exact join_eq ih
   ·exact ih
theorem fY{j k:Nat}(h:j<k)(hs:S j=true):N.aJ S k (N.a j)=N.aJ S k (N.b j):=by
 obtain⟨d,rfl⟩:=Nat.exists_eq_add_of_le (Nat.succ_le_of_lt h);refine wJ ?_ d;show N.aJ S (j+1) (N.a j)=N.aJ S (j+1) (N.b j);unfold Net.aJ;rw[if_pos hs];exact wH _ _ _
inductive Net.fG(N:Net)(S:Nat->Bool)(k u:Nat):Nat->Prop
 | refl:Net.fG N S k u u
 | fwd {j:Nat} (h:Net.fG N S k u (N.a j)) (hj:j<k) (hs:S j=true):Net.fG N S k u (N.b j)
 | bwd {j:Nat} (h:Net.fG N S k u (N.b j)) (hj:j<k) (hs:S j=true):Net.fG N S k u (N.a j)
theorem Net.fG.trans{k u v w:Nat}(h:N.fG S k u v)(h' : N.fG S k v w):N.fG S k u w:=by
 induction h' with
 | refl=>exact h
 | fwd _ hj hs ih=>exact .fwd ih hj hs
 | bwd _ hj hs ih=>exact .bwd ih hj hs
theorem Net.fG.symm{k u v:Nat}(h:N.fG S k u v):N.fG S k v u:=by
 induction h with
 | refl=>exact .refl
 | fwd _ hj hs ih=>exact Net.fG.trans (.bwd .refl hj hs) ih
 | bwd _ hj hs ih=>exact Net.fG.trans (.fwd .refl hj hs) ih
theorem Net.fG.mono{k l u v:Nat}(h:N.fG S k u v)(jK:k<=l):N.fG S l u v:=by
 induction h with
 | refl=>exact .refl
 | fwd _ hj hs ih=>exact .fwd ih (by lia) hs
 | bwd _ hj hs ih=>exact .bwd ih (by lia) hs
theorem bB:∀(k u v:Nat),N.aJ S k u=N.aJ S k v->N.fG S k u v
 | 0,u,v,h=>by
   have e:u=v:=h;subst e;exact .refl
 | k+1,u,v,h=>by
   unfold Net.aJ at h
   split at h
   ·rename_i hs
    rcases tQ h with q|⟨q1,q2⟩|⟨q1,q2⟩
    ·exact(bB k u v q).mono (by lia)
    ·have c1:=(bB k u _ q1).mono (Nat.le_succ k);have c2:=(bB k _ v q2.symm).mono (Nat.le_succ k);exact Net.fG.trans (.fwd c1 (by lia) hs) c2
    ·have c1:=(bB k u _ q1).mono (Nat.le_succ k);have c2:=(bB k _ v q2.symm).mono (Nat.le_succ k);exact Net.fG.trans (.bwd c1 (by lia) hs) c2
   ·exact(bB k u v h).mono (by lia)
def Net.eY(N:Net)(k:Nat):Nat->Nat:=N.aJ (fun _=>true) k
def Net.kc(N:Net)(k:Nat):Bool:=!decide (N.eY k (N.a k)=N.eY k (N.b k))
theorem zw(k:Nat):N.eY (k+1)=if N.kc k=true then join (N.eY k) (N.a k) (N.b k) else N.eY k:=by
 show N.aJ (fun _=>true) (k+1)=_
 unfold Net.aJ;rw[if_pos rfl];unfold Net.kc
 by_cases h:N.eY k (N.a k)=N.eY k (N.b k)
 ·rw[if_neg (by simp[h])]
  exact wI h
 ·rw[if_pos (by simp[h])]
  rfl
theorem fZ{m:Nat}(hf:∀ k,m.testBit k=true->k<N.n/\N.kc k=true)(he:N.cL m):m=0:=by
 by_cases h0:m=0
 ·exact h0
 exfalso
 have hK:m.testBit m.log2=true:=Nat.testBit_log2 h0;obtain⟨RP,RQ⟩:=hf _ hK;generalize X8:m.log2=K at hK RP RQ;have hlt:m<2^(K+1):=by rw[<-X8];exact Nat.lt_log2_self
 have hcl:=zu (N:=N) (m:=m^^^2^K) (fun x=>decide (N.eY K x=N.eY K (N.a K))) fun k hk hb=>by
  have X9:k<K:=by
   rw[Nat.testBit_xor,Nat.testBit_two_pow]at hb
   by_cases e:K=k
   ·subst e;simp[hK]at hb
   ·have hb' : m.testBit k=true:=by simpa[e]using hb
    have:k<K+1:=by
     by_cases q:k<K+1
     ·exact q
     ·have z:=Nat.testBit_lt_two_pow (Nat.lt_of_lt_of_le hlt (Nat.pow_le_pow_right (by decide) (show K+1<=k by lia)))
      rw[hb']at z;cases z
    lia
  have e:N.eY K (N.a k)=N.eY K (N.b k):=fY (S:=fun _=>true) X9 rfl
  show decide (N.eY K (N.a k)=_)=decide (N.eY K (N.b k)=_);rw[e]
 have e:bg (fun x=>decide (N.eY K x=N.eY K (N.a K))&&N.bd (m^^^2^K) x) N.p=bg (fun x=>decide (N.eY K x=N.eY K (N.a K))&&N.inc K x) N.p :=
  aZ fun x hx=>by rw[eX,he x hx,iY RP];simp
 rw[e]at hcl;have e2:bg (fun x=>decide (N.eY K x=N.eY K (N.a K))&&N.inc K x) N.p=(decide (N.eY K (N.a K)=N.eY K (N.a K))^^decide (N.eY K (N.b K)=N.eY K (N.a K))):=by
  rw[<-gF (fun x=>decide (N.eY K x=N.eY K (N.a K))) (N.al K RP),<-gF (fun x=>decide (N.eY K x=N.eY K (N.a K))) (N.bl K RP),<-iX]
  refine aZ fun x _=>?_
  unfold Net.inc;cases decide (N.eY K x=N.eY K (N.a K))<;>cases decide (N.a K=x)<;>cases decide (N.b K=x)<;>rfl
 rw[e2]at hcl;unfold Net.kc at RQ;have hne : ¬ N.eY K (N.b K)=N.eY K (N.a K):=fun q=>by rw[q]at RQ;simp at RQ
 simp[hne]at hcl
def Net.trail(N:Net):Nat->Nat->Nat
 | 0=>fun _=>0
 | k+1=>if N.kc k=true then fun v=>if N.eY k v=max (N.eY k (N.a k)) (N.eY k (N.b k)) then Net.trail N k v^^^(Net.trail N k (N.a k)^^^Net.trail N k (N.b k)^^^2^k) else Net.trail N k v
   else Net.trail N k
theorem jM:∀(k v j:Nat),(N.trail k v).testBit j=true->j<k/\N.kc j=true
 | 0,v,j,h=>by simp[Net.trail]at h
 | k+1,v,j,h=>by
   have ih:=jM k;unfold Net.trail at h
   split at h
   ·rename_i hf
    dsimp only at h
    split at h
    ·rw[Nat.testBit_xor,Nat.testBit_xor,Nat.testBit_xor,Nat.testBit_two_pow]at h
     by_cases e:k=j
     ·subst e;exact⟨by lia,hf⟩
     ·have z : ¬((N.trail k v).testBit j=false/\(N.trail k (N.a k)).testBit j=false/\(N.trail k (N.b k)).testBit j=false):=by
       rintro⟨z1,z2,z3⟩;simp[z1,z2,z3,e]at h
      cases h1:(N.trail k v).testBit j with
      | true=>obtain⟨q,r⟩:=ih v j h1;exact⟨by lia,r⟩
      | false=>cases h2:(N.trail k (N.a k)).testBit j with
        | true=>obtain⟨q,r⟩:=ih _ j h2;exact⟨by lia,r⟩
        | false=>cases h3:(N.trail k (N.b k)).testBit j with
          | true=>obtain⟨q,r⟩:=ih _ j h3;exact⟨by lia,r⟩
          | false=>exact absurd ⟨h1,h2,h3⟩ z
    ·obtain⟨q,r⟩:=ih v j h;exact⟨by lia,r⟩
   ·obtain⟨q,r⟩:=ih v j h;exact⟨by lia,r⟩
theorem G4(a b c d e f g h:Bool)(Yb:(d^^f)=(g^^h)):((a^^g)^^(((c^^d)^^(e^^f))^^(c^^e)))=(a^^h):=by
 have e1:(((c^^d)^^(e^^f))^^(c^^e))=(d^^f):=by cases c<;>cases d<;>cases e<;>cases f<;>rfl
 rw[e1,Yb];cases a<;>cases g<;>cases h<;>rfl
theorem tR:∀(k:Nat),k<=N.n->∀ v x,N.bd (N.trail k v) x=(decide (v=x)^^decide (N.eY k v=x))
 | 0,_,v,x=>by
   show N.bd 0 x=(decide (v=x)^^decide (v=x));rw[j9];simp
 | k+1,hk,v,x=>by
   have ih:=tR k (by lia)
   rw[zw];unfold Net.trail
   by_cases hf:N.kc k=true
   ·rw[if_pos hf,if_pos hf]
    by_cases hm:N.eY k v=max (N.eY k (N.a k)) (N.eY k (N.b k))
    ·have e:join (N.eY k) (N.a k) (N.b k) v=min (N.eY k (N.a k)) (N.eY k (N.b k)):=by unfold join;rw[if_pos hm]
     show N.bd (if N.eY k v=_ then _ else _) x=_
     rw[if_pos hm,e,eX,eX,eX,iY (by lia),ih,ih,ih]
     unfold Net.inc;refine G4 _ false _ _ _ _ _ _ ?_;rw[hm];rcases Nat.le_total (N.eY k (N.a k)) (N.eY k (N.b k)) with q|q
     ·rw[Nat.max_eq_right q,Nat.min_eq_left q,Bool.xor_comm]
     ·rw[Nat.max_eq_left q,Nat.min_eq_right q]
    ·have e:join (N.eY k) (N.a k) (N.b k) v=N.eY k v:=by unfold join;rw[if_neg hm]
     show N.bd (if N.eY k v=_ then _ else _) x=_
     rw[if_neg hm,e,ih]
   ·rw[if_neg hf,if_neg hf];exact ih v x
def Net.ring(N:Net)(c:Nat):Nat:=N.trail N.n (N.a c)^^^N.trail N.n (N.b c)^^^2^c
theorem G5{c:Nat}(h:c<N.n):N.eY N.n (N.a c)=N.eY N.n (N.b c):=fY (S:=fun _=>true) h rfl
theorem jN{c:Nat}(h:c<N.n):N.cL (N.ring c):=fun x _=>by
 unfold Net.ring;rw[eX,eX,iY h,tR _ (Nat.le_refl _),tR _ (Nat.le_refl _),G5 h];unfold Net.inc;cases decide (N.a c=x)<;>cases decide (N.b c=x)<;>cases decide (N.eY N.n (N.b c)=x)<;>rfl
theorem lD{c j:Nat}(h:(N.ring c).testBit j=true):j=c\/(j<N.n/\N.kc j=true):=by
 unfold Net.ring at h;rw[Nat.testBit_xor,Nat.testBit_xor,Nat.testBit_two_pow]at h
 by_cases e:c=j
 ·exact .inl e.symm
 ·right
  cases h1:(N.trail N.n (N.a c)).testBit j with
  | true=>exact jM _ _ _ h1
  | false=>cases h2:(N.trail N.n (N.b c)).testBit j with
    | true=>exact jM _ _ _ h2
    | false=>simp[h1,h2,e]at h
theorem oA{c:Nat}(hf:N.kc c=false):(N.ring c).testBit c=true:=by
 unfold Net.ring;rw[Nat.testBit_xor,Nat.testBit_xor,Nat.testBit_two_pow];cases h1:(N.trail N.n (N.a c)).testBit c with
 | true=>obtain⟨_,q⟩:=jM _ _ _ h1;rw[hf]at q;cases q
 | false=>cases h2:(N.trail N.n (N.b c)).testBit c with
   | true=>obtain⟨_,q⟩:=jM _ _ _ h2;rw[hf]at q;cases q
   | false=>simp
theorem Ej{j:Nat}(h:j<N.n)(hf:N.kc j=true):(N.trail N.n (N.a j)).testBit j=true\/(N.trail N.n (N.b j)).testBit j=true:=by
 have z:N.ring j=0:=fZ (fun k hk=>by
  rcases lD hk with rfl|q
  ·exact⟨h,hf⟩
  ·exact q) (jN h)
 have b:(N.ring j).testBit j=false:=by rw[z];simp
 unfold Net.ring at b;rw[Nat.testBit_xor,Nat.testBit_xor,Nat.testBit_two_pow]at b;cases h1:(N.trail N.n (N.a j)).testBit j with
 | true=>exact .inl rfl
 | false=>cases h2:(N.trail N.n (N.b j)).testBit j with
   | true=>exact .inr rfl
   | false=>simp[h1,h2]at b
def cnt(f:Nat->Bool):Nat->Nat
 | 0=>0
 | n+1=>cnt f n+(if f n=true then 1 else 0)
theorem fL{f g:Nat->Bool}:∀{n:Nat},(∀ k,k<n->f k=g k)->cnt f n=cnt g n
 | 0,_=>rfl
 | n+1,h=>by
   unfold cnt;rw[fL fun k hk=>h k (by lia),h n (by lia)]
theorem tS{f g:Nat->Bool}{h:Nat}(hg:g h=true):∀{p:Nat},h<p->(∀ x,x<p->f x=(g x && !decide (x=h)))->cnt g p=cnt f p+1
 | 0,hh,_=>absurd hh (Nat.not_lt_zero _)
 | p+1,hh,e=>by
   unfold cnt
   by_cases q:h=p
   ·subst q;have z:cnt g h=cnt f h:=fL fun k hk=>by rw[e k (by lia)];simp[show k≠h by lia]
    rw[z,if_pos hg,e h (by lia)]
    simp
   ·rw[tS hg (by lia) fun x hx=>e x (by lia),e p (by lia)]
    simp[Ne.symm q]
    lia
theorem jO(f:Nat->Bool):∀ n,((List.range n).filter f).length=cnt f n
 | 0=>rfl
 | n+1=>by
   rw[List.range_succ,List.filter_append,List.length_append,jO f n];show _=cnt f n+(if f n=true then 1 else 0)
   cases h:f n with
   | true=>rw[List.filter_cons,if_pos h];rfl
   | false=>rw[List.filter_cons,if_neg (by rw[h];simp)];rfl
theorem kg(f:Nat->Bool):∀ n,cnt f n+cnt (fun k=>!f k) n=n
 | 0=>rfl
 | n+1=>by
   have ih:=kg f n;unfold cnt;cases h:f n<;>simp<;>lia
theorem xY{f:Nat->Bool}:∀{n:Nat},(∀ k,k<n->f k=true)->cnt f n=n
 | 0,_=>rfl
 | n+1,h=>by
   unfold cnt;rw[xY fun k hk=>h k (by lia),if_pos (h n (by lia))]
variable {N:Net}{S:Nat->Bool}
def Net.root(N:Net)(S:Nat->Bool)(k x:Nat):Bool:=decide (N.aJ S k x=x)
theorem fM(k:Nat):N.aJ S (k+1)=if S k=true then join (N.aJ S k) (N.a k) (N.b k) else N.aJ S k:=by
 conv=>lhs;unfold Net.aJ
theorem jh{k x:Nat}(h:x<N.p):N.aJ S k x<N.p:=Nat.lt_of_le_of_lt (oz k x) h
theorem Ek{L:Nat->Nat}{u v:Nat}(hr:∀ x,L (L x)=L x)(hne:L u≠L v)(x:Nat):decide (join L u v x=x)=(decide (L x=x) && !decide (x=max (L u) (L v))):=by
 have hhi:L (max (L u) (L v))=max (L u) (L v):=by
  rcases Nat.le_total (L u) (L v) with q|q
  ·rw[Nat.max_eq_right q];exact hr v
  ·rw[Nat.max_eq_left q];exact hr u
 have hlo:L (min (L u) (L v))=min (L u) (L v):=by
  rcases Nat.le_total (L u) (L v) with q|q
  ·rw[Nat.min_eq_left q];exact hr u
  ·rw[Nat.min_eq_right q];exact hr v
 unfold join
 by_cases h:L x=max (L u) (L v)
 ·rw[if_pos h];have h1 : ¬ min (L u) (L v)=x:=fun z=>by
   rw[<-z,hlo]at h
   lia
  by_cases h2:x=max (L u) (L v)
  ·simp[h1,h2]
   lia
  ·have h3 : ¬ L x=x:=fun z=>h2 (z.symm.trans h)
   simp[h1,h3]
 ·rw[if_neg h];have h2 : ¬ x=max (L u) (L v):=fun z=>h (by rw[z];exact hhi)
  simp[h2]
theorem tT{k:Nat}(hk:k<N.n):cnt (N.root S k) N.p=cnt (N.root S (k+1)) N.p+(if(S k && !decide (N.aJ S k (N.a k)=N.aJ S k (N.b k)))=true then 1 else 0):=by
 cases hs:S k with
 | false =>
   have e:N.root S (k+1)=N.root S k:=by unfold Net.root;rw[fM,if_neg (by rw[hs];simp)]
   rw[e];simp
 | true =>
   by_cases h:N.aJ S k (N.a k)=N.aJ S k (N.b k)
   ·have e:N.root S (k+1)=N.root S k:=by unfold Net.root;rw[fM,if_pos hs,wI h]
    rw[e];simp[h]
   ·have hhi:N.aJ S k (max (N.aJ S k (N.a k)) (N.aJ S k (N.b k)))=max (N.aJ S k (N.a k)) (N.aJ S k (N.b k)):=by
     rcases Nat.le_total (N.aJ S k (N.a k)) (N.aJ S k (N.b k)) with q|q
     ·rw[Nat.max_eq_right q];exact bY _ _
     ·rw[Nat.max_eq_left q];exact bY _ _
    have h1:=jh (S:=S) (k:=k) (N.al k hk);have h2:=jh (S:=S) (k:=k) (N.bl k hk);rw[tS (f:=N.root S (k+1)) (g:=N.root S k) (h:=max (N.aJ S k (N.a k)) (N.aJ S k (N.b k))) (cD hhi) (by lia) fun x _=>by
     unfold Net.root;rw[fM,if_pos hs];exact Ek (bY k) h x]
    simp[h]
theorem oB:∀ k,k<=N.n->cnt (N.root (fun _=>true) k) N.p+cnt N.kc k=N.p
 | 0,_=>by
   show cnt (N.root (fun _=>true) 0) N.p+0=N.p
   rw[xY (f:=N.root (fun _=>true) 0) fun x _=>cD rfl]
   rfl
 | k+1,hk=>by
   have ih:=oB k (by lia)
   have st:=tT (N:=N) (S:=fun _=>true) (k:=k) (by lia)
   have e:((fun _=>true:Nat->Bool) k && !decide (N.aJ (fun _=>true) k (N.a k)=N.aJ (fun _=>true) k (N.b k)))=N.kc k:=by rw[Bool.true_and];rfl
   rw[e]at st;show cnt (N.root (fun _=>true) (k+1)) N.p+(cnt N.kc k+if N.kc k=true then 1 else 0)=N.p
   lia
theorem zx:(N.n:Int)-N.p+cnt (N.root (fun _=>true) N.n) N.p=(cnt (fun k=>!N.kc k) N.n:Nat):=by
 have h:=oB (N:=N) N.n (Nat.le_refl _);have h2:=kg N.kc N.n
 lia
def Net.aN(N:Net):List Nat:=(List.range N.n).filter fun k=>!N.kc k
theorem cg{c:Nat}:c∈N.aN↔c<N.n/\N.kc c=false:=by
 unfold Net.aN;rw[List.mem_filter,List.mem_range];simp
theorem Bq:N.aN.length=cnt (fun k=>!N.kc k) N.n:=jO _ _
theorem cF{m n:Nat}(h:∀ k,m.testBit k=true->k<n):m<2^n:=Nat.lt_pow_two_of_testBit m fun k hk=>by
 cases q:m.testBit k with
 | false=>rfl
 | true=>exact absurd (h k q) (by lia)
theorem bU{m n k:Nat}(h:m<2^n)(hb:m.testBit k=true):k<n:=by
 by_cases q:k<n
 ·exact q
 ·have z:=Nat.testBit_lt_two_pow (Nat.lt_of_lt_of_le h (Nat.pow_le_pow_right (by decide) (show n<=k by lia)))
  rw[hb]at z;cases z
theorem G6{m q:Nat}(hm:m<2^N.n)(hq:q<2^N.n)(em:N.cL m)(eq:N.cL q)(h:∀ c,c<N.n->N.kc c=false->m.testBit c=q.testBit c):m=q:=by
 have z:m^^^q=0:=fZ (N:=N) (fun k hk=>by
  have hk':=bU (Nat.xor_lt_two_pow hm hq) hk;refine⟨hk',?_⟩;cases hf:N.kc k with
  | true=>rfl
  | false =>
    rw[Nat.testBit_xor,h k hk' hf]at hk;simp at hk) (cL.xor em eq)
 have e:m=m^^^q^^^q:=by rw[Nat.xor_assoc,Nat.xor_self,Nat.xor_zero]
 rw[e,z,Nat.zero_xor]
theorem oE{c:Nat}(h:c<N.n):N.ring c<2^N.n:=cF fun k hk=>by
 rcases lD hk with rfl|⟨q,_⟩
 ·exact h
 ·exact q
theorem iZ{c d:Nat}(hc:N.kc c=false)(hd:N.kc d=false):(N.ring c).testBit d=decide (c=d):=by
 by_cases e:c=d
 ·subst e;rw[oA hc];simp
 ·cases q:(N.ring c).testBit d with
  | false=>simp[e]
  | true=>rcases lD q with rfl | ⟨_,r⟩
          ·exact absurd rfl e
          ·rw[hd]at r;cases r
def Net.mV(N:Net)(number:Nat):List Nat->Nat->Nat
 | [],_=>0
 | c::r,i=>(if number.testBit i=true then N.ring c else 0)^^^Net.mV N number r (i+1)
theorem p7{number:Nat}:∀{l:List Nat} {i:Nat},(∀ c∈l,c<N.n)->N.cL (N.mV number l i)/\N.mV number l i<2^N.n
 | [],_,_=>⟨cL.zero,Nat.two_pow_pos _⟩
 | c::r,i,h=>by
   obtain⟨h1,h2⟩:=p7 (number:=number) (l:=r) (i:=i+1) fun d hd=>h d (jY _ hd)
   have hc:=h c List.mem_cons_self;unfold Net.mV
   split
   ·exact⟨cL.xor (jN hc) h1,Nat.xor_lt_two_pow (oE hc) h2⟩
   ·rw[Nat.zero_xor];exact⟨h1,h2⟩
theorem zy{number d:Nat}(hd:N.kc d=false):∀{l:List Nat} {i:Nat},(∀ c∈l,N.kc c=false)->d∉l->(N.mV number l i).testBit d=false
 | [],_,_,_=>by simp[Net.mV]
 | c::r,i,h,hn=>by
   have ih:=zy (number:=number) (d:=d) hd (l:=r) (i:=i+1) (fun e he=>h e (jY _ he)) fun q=>hn (jY _ q)
   unfold Net.mV;rw[Nat.testBit_xor,ih]
   split
   ·rw[iZ (h c List.mem_cons_self) hd];have:c≠d:=fun q=>hn (by rw[q];exact List.mem_cons_self)
    simp[this]
   ·simp
theorem zz{number:Nat}:∀{l:List Nat} {i j:Nat} {d:Nat},l.Nodup->(∀ c∈l,N.kc c=false)->l[j]?=some d->(N.mV number l i).testBit d=number.testBit (i+j)
 | [],_,_,_,_,_,h=>by simp at h
 | c::r,i,0,d,hn,hf,h=>by
   have e:c=d:=by simpa using h
   subst e;have hc:=hf c List.mem_cons_self;unfold Net.mV;rw[Nat.testBit_xor,zy hc (fun e he=>hf e (jY _ he)) (List.nodup_cons.mp hn).1]
   cases q:number.testBit (i+0) with
   | true=>rw[if_pos (by simpa using q),oA hc];rfl
   | false=>rw[if_neg (by simpa using q)];simp
 | c::r,i,j+1,d,hn,hf,h=>by
   have h' : r[j]?=some d:=by simpa using h
   have hd:d∈r:=gy h';have ih:=zz (number:=number) (l:=r) (i:=i+1) (j:=j) (d:=d) (List.nodup_cons.mp hn).2 (fun e he=>hf e (jY _ he)) h'
   unfold Net.mV;rw[Nat.testBit_xor,ih];have hne:c≠d:=fun q=>(List.nodup_cons.mp hn).1 (q▸hd)
   have z:(if number.testBit i=true then N.ring c else 0).testBit d=false:=by
    split
    ·rw[iZ (hf c List.mem_cons_self) (hf d (jY _ hd))];simp[hne]
    ·simp
   rw[z,show i+1+j=i+(j+1) by lia]
   simp
end RM
namespace Ring
open PySem L2
def maskOf(f:Nat->Bool):Nat->Nat
 | 0=>0
 | n+1=>(if f n=true then 2^n else 0)+maskOf f n
theorem mask_lt(f:Nat->Bool):∀ n,maskOf f n<2^n
 | 0=>by show 0<1;decide
 | n+1=>by
   have ih:=mask_lt f n;have e:2^(n+1)=2^n+2^n:=by rw[Nat.pow_succ];lia
   unfold maskOf
   split<;>lia
theorem mask_bit(f:Nat->Bool)(j:Nat):∀ n,(maskOf f n).testBit j=(decide (j<n)&&f j)
 | 0=>by simp[maskOf]
 | n+1=>by
   have ih:=mask_bit f j n;have hl:=mask_lt f n;unfold maskOf
   by_cases h:f n=true
   ·rw[if_pos h];rcases Nat.lt_trichotomy j n with q|q|q
    ·rw[Nat.testBit_two_pow_add_gt q,ih];simp[q,show j<n+1 by lia]
    ·subst q;rw[Nat.testBit_two_pow_add_eq,ih];simp[h]
    ·have z:2^n+maskOf f n<2^j:=Nat.lt_of_lt_of_le (show 2^n+maskOf f n<2^(n+1) by rw[Nat.pow_succ];lia) (Nat.pow_le_pow_right (by decide) q)
     rw[Nat.testBit_lt_two_pow z];simp[show ¬ j<n+1 by lia]
   ·rw[if_neg h,Nat.zero_add,ih]
    by_cases q:j=n
    ·subst q;have h' : f j=false:=by simpa using h
     simp[h']
    ·by_cases r:j<n
     ·simp[r,show j<n+1 by lia]
     ·simp[r,show ¬ j<n+1 by lia]
theorem G7(n:Nat):maskOf (fun _=>true) n=2^n-1:=by
 induction n with
 | zero=>rfl
 | succ n ih =>
   unfold maskOf;rw[ih,if_pos rfl,Nat.pow_succ];have:=Nat.two_pow_pos n
   lia
theorem Dg(n j:Nat):(2^n-1).testBit j=decide (j<n):=by
 rw[<-G7,mask_bit];simp
theorem M9{a b x y:Nat}(q:x/2+y/2=a/2+b/2)(h:x%2+y%2=a%2+b%2):x+y=a+b:=by lia
theorem Na{u v:Nat}(hu:u=0\/u=1)(hv:v=0\/v=1):(u ||| v)+(u&&&v)=u+v:=by
 rcases hu with rfl|rfl<;>rcases hv with rfl|rfl<;>rfl
theorem Nb:∀ a b:Nat,(a ||| b)+(a&&&b)=a+b:=by
 intro a
 induction a using Nat.strongRecOn with
 | ind a ih =>
   intro b
   by_cases h:a=0
   ·subst h;simp
   ·have q:=ih (a/2) (by lia) (b/2)
    rw[<-Nat.or_div_two,<-Nat.and_div_two]at q;refine M9 q ?_;have e1:(a ||| b)%2=a%2 ||| b%2:=Nat.or_mod_two_pow (n:=1)
    have e2:(a&&&b)%2=a%2&&&b%2:=Nat.and_mod_two_pow (n:=1);rw[e1,e2];exact Na (Nat.mod_two_eq_zero_or_one a) (Nat.mod_two_eq_zero_or_one b)
theorem or_int(a b:Nat):Builtin.bitOr (a:Int) (b:Int)=((a ||| b:Nat):Int):=by
 have q:=Nb a b;rw[PyProof.Rows.bitOr_and,PyProof.Rows.bitAnd_pp (by lia) (by lia)]
 have h:(a:Int)+b-((a&&&b:Nat):Int)=((a ||| b:Nat):Int):=by lia
 simpa using h
theorem ji(k:Nat):(1:Int)*2^(k:Int).toNat=((2^k:Nat):Int):=by
 rw[Int.toNat_natCast,Int.one_mul];simp
theorem eI{ts:List c9}{k:Nat}(h:k<ts.length):aU ts k∈ts:=by
 unfold aU;rw[List.getD_eq_getElem?_getD];simp[h]
theorem p8{ts:List c9}{k:Nat}(h:k<ts.length):ts[k]?=some (aU ts k):=by
 unfold aU;rw[List.getD_eq_getElem?_getD];simp[h]
def aA.N{p:Nat}{ts:List c9}(g:aA p ts):RM.Net where
 p:=p
 n:=ts.length
 a:=fun k=>(aU ts k).1.toNat
 b:=fun k=>(aU ts k).2.1.toNat
 al:=fun k hk=>by
  have z:=g.vz _ (eI hk);have z0:=z.a0;have z1:=z.a1
  lia
 bl:=fun k hk=>by
  have z:=g.vz _ (eI hk);have z0:=z.b0;have z1:=z.b1
  lia
 ne:=fun k hk e=>by
  have z:=g.vz _ (eI hk);have z0:=z.a0;have z1:=z.b0;exact z.ne (by lia)
theorem zA{p:Nat}{ts:List c9}{g:aA p ts}{k:Nat}(h:k<ts.length):(aU ts k).1=((g.N.a k:Nat):Int):=by
 have z:=(g.vz _ (eI h)).a0;show _=(((aU ts k).1.toNat:Nat):Int)
 lia
theorem zB{p:Nat}{ts:List c9}{g:aA p ts}{k:Nat}(h:k<ts.length):(aU ts k).2.1=((g.N.b k:Nat):Int):=by
 have z:=(g.vz _ (eI h)).b0;show _=(((aU ts k).2.1.toNat:Nat):Int)
 lia
theorem Ky{p:Nat}{ts:List c9}{g:aA p ts}{k:Nat}(h:k<ts.length)(x:Nat):JD ts k x%2=if g.N.inc k x=true then 1 else 0:=by
 unfold JD RM.Net.inc;rw[p8 h];dsimp only;rw[zA (g:=g) h,zB (g:=g) h];generalize g.N.a k=u;generalize g.N.b k=v
 by_cases h1:u=x
 ·by_cases h2:v=x
  ·simp[h1,h2]
  ·have M5 : ¬((v:Int)=(x:Int)):=by lia
   simp[h1,h2,M5]
 ·have GQ : ¬((u:Int)=(x:Int)):=by lia
  by_cases h2:v=x
  ·simp[h1,h2,GQ]
  ·have M5 : ¬((v:Int)=(x:Int)):=by lia
   simp[h1,h2,GQ,M5]
theorem G8{p:Nat}{ts:List c9}{g:aA p ts}(m x:Nat):∀ n,n<=ts.length->((List.range n).map fun k=>if m.testBit k=true then JD ts k x else 0).sum%2=if RM.bg (fun k=>m.testBit k&&g.N.inc k x) n=true then 1 else 0
 | 0,_=>rfl
 | n+1,h=>by
   have ih:=G8 (g:=g) m x n (by lia)
   have hd:=Ky (g:=g) (k:=n) (by lia) x
   rw[List.range_succ,List.map_append,List.sum_append];show(_+((if m.testBit n=true then JD ts n x else 0)+0))%2=if(RM.bg _ n^^(m.testBit n&&g.N.inc n x))=true then 1 else 0
   generalize ((List.range n).map fun k=>if m.testBit k=true then JD ts k x else 0).sum=u at ih ⊢
   generalize RM.bg (fun k=>m.testBit k&&g.N.inc k x) n=v at ih ⊢
   generalize g.N.inc n x=i at hd ⊢;generalize JD ts n x=d at hd ⊢;cases m.testBit n<;>cases v<;>cases i<;>simp at ih hd ⊢ <;> lia
theorem Dh{p:Nat}{ts:List c9}(g:aA p ts){m:Nat}(hm:m<2^ts.length){x:Nat}:decide ((jz p ts (m:Int)).getD x 0%2=1)=g.N.bd m x:=by
 rw[GX g.G0.Vo,fX hm,sum_filter];have h:=G8 (g:=g) m x ts.length (Nat.le_refl _);rw[h];show _=RM.bg _ ts.length;generalize RM.bg (fun k=>m.testBit k&&g.N.inc k x) ts.length=v
 cases v<;>simp
theorem zC{p:Nat}{ts:List c9}(g:aA p ts){m:Nat}(hm:m<2^ts.length):tN p ts (m:Int)=[]↔g.N.cL m:=by
 unfold tN;rw[List.filter_eq_nil_iff]
 constructor
 ·intro h x hx;have q:=h x (List.mem_range.mpr hx);rw[Dh g hm]at q
  simpa using q
 ·intro h x hx;rw[Dh g hm,h x (List.mem_range.mp hx)];simp
def cu(f:Nat->Nat)(n:Nat):List V:=(List.range n).map fun x=>V.int ((f x:Nat):Int)
theorem b8(f:Nat->Nat)(n:Nat):(cu f n).length=n:=by unfold cu;rw[List.length_map,List.length_range]
theorem bI{f:Nat->Nat}{n x:Nat}(h:x<n):(cu f n)[x]?=some (.int ((f x:Nat):Int)):=by
 unfold cu;rw[List.getElem?_map,List.getElem?_range h];rfl
theorem kh{f:Nat->Nat}{n x:Nat}{v:V}(h:(cu f n)[x]?=some v):x<n/\v = .int ((f x:Nat):Int):=by
 have hx:x<n:=by
  have:=(iH.mp h).1
  rwa [b8]at this
 rw[bI hx]at h;exact⟨hx,(Option.some.inj h).symm⟩
theorem wK(f:Nat->Nat)(n:Nat):cu f (n+1)=cu f n++[.int ((f n:Nat):Int)]:=by
 unfold cu;rw[List.range_succ,List.map_append];rfl
theorem tU{f g:Nat->Nat}{n:Nat}(h:∀ x,x<n->f x=g x):cu f n=cu g n:=by
 unfold cu;refine List.map_congr_left fun x hx=>?_
 rw[h x (List.mem_range.mp hx)]
theorem zD(p:Nat):(List.replicate p [V.int 0]).flatten=cu (fun _=>0) p:=by
 induction p with
 | zero=>rfl
 | succ p ih =>
   rw[wK,<-ih,List.replicate_succ',List.flatten_append];rfl
def tV(f:Nat->Nat)(H:Hp)(D:Addr)(i:Nat)(acc:List V)(H2:Hp):Prop:=au H H2/\H2 D=some (.lst acc)/\acc=cu f i
section
variable {f:Nat->Nat}{H H2 H3:Hp}{D:Addr}{i:Nat}{acc:List V}{v:V}
theorem tV.start(hD:H D=none):tV f H D 0 [] (upd H D (.lst [])):=⟨au.new hD,ae,rfl⟩
theorem tV.len(p:tV f H D i acc H2):H2 D=some (.lst acc)/\acc.length<=i:=⟨p.2.1,by rw[p.2.2,b8];exact Nat.le_refl _⟩
theorem tV.next(p:tV f H D i acc H2)(hD:H D=none)(s:au H2 H3)(hv:v = .int ((f i:Nat):Int)):H3 D=some (.lst acc)/\tV f H D (i+1) (acc++[v]) (upd H3 D (.lst (acc++[v]))):=by
 refine⟨s _ _ p.2.1,(p.1.trans s).put hD,ae,?_⟩;rw[wK,<-p.2.2,hv]
end
theorem wL{N:RM.Net}{m:Nat}:∀ n,((List.range n).filter fun k=>m.testBit k).foldl (fun L k=>RM.join L (N.a k) (N.b k)) (fun x=>x)=N.aJ (fun k=>m.testBit k) n
 | 0=>rfl
 | n+1=>by
   rw[bA,List.foldl_append,wL n,RM.fM]
   split<;>rfl
end Ring
namespace RM
theorem tW{N:Net}{S S' : Nat->Bool}:∀{n:Nat},(∀ k,k<n->S k=S' k)->N.aJ S n=N.aJ S' n
 | 0,_=>rfl
 | n+1,h=>by rw[fM,fM,tW fun k hk=>h k (by lia),h n (by lia)]
end RM
namespace Ring
open PySem L2
def pieceOf(L:Nat->Nat)(p s:Nat):List Nat:=(List.range p).filter fun x=>decide (L x=s)
def eJ(L:Nat->Nat)(p:Nat):List Nat:=(List.range p).filter fun x=>decide (L x=x)
def LZ(D:Addr)(H0 H:Hp)(y:V)(l:List Nat):Prop:=∃ b,y = .ref b/\b≠D/\H0 b=none/\H b=some (.lst (az l))
def tX(L:Nat->Nat)(p:Nat)(H:Hp)(D:Addr)(i:Nat)(H2:Hp):Prop:=au H H2/\∃ ys,H2 D=some (.lst ys)/\Paired (LZ D H H2) ys ((eJ L i).map (pieceOf L p))/\ys.length<=i
section
variable {L:Nat->Nat}{p i:Nat}{H H2 H3:Hp}{D b:Addr}
theorem tX.start(hD:H D=none):tX L p H D 0 (upd H D (.lst [])):=⟨au.new hD,[],ae,.nil,Nat.le_refl _⟩
theorem tY:eJ L (i+1)=eJ L i++(if L i=i then[i] else[]):=by
 unfold eJ;rw[bA]
 by_cases h:L i=i<;>simp[h]
theorem tX.skip(h:tX L p H D i H2)(hn : ¬ L i=i):tX L p H D (i+1) H2:=by
 obtain⟨s,ys,hd,pr,hl⟩:=h;refine⟨s,ys,hd,?_,by lia⟩
 rw[tY,if_neg hn,List.append_nil];exact pr
theorem tX.push(h:tX L p H D i H2)(hD:H D=none)(hr:L i=i)(s:au H2 H3)(hb:H2 b=none)(Yc:H3 b=some (.lst (az (pieceOf L p i)))):
 ∃ ys,H3 D=some (.lst ys)/\ys.length<=i/\tX L p H D (i+1) (upd H3 D (.lst (ys++[.ref b]))):=by
 obtain⟨s2,ys,hd,pr,hl⟩:=h;have LY:=s _ _ hd;have Vq:b≠D:=fun e=>by rw[e,hd]at hb;cases hb
 refine⟨ys,LY,hl,(s2.trans s).put hD,ys++[.ref b],ae,?_,by rw[List.length_append,List.length_singleton];lia⟩
 rw[tY,if_pos hr,List.map_append];refine Paired.snoc (Paired.imp' (fun _ _ ⟨e,he,hn,h0,q⟩=>⟨e,he,hn,h0,by rw[ao hn];exact s _ _ q⟩) pr) ?_
 exact⟨b,rfl,Vq,s2.free hb,by rw[ao Vq];exact Yc⟩
end
def rH(p:Nat)(ts:List c9)(g:aA p ts)(ks:List Nat):Nat->Nat:=ks.foldl (fun L k=>RM.join L (g.N.a k) (g.N.b k)) fun x=>x
theorem Br{p:Nat}{ts:List c9}{g:aA p ts}{ks:List Nat}{k:Nat}:rH p ts g (ks++[k])=RM.join (rH p ts g ks) (g.N.a k) (g.N.b k):=by
 unfold rH;rw[List.foldl_append];rfl
def bJ(p:Nat)(ts:List c9)(g:aA p ts)(m:Nat):Nat->Nat:=g.N.aJ (fun k=>m.testBit k) ts.length
theorem Bs{p:Nat}{ts:List c9}{g:aA p ts}{m:Nat}(hm:m<2^ts.length):rH p ts g (bx (m:Int))=bJ p ts g m:=by
 unfold rH bJ;rw[fX hm];exact wL _
theorem Kz{p:Nat}{ts:List c9}{g:aA p ts}:bJ p ts g (2^ts.length-1)=g.N.eY ts.length:=by
 unfold bJ RM.Net.eY;exact RM.tW fun k hk=>by rw[Dg];simp[hk]
theorem KA{p:Nat}{ts:List c9}{g:aA p ts}:(ts.length:Int)-(p:Int)+(eJ (bJ p ts g (2^ts.length-1)) p).length=(g.N.aN.length:Int):=by
 have h:=RM.zx (N:=g.N);rw[RM.Bq];unfold eJ;rw[RM.jO,Kz];exact h
theorem KC(a b:Nat):(if(b:Int)<(a:Int) then(b:Int) else(a:Int))=((min a b:Nat):Int):=by
 split<;>lia
theorem Di(a b:Nat):(if(b:Int) > (a:Int) then(b:Int) else(a:Int))=((max a b:Nat):Int):=by
 split<;>lia
theorem jj(a b:Nat):decide (V.int (a:Int)=V.int (b:Int))=decide (a=b):=by
 rw[Bool.eq_iff_iff];simp
 lia
end Ring
namespace RM
variable {N:Net}{S:Nat->Bool}
variable {pt r j:Nat}{l:List Nat}
theorem oF{l:List Nat}:∀{p:Nat},l.Nodup->(∀ x∈l,x<p)->l.length<=p:=by
 intro p hn hl;have hp:l.Perm ((List.range p).filter fun x=>decide (x∈l)):=by
  refine(List.perm_ext_iff_of_nodup hn (List.Pairwise.filter _ List.nodup_range)).mpr fun a=>?_
  rw[List.mem_filter,List.mem_range];simp;exact fun h=>hl a h
 rw[hp.length_eq];have:=List.length_filter_le (fun x=>decide (x∈l)) (List.range p)
 rwa [List.length_range]at this
end RM
namespace Ring
open PySem L2
theorem Bt{p:Nat}{f:Nat->Bool}:((List.range p).filter f).Pairwise (· < ·):=List.Pairwise.filter _ List.pairwise_lt_range
theorem ki(l:List Nat):az l=(l.map fun x=>((x:Nat):Int)).map V.int:=by unfold az;rw[List.map_map];rfl
theorem oG(u:Nat)(l:List Nat):LQ (.int (u:Int)) (az l)=decide (u∈l):=by
 unfold LQ az;rw[List.any_map,Bool.eq_iff_iff,List.any_eq_true];simp only[Function.comp,decide_eq_true_eq]
 constructor
 ·rintro⟨x,hx,h⟩;have e:((x:Nat):Int)=(u:Int):=eq_of_beq h;have:x=u:=by lia
  exact this▸hx
 ·intro h;exact⟨u,h,by simp[Kf]⟩
theorem p9(l:List Nat):(az l).all n6=true:=by
 unfold az;rw[List.all_map,List.all_eq_true];intro x _;rfl
theorem and_int(a b:Nat):Builtin.bitAnd (a:Int) (b:Int)=((a&&&b:Nat):Int):=by
 rw[PyProof.Rows.bitAnd_pp (by lia) (by lia)]
 simp
end Ring
namespace RM
variable {N:Net}
theorem G9{L:Nat->Nat}{u v x y:Nat}:join L u v x=join L u v y↔(L x=L y\/(L x=L u/\L y=L v)\/(L x=L v/\L y=L u)):=by
 constructor
 ·exact tQ
 ·have e:=wH L u v;rintro(h|⟨h1,h2⟩|⟨h1,h2⟩)
  ·exact join_eq h
  ·rw[join_eq h1,join_eq h2,e]
  ·rw[join_eq h1,join_eq h2,e]
def Nc(L:Nat->Nat)(u v:Nat):Nat->Nat:=fun x=>if L x=L v then L u else L x
theorem KD{L:Nat->Nat}{u v x y:Nat}:Nc L u v x=Nc L u v y↔(L x=L y\/(L x=L u/\L y=L v)\/(L x=L v/\L y=L u)):=by
 unfold Nc
 split<;>split<;>lia
end RM
namespace Ring
open PySem L2
def Ow(T:Nat->Nat):Nat->Nat
 | 0=>0
 | n+1=>Ow T n ||| T n
theorem Dl(T:Nat->Nat)(j:Nat):∀ n,(Ow T n).testBit j=true↔∃ x,x<n/\(T x).testBit j=true
 | 0=>by simp[Ow]
 | n+1=>by
   unfold Ow;rw[Nat.testBit_or,Bool.or_eq_true,Dl T j n]
   constructor
   ·rintro(⟨x,hx,h⟩|h)
    ·exact⟨x,by lia,h⟩
    ·exact⟨n,by lia,h⟩
   ·rintro⟨x,hx,h⟩
    by_cases e:x=n
    ·subst e;exact .inr h
    ·exact .inl ⟨x,by lia,h⟩
section
variable {p:Nat}{ts:List c9}{g:aA p ts}
def jk(p:Nat)(ts:List c9)(g:aA p ts):Nat:=maskOf g.N.kc ts.length
theorem Bu:Ow (g.N.trail ts.length) p=jk p ts g:=by
 refine Nat.eq_of_testBit_eq fun j=>?_
 unfold jk;rw[mask_bit,Bool.eq_iff_iff,Dl];simp only[Bool.and_eq_true,decide_eq_true_eq]
 constructor
 ·rintro⟨x,_,h⟩;exact RM.jM _ _ _ h
 ·rintro⟨h1,h2⟩;rcases RM.Ej (N:=g.N) h1 h2 with h|h
  ·exact⟨_,g.N.al j h1,h⟩
  ·exact⟨_,g.N.bl j h1,h⟩
theorem Bv(j:Nat):((2^ts.length-1)^^^jk p ts g).testBit j=(decide (j<ts.length) && !g.N.kc j):=by
 unfold jk;rw[Nat.testBit_xor,Dg,mask_bit];cases decide (j<ts.length)<;>cases g.N.kc j<;>rfl
theorem wM:(2^ts.length-1)^^^jk p ts g<2^ts.length:=Nat.xor_lt_two_pow (by have:=Nat.two_pow_pos ts.length;lia) (mask_lt _ _)
theorem zE:bx (((2^ts.length-1)^^^jk p ts g:Nat):Int)=g.N.aN:=by
 rw[fX wM];unfold RM.Net.aN;refine List.filter_congr fun k hk=>?_
 have:=List.mem_range.mp hk;rw[Bv];simp[this]
end
theorem KG(n:Nat):((2:Int)^n-1)=((2^n-1:Nat):Int):=by
 have h:((2:Int)^n)=((2^n:Nat):Int):=by simp
 have:=Nat.two_pow_pos n
 lia
theorem Nd{S:Int}{l:List Nat}(h:∀ c∈l,S≠((c:Nat):Int)):LQ (.int S) (az l)=false:=by
 unfold LQ az;rw[List.any_map,List.any_eq_false];intro x hx z;exact h x hx (eq_of_beq z).symm
theorem m5{c:Nat}:∀{n:Nat},c<n->(List.range n).filter (fun k=>decide (k=c))=[c]
 | 0,h=>absurd h (Nat.not_lt_zero _)
 | n+1,h=>by
   rw[bA]
   by_cases e:c=n
   ·subst e;have z:(List.range c).filter (fun k=>decide (k=c))=[]:=by
     rw[List.filter_eq_nil_iff];intro x hx;have:=List.mem_range.mp hx;simp
     lia
    rw[z];simp
   ·rw[m5 (by lia)]
    simp[Ne.symm e]
theorem jl{l:List Nat}{i:Nat}{k:Nat}(h:l[i]?=some k):(az l)[i]?=some (.int (k:Int)):=by
 unfold az;rw[List.getElem?_map,h];rfl
def vA(f:Nat->Int)(l:List Nat)(H:Hp)(D:Addr)(i:Nat)(acc:List V)(H2:Hp):Prop:=au H H2/\H2 D=some (.lst acc)/\acc=((l.take i).map f).map V.int
section
variable {f:Nat->Int}{l:List Nat}{H H2 H3:Hp}{D:Addr}{i k:Nat}{acc:List V}{v:V}
theorem vA.start(hD:H D=none):vA f l H D 0 [] (upd H D (.lst [])):=⟨au.new hD,ae,rfl⟩
theorem vA.len(p:vA f l H D i acc H2):H2 D=some (.lst acc)/\acc.length<=i:=by
 refine⟨p.2.1,?_⟩;rw[p.2.2,List.length_map,List.length_map,List.length_take]
 lia
theorem vA.next(p:vA f l H D i acc H2)(hD:H D=none)(s:au H2 H3)(hk:l[i]?=some k)(hv:v = .int (f k)):H3 D=some (.lst acc)/\vA f l H D (i+1) (acc++[v]) (upd H3 D (.lst (acc++[v]))):=by
 refine⟨s _ _ p.2.1,(p.1.trans s).put hD,ae,?_⟩;rw[List.take_add_one,hk,List.map_append,List.map_append,<-p.2.2,hv];rfl
theorem vA.fin(p:vA f l H D l.length acc H2):H2 D=some (.lst ((l.map f).map V.int)):=by rw[p.2.1,p.2.2,List.take_length]
end
end Ring
namespace RM
theorem tZ(f:Nat->Bool):∀ n,bg f n=decide (cnt f n%2=1)
 | 0=>rfl
 | n+1=>by
   unfold bg cnt;rw[tZ f n]
   by_cases h:f n=true
   ·rw[h,if_pos rfl]
    by_cases q:cnt f n%2=1
    ·have q' : ¬(cnt f n+1)%2=1:=by lia
     simp[q,q']
    ·have q' : (cnt f n+1)%2=1:=by lia
     simp[q,q']
   ·have h' : f n=false:=by simpa using h
    rw[h',if_neg (by decide)]
    simp
end RM
namespace Ring
open PySem L2
def lenOf(ts:List c9)(m:Nat):Int:=((bx (m:Int)).map fun k=>(aU ts k).2.2).sum
def El(ts:List c9)(f:Nat->Bool):Nat->Int
 | 0=>0
 | n+1=>El ts f n+(if f n=true then(aU ts n).2.2 else 0)
theorem rJ(ts:List c9)(f:Nat->Bool):∀ n,(((List.range n).filter f).map fun k=>(aU ts k).2.2).sum=El ts f n
 | 0=>rfl
 | n+1=>by
   rw[bA,List.map_append,List.sum_append,rJ ts f n];show _=El ts f n+(if f n=true then(aU ts n).2.2 else 0)
   split<;>simp
theorem Em{ts:List c9}{m:Nat}(hm:m<2^ts.length):lenOf ts m=El ts (fun k=>m.testBit k) ts.length:=by
 unfold lenOf;rw[fX hm];exact rJ ts _ _
section
variable {p:Nat}{ts:List c9}(g:aA p ts)
include g
end
end Ring
namespace L2
open PySem PySem.Spec PyProof.Rows
theorem wN{α β:Type}{F:α->β->Prop}:∀{l:List α} {r:List β} (k:Nat),Paired F l r->Paired F (l.take k) (r.take k)
 | _,_,0,_=>by rw[List.take_zero,List.take_zero];exact .nil
 | _,_,_+1,.nil=>.nil
 | _,_,k+1,.cons h t=>.cons h (wN k t)
theorem wO{α β:Type}{F:α->β->Prop}:∀{l:List α} {r:List β} (k:Nat),Paired F l r->Paired F (l.drop k) (r.drop k)
 | _,_,0,h=>h
 | _,_,_+1,.nil=>.nil
 | _,_,k+1,.cons _ t=>wO k t
def KH:V->List V->Hp->VK->Prop:=fun x vs H Q=>∃(l:Addr) (xs:List V) (k:Nat) (y:V),x = .ref l/\vs=[.int (k:Int),y]/\H l=some (.lst xs)/\k<=xs.length/\xs.length<sizeLine/\Q .dU (upd H l (.lst (xs.take k++y::xs.drop k)))
theorem En{X:Cx}:S4 X "list.insert" KH:=by
 intro pq s σ H x vs v us Q I rx rv h;obtain⟨l,xs,k,y,rfl,rfl,hH,hk,hz,q⟩:=h;cases rx;cases rv with
 | cons r1 r2 =>
   obtain⟨u,rfl,ru⟩:=Vals.one r2;obtain⟨t,rfl⟩:=r1;obtain⟨z,its,n,r,hl,e⟩:=I.GC hH;have hsz:sizeLine<2^63:=pR;have TJ:((k:Nat):Int)<2^63:=by
    have:k<2^63:=by lia
    lia
   have hfit : ¬(!Builtin.List.listFitsIndex (k:Int))=true:=by
    rw[fitsIndex_both (by lia) TJ]
    decide
   obtain⟨i,hi⟩:∃ i:Int,i=(k:Int):=⟨_,rfl⟩;rw[<-hi]at hfit ⊢;have hz2:its.toArray.size<=sizeLine:=by rw[List.size_toArray,<-hl];exact z
   refine call_meets F.slot_list_insert ⟨_,e,rfl⟩ F.entry_list_insert (F.args_list_insert_3 _ _ _) (AutoSeq1.list_insert_list_int_val_1 l its.toArray n i t u hfit hz2) ⟨e,?_⟩;refine⟨.dU,_,I.MR (its':=its.take k++u::its.drop k) hH e ?_ (Vals.append (wN k r) (.cons ru (wO k r))) ?_,rfl,q⟩
   ·have hc:(if i<0 then(i+(its.toArray.size:Int)).toNat else min i.toNat its.toArray.size)=k:=by
     rw[if_neg (by lia),List.size_toArray,hi,Int.toNat_natCast]
     lia
    show(its.toArray.extract 0 (if i<0 then(i+(its.toArray.size:Int)).toNat else min i.toNat its.toArray.size)).push u++its.toArray.extract (if i<0 then(i+(its.toArray.size:Int)).toNat else min i.toNat its.toArray.size)=_
    rw[hc];simp[List.extract_toArray];exact List.take_of_length_le (by rw[List.length_drop];lia)
   ·rw[List.length_append,List.length_take,List.length_cons,List.length_drop]
    lia
end L2
namespace Ring
open PySem L2
end Ring
namespace RM
def sm(f:Nat->Nat):Nat->Nat
 | 0=>0
 | n+1=>sm f n+f n
theorem fb{f g:Nat->Nat}:∀{n:Nat},(∀ k,k<n->f k=g k)->sm f n=sm g n
 | 0,_=>rfl
 | n+1,h=>by
   show sm f n+f n=sm g n+g n;rw[fb fun k hk=>h k (by lia),h n (by lia)]
theorem qa(f g:Nat->Nat):∀ n,sm (fun k=>f k+g k) n=sm f n+sm g n
 | 0=>rfl
 | n+1=>by
   show sm (fun k=>f k+g k) n+(f n+g n)=sm f n+f n+(sm g n+g n)
   rw[qa f g n]
   lia
theorem sJ:∀ n,sm (fun _=>0) n=0
 | 0=>rfl
 | n+1=>by
   show sm (fun _=>0) n+0=0
   rw[sJ n]
theorem Dm(f:Nat->Nat->Nat)(n:Nat):∀ p,sm (fun x=>sm (fun k=>f x k) n) p=sm (fun k=>sm (fun x=>f x k) p) n
 | 0=>(sJ n).symm
 | p+1=>by
   show sm (fun x=>sm (fun k=>f x k) n) p+sm (fun k=>f p k) n=sm (fun k=>sm (fun x=>f x k) p+f p k) n
   rw[Dm f n p,qa]
theorem ir(f:Nat->Bool):∀ n,cnt f n=sm (fun k=>if f k=true then 1 else 0) n
 | 0=>rfl
 | n+1=>by
   show cnt f n+(if f n=true then 1 else 0)=sm (fun k=>if f k=true then 1 else 0) n+(if f n=true then 1 else 0)
   rw[ir f n]
theorem Dp{f g:Nat->Nat}:∀{n:Nat},(∀ k,k<n->f k<=g k)->sm f n<=sm g n
 | 0,_=>Nat.le_refl _
 | n+1,h=>by
   have h1:=Dp (f:=f) (g:=g) (n:=n) fun k hk=>h k (by lia)
   have h2:=h n (by lia)
   show sm f n+f n<=sm g n+g n
   lia
theorem Hf{f g:Nat->Nat}{n:Nat}(h:∀ k,k<n->f k<=g k)(e:sm f n=sm g n):∀ k,k<n->f k=g k:=by
 induction n with
 | zero=>exact fun k hk=>absurd hk (Nat.not_lt_zero _)
 | succ n ih =>
   intro k hk;have h1:=Dp (f:=f) (g:=g) (n:=n) fun k hk=>h k (by lia)
   have h2:=h n (by lia)
   have e:sm f n+f n=sm g n+g n:=e
   by_cases hkn:k=n
   ·subst hkn
    lia
   ·exact ih (fun j hj=>h j (by lia)) (by lia) k (by lia)
theorem Bw{f g:Nat->Bool}{n:Nat}(h:∀ k,k<n->f k=true->g k=true):cnt f n<=cnt g n:=by
 rw[ir,ir];refine Dp fun k hk=>?_
 by_cases hf:f k=true
 ·rw[if_pos hf,if_pos (h k hk hf)];exact Nat.le_refl _
 ·rw[if_neg hf];exact Nat.zero_le _
theorem zF{f g:Nat->Bool}{n:Nat}(h:∀ k,k<n->f k=true->g k=true)(e:cnt f n=cnt g n):∀ k,k<n->g k=true->f k=true:=fun k hk hg=>by
 rw[ir,ir]at e;have q:=Hf (n:=n) (fun k hk=>by
  by_cases hf:f k=true
  ·rw[if_pos hf,if_pos (h k hk hf)];exact Nat.le_refl _
  ·rw[if_neg hf];exact Nat.zero_le _) e k hk
 rw[if_pos hg]at q
 by_cases hf:f k=true
 ·exact hf
 ·rw[if_neg hf]at q
  lia
theorem lE{f:Nat->Bool}:∀{n:Nat},0<cnt f n->∃ k,k<n/\f k=true
 | 0,h=>absurd h (Nat.lt_irrefl _)
 | n+1,h=>by
   by_cases hf:f n=true
   ·exact⟨n,by lia,hf⟩
   ·have h:0<cnt f n+(if f n=true then 1 else 0):=h
    rw[if_neg hf]at h;obtain⟨k,hk,q⟩:=lE (f:=f) (n:=n) (by lia)
    exact⟨k,by lia,q⟩
theorem mj{f:Nat->Bool}{k:Nat}(hf:f k=true):∀{n:Nat},k<n->0<cnt f n
 | 0,h=>absurd h (Nat.not_lt_zero _)
 | n+1,h=>by
   show 0<cnt f n+(if f n=true then 1 else 0)
   by_cases hk:k=n
   ·subst hk;rw[if_pos hf]
    lia
   ·have:=mj hf (n:=n) (by lia)
    lia
theorem mq{f:Nat->Bool}:∀{n:Nat},2<=cnt f n->∃ c d,c<d/\d<n/\f c=true/\f d=true
 | 0,h=>absurd h (by show ¬ 2<=0;lia)
 | n+1,h=>by
   have h:2<=cnt f n+(if f n=true then 1 else 0):=h
   by_cases hf:f n=true
   ·rw[if_pos hf]at h;obtain⟨k,hk,q⟩:=lE (f:=f) (n:=n) (by lia)
    exact⟨k,n,hk,by lia,q,hf⟩
   ·rw[if_neg hf]at h;obtain⟨c,d,h1,h2,h3,h4⟩:=mq (f:=f) (n:=n) (by lia)
    exact⟨c,d,h1,by lia,h3,h4⟩
theorem sL{f:Nat->Bool}{u v:Nat}(hu:f u=true)(hv:f v=true)(ne:u≠v):∀{n:Nat},u<n->v<n->2<=cnt f n
 | 0,h,_=>absurd h (Nat.not_lt_zero _)
 | n+1,h1,h2=>by
   show 2<=cnt f n+(if f n=true then 1 else 0)
   by_cases e1:u=n
   ·subst e1;have:=mj hv (n:=u) (by lia)
    rw[if_pos hu]
    lia
   ·by_cases e2:v=n
    ·subst e2;have:=mj hu (n:=v) (by lia)
     rw[if_pos hv]
     lia
    ·have:=sL hu hv ne (n:=n) (by lia) (by lia)
     lia
theorem t8(a:Nat):∀ n,cnt (fun x=>decide (a=x)) n=if a<n then 1 else 0
 | 0=>rfl
 | n+1=>by
   show cnt (fun x=>decide (a=x)) n+(if decide (a=n)=true then 1 else 0)=_
   rw[t8 a n]
   by_cases e:a=n
   ·subst e;simp
   ·have d:(if decide (a=n)=true then 1 else 0)=0:=if_neg (by simpa using e)
    rw[d]
    by_cases h:a<n
    ·rw[if_pos h,if_pos (by lia)]
    ·rw[if_neg h,if_neg (by lia)]
theorem ua{f g:Nat->Bool}:∀{n:Nat},(∀ x,x<n->¬(f x=true/\g x=true))->cnt (fun x=>f x^^g x) n=cnt f n+cnt g n
 | 0,_=>rfl
 | n+1,h=>by
   show cnt (fun x=>f x^^g x) n+(if(f n^^g n)=true then 1 else 0)=cnt f n+(if f n=true then 1 else 0)+(cnt g n+(if g n=true then 1 else 0))
   rw[ua fun x hx=>h x (by lia)]
   have q:=h n (by lia)
   cases hf:f n<;>cases hg:g n
   ·simp
   ·simp
    lia
   ·simp
    lia
   ·exact absurd ⟨hf,hg⟩ q
variable {N:Net}
def Net.dg(N:Net)(m x:Nat):Nat:=cnt (fun k=>m.testBit k&&N.inc k x) N.n
theorem Hg(m x:Nat):N.bd m x=decide (N.dg m x%2=1):=tZ _ _
theorem sM{m x:Nat}(e:N.cL m)(hx:x<N.p):N.dg m x%2=0:=by
 have h:=e x hx;rw[Hg]at h;have:=of_decide_eq_false h
 lia
theorem sN{k x:Nat}(hk:k<N.n):N.inc k x=true↔(N.a k=x\/N.b k=x):=by
 have ne:=N.ne k hk;unfold Net.inc
 by_cases h1:N.a k=x
 ·have h2 : ¬ N.b k=x:=fun z=>ne (h1.trans z.symm)
  simp[h1,h2]
 ·by_cases h2:N.b k=x
  ·simp[h1,h2]
  ·simp[h1,h2]
theorem KI{k:Nat}(hk:k<N.n):cnt (N.inc k) N.p=2:=by
 have ne:=N.ne k hk;have e:cnt (N.inc k) N.p=cnt (fun x=>decide (N.a k=x)^^decide (N.b k=x)) N.p:=rfl
 rw[e,ua fun x _ ⟨h1,h2⟩=>ne ((iG h1).trans (iG h2).symm),t8,t8,if_pos (N.al k hk),if_pos (N.bl k hk)]
theorem xZ(m:Nat):sm (fun x=>N.dg m x) N.p=2*cnt (fun k=>m.testBit k) N.n:=by
 have e:sm (fun x=>N.dg m x) N.p=sm (fun x=>sm (fun k=>if(m.testBit k&&N.inc k x)=true then 1 else 0) N.n) N.p:=fb fun x _=>ir _ _
 rw[e,Dm,ir];have d:∀ n,2*sm (fun k=>if m.testBit k=true then 1 else 0) n=sm (fun k=>(if m.testBit k=true then 1 else 0)+(if m.testBit k=true then 1 else 0)) n:=fun n=>by
  rw[qa]
  lia
 rw[d];refine fb fun k hk=>?_
 by_cases h:m.testBit k=true
 ·rw[if_pos h];have q:=KI hk;rw[ir]at q;show _=2;exact(fb fun x _=>by rw[h,Bool.true_and]).trans q
 ·rw[if_neg h];have h' : m.testBit k=false:=by simpa using h
  have:sm (fun x=>if(m.testBit k&&N.inc k x)=true then 1 else 0) N.p=sm (fun _=>0) N.p:=fb fun x _=>by rw[h'];rfl
  rw[this,sJ]
theorem Qa{q m:Nat}(h:∀ k,q.testBit k=true->m.testBit k=true)(x:Nat):N.dg q x<=N.dg m x:=Bw fun k _ hq=>by
 rw[Bool.and_eq_true]at hq ⊢;exact⟨h k hq.1,hq.2⟩
theorem uc{m k x:Nat}(hk:k<N.n)(hb:m.testBit k=true)(hx:N.a k=x\/N.b k=x):0<N.dg m x:=mj (k:=k) (by rw[hb,Bool.true_and];exact(sN hk).mpr hx) hk
theorem oH{m x:Nat}(h:0<N.dg m x):∃ k,k<N.n/\m.testBit k=true/\(N.a k=x\/N.b k=x):=by
 obtain⟨k,hk,q⟩:=lE h;rw[Bool.and_eq_true]at q;exact⟨k,hk,q.1,(sN hk).mp q.2⟩
theorem alone{m x y:Nat}(h:N.dg m x=0)(c:N.fG (fun k=>m.testBit k) N.n x y):y=x:=by
 induction c with
 | refl=>rfl
 | fwd _ hj hs ih=>exact absurd (uc hj hs (.inl ih)) (by lia)
 | bwd _ hj hs ih=>exact absurd (uc hj hs (.inr ih)) (by lia)
theorem Eo{S:Nat->Bool}{k u v:Nat}(hk:k<=N.n)(c:N.fG S k u v):∃ t,(∀ j,t.testBit j=true->j<k/\S j=true)/\∀ x,N.bd t x=(decide (u=x)^^decide (v=x)):=by
 induction c with
 | refl=>exact⟨0,fun j hj=>by simp at hj,fun x=>by rw[j9];simp⟩
 | fwd _ hj hs ih =>
   rename_i j _
   obtain⟨t,h1,h2⟩:=ih;refine⟨t^^^2^j,fun i hi=>?_,fun x=>?_⟩
   ·rw[Nat.testBit_xor,Nat.testBit_two_pow]at hi
    by_cases e:j=i
    ·subst e;exact⟨hj,hs⟩
    ·rw[cR e,Bool.xor_false]at hi;exact h1 i hi
   ·rw[eX,h2,iY (by lia)]
    unfold Net.inc;cases decide (u=x)<;>cases decide (N.a j=x)<;>cases decide (N.b j=x)<;>rfl
 | bwd _ hj hs ih =>
   rename_i j _
   obtain⟨t,h1,h2⟩:=ih;refine⟨t^^^2^j,fun i hi=>?_,fun x=>?_⟩
   ·rw[Nat.testBit_xor,Nat.testBit_two_pow]at hi
    by_cases e:j=i
    ·subst e;exact⟨hj,hs⟩
    ·rw[cR e,Bool.xor_false]at hi;exact h1 i hi
   ·rw[eX,h2,iY (by lia)]
    unfold Net.inc;cases decide (u=x)<;>cases decide (N.a j=x)<;>cases decide (N.b j=x)<;>rfl
def Net.Ring(N:Net)(m:Nat):Prop:=m≠0/\N.cL m/\∀ q,(∀ k,q.testBit k=true->m.testBit k=true)->N.cL q->q=0\/q=m
section
variable {m s:Nat}
theorem Dq(hm:m<2^N.n)(ev:N.cL m)(C:Nat->Bool)(hC:∀ x,x<N.p->C x=decide (N.aJ (fun k=>m.testBit k) N.n x=s))(h2:2<=cnt C N.p)
 (TL:∀ k,k<N.n->m.testBit k=true->C (N.a k)=true) (hl:cnt C N.p=cnt (fun k=>m.testBit k) N.n):N.Ring m:=by
 have L0:∀ k,k<N.n->m.testBit k=true->C (N.a k)=true/\C (N.b k)=true:=fun k hk hb=>by
  have h:=TL k hk hb;refine⟨h,?_⟩;rw[hC _ (N.al k hk)]at h;rw[hC _ (N.bl k hk)];rw[fY (S:=fun k=>m.testBit k) hk hb]at h
  exact h
 have pos:∀ x,x<N.p->C x=true->0<N.dg m x:=fun x hx hc=>by
  cases hz:N.dg m x with
  | succ d=>lia
  | zero =>
    exfalso
    obtain⟨y,hy,L1,hne⟩:∃ y,y<N.p/\C y=true/\y≠x:=by
     obtain⟨c,d,h1,h3,h4,h5⟩:=mq h2
     by_cases e:c=x
     ·exact⟨d,h3,h5,by lia⟩
     ·exact⟨c,by lia,h4,e⟩
    rw[hC x hx]at hc;rw[hC y hy]at L1;exact hne (alone hz (bB _ _ _ ((iG hc).trans (iG L1).symm)))
 have two:∀ x,x<N.p->(if C x=true then 2 else 0)=N.dg m x:=by
  refine Hf (fun x hx=>?_) ?_
  ·by_cases hc:C x=true
   ·rw[if_pos hc];have h1:=pos x hx hc;have h3:=sM ev hx
    lia
   ·rw[if_neg hc];exact Nat.zero_le _
  ·rw[xZ,<-hl,ir];have d:∀ n,2*sm (fun k=>if C k=true then 1 else 0) n=sm (fun k=>(if C k=true then 1 else 0)+(if C k=true then 1 else 0)) n:=fun n=>by
    rw[qa]
    lia
   rw[d];exact fb fun x _=>by split<;>rfl
 obtain⟨c0,hc0,hcc⟩:=lE (f:=C) (n:=N.p) (by lia)
 refine⟨fun z=>?_,ev,fun q hq eq=>?_⟩
 ·have h:=pos c0 hc0 hcc;obtain⟨k,_,hb,_⟩:=oH h;rw[z]at hb;simp at hb
 ·by_cases Bx:q=0
  ·exact .inl Bx
  ·right
   have full:∀ x,x<N.p->0<N.dg q x->∀ k,k<N.n->m.testBit k=true->(N.a k=x\/N.b k=x)->q.testBit k=true:=fun x hx h k hk hb JE=>by
    have h1:=Qa (N:=N) hq x;have h3:=sM eq hx;have h4:=two x hx;have h5:N.dg q x=N.dg m x:=by
     by_cases hc:C x=true
     ·rw[if_pos hc]at h4
      lia
     ·rw[if_neg hc]at h4
      lia
    have h6:=zF (f:=fun k=>q.testBit k&&N.inc k x) (g:=fun k=>m.testBit k&&N.inc k x) (n:=N.n) (fun k _ z=>by
     rw[Bool.and_eq_true]at z ⊢;exact⟨hq k z.1,z.2⟩) h5 k hk (by rw[hb,Bool.true_and];exact(sN hk).mpr JE)
    rw[Bool.and_eq_true]at h6;exact h6.1
   obtain⟨k0,hb0⟩:∃ k,q.testBit k=true:=Nat.exists_testBit_of_ne_zero Bx;have hk0:k0<N.n:=bU hm (hq k0 hb0);have spread:∀{y},N.fG (fun k=>m.testBit k) N.n (N.a k0) y->0<N.dg q y:=fun {y} c=>by
    induction c with
    | refl=>exact uc hk0 hb0 (.inl rfl)
    | fwd _ hj hs ih=>exact uc hj (full _ (N.al _ hj) ih _ hj hs (.inl rfl)) (.inr rfl)
    | bwd _ hj hs ih=>exact uc hj (full _ (N.bl _ hj) ih _ hj hs (.inr rfl)) (.inl rfl)
   refine Nat.eq_of_testBit_eq fun k=>?_
   cases hb:m.testBit k with
   | false =>
     cases hz:q.testBit k with
     | false=>rfl
     | true =>
       have:=hq k hz;rw[hb]at this;cases this
   | true =>
     have hk:=bU hm hb;have e1:=(L0 k hk hb).1;have e2:=(L0 k0 hk0 (hq k0 hb0)).1;rw[hC _ (N.al k hk)]at e1;rw[hC _ (N.al k0 hk0)]at e2;exact full _ (N.al k hk) (spread (bB _ _ _ ((iG e2).trans (iG e1).symm))) k hk hb (.inl rfl)
theorem nv(hm:m<2^N.n)(r:N.Ring m):∃ k0,k0<N.n/\m.testBit k0=true/\∀ k,k<N.n->m.testBit k=true->N.aJ (fun k=>m.testBit k) N.n (N.a k)=N.aJ (fun k=>m.testBit k) N.n (N.a k0):=by
 obtain⟨h0,ev,mn⟩:=r;obtain⟨k0,hb0⟩:=Nat.exists_testBit_of_ne_zero h0;have hk0:=bU hm hb0;refine⟨k0,hk0,hb0,?_⟩;generalize hs:N.aJ (fun k=>m.testBit k) N.n (N.a k0)=s
 have bit:∀ k,(Ring.maskOf (fun k=>m.testBit k&&decide (N.aJ (fun k=>m.testBit k) N.n (N.a k)=s)) N.n).testBit k=(decide (k<N.n)&&(m.testBit k&&decide (N.aJ (fun k=>m.testBit k) N.n (N.a k)=s))):=fun k=>Ring.mask_bit _ k _
 have sub:∀ k,(Ring.maskOf (fun k=>m.testBit k&&decide (N.aJ (fun k=>m.testBit k) N.n (N.a k)=s)) N.n).testBit k=true->m.testBit k=true:=fun k hk=>by
  rw[bit,Bool.and_eq_true,Bool.and_eq_true]at hk;exact hk.2.1
 have TM:N.cL (Ring.maskOf (fun k=>m.testBit k&&decide (N.aJ (fun k=>m.testBit k) N.n (N.a k)=s)) N.n):=fun x hx=>by
  have e:N.bd (Ring.maskOf (fun k=>m.testBit k&&decide (N.aJ (fun k=>m.testBit k) N.n (N.a k)=s)) N.n) x=(decide (N.aJ (fun k=>m.testBit k) N.n x=s)&&N.bd m x):=by
   unfold Net.bd;rw[<-ou];refine aZ fun k hk=>?_
   rw[bit,cD hk,Bool.true_and];cases hb:m.testBit k with
   | false=>simp
   | true =>
     cases hi:N.inc k x with
     | false=>simp
     | true =>
       have el:N.aJ (fun k=>m.testBit k) N.n (N.a k)=N.aJ (fun k=>m.testBit k) N.n x:=by
        rcases(sN hk).mp hi with z|z
        ·rw[z]
        ·rw[<-z];exact fY (S:=fun k=>m.testBit k) hk hb
       rw[el];simp
  rw[e,ev x hx,Bool.and_false]
 rcases mn _ sub TM with q|q
 ·have:=bit k0;rw[q,hb0,hs,cD hk0]at this;simp at this
 ·intro k hk hb;have h:=bit k;rw[q,hb,cD hk]at h;exact iG (by simpa using h.symm)
theorem wQ(S:Nat->Bool):∀ k,k<=N.n->cnt (N.root S k) N.p+cnt (fun j=>S j && !decide (N.aJ S j (N.a j)=N.aJ S j (N.b j))) k=N.p
 | 0,_=>by
   show cnt (N.root S 0) N.p+0=N.p;rw[xY (f:=N.root S 0) fun x _=>cD rfl]
   rfl
 | k+1,hk=>by
   have ih:=wQ S k (by lia)
   have st:=tT (N:=N) (S:=S) (k:=k) (by lia)
   show cnt (N.root S (k+1)) N.p+(cnt (fun j=>S j && !decide (N.aJ S j (N.a j)=N.aJ S j (N.b j))) k+if(S k && !decide (N.aJ S k (N.a k)=N.aJ S k (N.b k)))=true then 1 else 0)=N.p
   lia
theorem zG(hm:m<2^N.n)(r:N.Ring m)(C:Nat->Bool)(hC:∀ x,x<N.p->C x=decide (N.aJ (fun k=>m.testBit k) N.n x=s))
 (TL:∀ k,k<N.n->m.testBit k=true->C (N.a k)=true):2<=cnt C N.p/\cnt C N.p=cnt (fun k=>m.testBit k) N.n/\∀ x,x<N.p->C x=false->N.aJ (fun k=>m.testBit k) N.n x=x/\∀ y,N.aJ (fun k=>m.testBit k) N.n y=x->y=x:=by
 obtain⟨h0,ev,mn⟩:=r;obtain⟨k0,hb0⟩:=Nat.exists_testBit_of_ne_zero h0;have hk0:=bU hm hb0;have L0:∀ k,k<N.n->m.testBit k=true->C (N.a k)=true/\C (N.b k)=true:=fun k hk hb=>by
  have h:=TL k hk hb;refine⟨h,?_⟩;rw[hC _ (N.al k hk)]at h;rw[hC _ (N.bl k hk),<-fY (S:=fun k=>m.testBit k) hk hb]
  exact h
 have h2:2<=cnt C N.p:=sL (L0 k0 hk0 hb0).1 (L0 k0 hk0 hb0).2 (N.ne k0 hk0) (N.al k0 hk0) (N.bl k0 hk0);have none:∀ x,x<N.p->C x=false->N.dg m x=0:=fun x hx hc=>by
  cases hz:N.dg m x with
  | zero=>rfl
  | succ d =>
    exfalso
    obtain⟨k,hk,hb,JE⟩:=oH (N:=N) (m:=m) (x:=x) (by lia)
    rcases JE with e|e
    ·have:=(L0 k hk hb).1;rw[e,hc]at this;cases this
    ·have:=(L0 k hk hb).2;rw[e,hc]at this;cases this
 have Ep:∀ x,x<N.p->C x=false->N.aJ (fun k=>m.testBit k) N.n x=x/\∀ y,N.aJ (fun k=>m.testBit k) N.n y=x->y=x:=fun x hx hc=>by
  have hz:=none x hx hc;have r1:N.aJ (fun k=>m.testBit k) N.n x=x:=alone hz (bB _ _ _ (bY _ _).symm)
  exact⟨r1,fun y hy=>alone hz (bB _ _ _ (r1.trans hy.symm))⟩
 refine⟨h2,?_,Ep⟩;have pos:∀ x,x<N.p->C x=true->0<N.dg m x:=fun x hx hc=>by
  cases hz:N.dg m x with
  | succ d=>lia
  | zero =>
    exfalso
    obtain⟨y,hy,L1,hne⟩:∃ y,y<N.p/\C y=true/\y≠x:=by
     obtain⟨c,d,h1,h3,h4,h5⟩:=mq h2
     by_cases e:c=x
     ·exact⟨d,h3,h5,by lia⟩
     ·exact⟨c,by lia,h4,e⟩
    rw[hC x hx]at hc;rw[hC y hy]at L1;exact hne (alone hz (bB _ _ _ ((iG hc).trans (iG L1).symm)))
 have ge:cnt C N.p<=cnt (fun k=>m.testBit k) N.n:=by
  have h:sm (fun x=>if C x=true then 2 else 0) N.p<=sm (fun x=>N.dg m x) N.p:=Dp fun x hx=>by
   by_cases hc:C x=true
   ·rw[if_pos hc];have h1:=pos x hx hc;have h3:=sM ev hx
    lia
   ·rw[if_neg hc];exact Nat.zero_le _
  rw[xZ]at h;have d:sm (fun x=>if C x=true then 2 else 0) N.p=2*cnt C N.p:=by
   rw[ir];have d:∀ n,2*sm (fun k=>if C k=true then 1 else 0) n=sm (fun k=>(if C k=true then 1 else 0)+(if C k=true then 1 else 0)) n:=fun n=>by
    rw[qa]
    lia
   rw[d];exact fb fun x _=>by split<;>rfl
  lia
 refine Nat.le_antisymm ge (Nat.le_of_not_lt fun more=>?_)
 have TN:=wQ (N:=N) (fun k=>m.testBit k) N.n (Nat.le_refl _)
 have hr:cnt (N.root (fun k=>m.testBit k) N.n) N.p+cnt C N.p=N.p+1:=by
  have hc0:=(L0 k0 hk0 hb0).1;rw[hC _ (N.al k0 hk0)]at hc0;have hs:=iG hc0;have wu:s<N.p:=by rw[<-hs];exact jh (N.al k0 hk0)
  have hss:N.aJ (fun k=>m.testBit k) N.n s=s:=by rw[<-hs];exact bY _ _
  have e:cnt (N.root (fun k=>m.testBit k) N.n) N.p=cnt (fun x=>!C x^^decide (s=x)) N.p:=fL fun x hx=>by
   unfold Net.root;cases hc:C x with
   | false =>
     have ne : ¬ s=x:=fun z=>by
      have:=hC x hx;rw[hc,<-z,hss]at this;simp at this
     rw[cD (Ep x hx hc).1,cR ne];rfl
   | true =>
     have h:=hC x hx;rw[hc]at h;have h:=iG h.symm;rw[h];simp
  rw[e,ua fun x hx ⟨z1,z2⟩=>by
   have z2:=iG z2;have:=hC x hx;rw[<-z2,hss]at this;rw[<-z2,this]at z1;simp at z1,t8,if_pos wu]
  have:=kg C N.p
  lia
 have split:cnt (fun k=>m.testBit k) N.n=cnt (fun j=>m.testBit j && !decide (N.aJ (fun k=>m.testBit k) j (N.a j)=N.aJ (fun k=>m.testBit k) j (N.b j))) N.n+cnt (fun j=>m.testBit j&&decide (N.aJ (fun k=>m.testBit k) j (N.a j)=N.aJ (fun k=>m.testBit k) j (N.b j))) N.n:=by
  rw[<-ua fun x _ ⟨z1,z2⟩=>by
   rw[Bool.and_eq_true]at z1 z2;have:=z1.2;rw[z2.2]at this;cases this]
  refine fL fun k _=>?_
  cases m.testBit k<;>cases decide (N.aJ (fun k=>m.testBit k) k (N.a k)=N.aJ (fun k=>m.testBit k) k (N.b k))<;>rfl
 obtain⟨c,d,hcd,hd,hc1,hd1⟩:=mq (f:=fun j=>m.testBit j&&decide (N.aJ (fun k=>m.testBit k) j (N.a j)=N.aJ (fun k=>m.testBit k) j (N.b j))) (n:=N.n) (by lia)
 have whole:∀ j,j<N.n->(m.testBit j&&decide (N.aJ (fun k=>m.testBit k) j (N.a j)=N.aJ (fun k=>m.testBit k) j (N.b j)))=true->∀ i,m.testBit i=true->i<=j:=fun j hj h i hi=>by
  rw[Bool.and_eq_true]at h;obtain⟨t,t1,t2⟩:=Eo (Nat.le_of_lt hj) (bB _ _ _ (iG h.2));have own:(t^^^2^j).testBit j=true:=by
   rw[Nat.testBit_xor,Nat.testBit_two_pow,cD rfl];cases hz:t.testBit j with
   | false=>rfl
   | true=>exact absurd (t1 j hz).1 (Nat.lt_irrefl _)
  have sub:∀ k,(t^^^2^j).testBit k=true->m.testBit k=true:=fun k hk=>by
   rw[Nat.testBit_xor,Nat.testBit_two_pow]at hk
   by_cases e:j=k
   ·subst e;exact h.1
   ·rw[cR e,Bool.xor_false]at hk;exact(t1 k hk).2
  have TM:N.cL (t^^^2^j):=fun x hx=>by
   rw[eX,t2,iY hj];unfold Net.inc;cases decide (N.a j=x)<;>cases decide (N.b j=x)<;>rfl
  rcases mn _ sub TM with q|q
  ·rw[q]at own;simp at own
  ·rw[<-q,Nat.testBit_xor,Nat.testBit_two_pow]at hi
   by_cases e:j=i
   ·lia
   ·rw[cR e,Bool.xor_false]at hi;exact Nat.le_of_lt (t1 i hi).1
 have h1:m.testBit d=true:=by
  rw[Bool.and_eq_true]at hd1;exact hd1.1
 have:=whole c (by lia) hc1 d h1
 lia
end
end RM
namespace Ring
open PySem L2
def dG(L:Nat->Nat)(p:Nat):List Nat:=(eJ L p).filter fun s=>decide (1<(pieceOf L p s).length)
def Nf(L:Nat->Nat)(p k:Nat):List Nat->Bool
 | [s]=>decide ((pieceOf L p s).length=k)
 | _=>false
def rK(p:Nat)(ts:List c9)(g:aA p ts)(m:Nat):Bool:=decide (tN p ts (m:Int)=[])&&Nf (bJ p ts g m) p (bx (m:Int)).length (dG (bJ p ts g m) p)
theorem iQ(L:Nat->Nat)(p s:Nat):(pieceOf L p s).length=RM.cnt (fun x=>decide (L x=s)) p:=RM.jO _ _
theorem ud{m n:Nat}(hm:m<2^n):(bx (m:Int)).length=RM.cnt (fun k=>m.testBit k) n:=by
 rw[fX hm];exact RM.jO _ _
theorem Er{f:Nat->Bool}{n c:Nat}(hc:c<n)(h:∀ k,k<n->f k=decide (k=c)):(List.range n).filter f=[c]:=by
 rw[<-m5 hc];exact List.filter_congr fun k hk=>h k (List.mem_range.mp hk)
theorem Es{p:Nat}{ts:List c9}(g:aA p ts){m:Nat}(hm:m<2^ts.length):rK p ts g m=true↔g.N.Ring m:=by
 have eL:bJ p ts g m=g.N.aJ (fun k=>m.testBit k) g.N.n:=rfl
 have ep:g.N.p=p:=rfl
 constructor
 ·intro h;unfold rK at h;rw[Bool.and_eq_true]at h;obtain⟨h1,h2⟩:=h;have ev:=(zC g hm).mp (iG h1);unfold Nf at h2
  split at h2
  ·rename_i s hs
   have h2:=iG h2;have hmem:s∈dG (bJ p ts g m) p:=by rw[hs];exact List.mem_singleton.mpr rfl
   unfold dG at hmem;have hlen:=iG (List.mem_filter.mp hmem).2;refine RM.Dq (s:=s) hm ev (fun x=>decide (bJ p ts g m x=s)) (fun x _=>by rw[eL]) ?_ (fun k hk hb=>?_) ?_
   ·rw[ep,<-iQ];exact hlen
   ·
    have Vr:=g.N.al k hk;have Yd:=g.N.bl k hk;have e:bJ p ts g m (g.N.b k)=bJ p ts g m (g.N.a k):=(RM.fY (S:=fun k=>m.testBit k) hk hb).symm
    have hr:bJ p ts g m (bJ p ts g m (g.N.a k))=bJ p ts g m (g.N.a k):=RM.bY _ _;have hlt:bJ p ts g m (g.N.a k)<p:=RM.jh Vr;have ht:bJ p ts g m (g.N.a k)∈dG (bJ p ts g m) p:=by
     unfold dG eJ;refine List.mem_filter.mpr ⟨List.mem_filter.mpr ⟨List.mem_range.mpr hlt,cD hr⟩,cD ?_⟩;rw[iQ];exact RM.sL (u:=g.N.a k) (v:=g.N.b k) (cD rfl) (cD e) (g.N.ne k hk) Vr Yd
    rw[hs]at ht;exact cD (List.mem_singleton.mp ht)
   ·rw[ep,<-iQ,h2];exact ud hm
  ·cases h2
 ·intro r;obtain⟨k0,hk0,hb0,hall⟩:=RM.nv hm r;generalize hs:g.N.aJ (fun k=>m.testBit k) g.N.n (g.N.a k0)=s at hall
  obtain⟨h2,hl,Ep⟩:=RM.zG (s:=s) hm r (fun x=>decide (bJ p ts g m x=s)) (fun x _=>by rw[eL]) (fun k hk hb=>cD (hall k hk hb))
  have wu:s<p:=by rw[<-hs];exact RM.jh (g.N.al k0 hk0)
  have hss:bJ p ts g m s=s:=by rw[eL,<-hs];exact RM.bY _ _
  have ht:dG (bJ p ts g m) p=[s]:=by
   unfold dG eJ;rw[List.filter_filter];refine Er wu fun x hx=>?_
   by_cases e:x=s
   ·subst e;rw[cD hss,iQ,cD rfl,Bool.and_true];exact cD h2
   ·rw[cR e]
    by_cases JE:bJ p ts g m x=x
    ·have hc:decide (bJ p ts g m x=s)=false:=cR (by rw[JE];exact e)
     obtain⟨_,q⟩:=Ep x hx hc;have : ¬ 1<(pieceOf (bJ p ts g m) p x).length:=fun z=>by
      rw[iQ]at z;obtain⟨c,d,h1,_,h3,h4⟩:=RM.mq z;have h3:=q c (iG h3);have h4:=q d (iG h4)
      lia
     rw[cR this,Bool.false_and]
    ·rw[cR JE,Bool.and_false]
  unfold rK;rw[cD ((zC g hm).mpr r.2.1),ht,Bool.true_and];refine cD ?_;rw[iQ,ud hm];exact hl
theorem By{p:Nat}{ts:List c9}{g:aA p ts}{m:Nat}(ev:tN p ts (m:Int)=[]):rK p ts g m=Nf (bJ p ts g m) p (bx (m:Int)).length (dG (bJ p ts g m) p):=by
 unfold rK;rw[cD ev,Bool.true_and]
def Nh(H:Hp)(y:V)(l:List Nat):Prop:=∃ b,y = .ref b/\H b=some (.lst (az l))
def ue(f:List Nat->Bool)(ls:List (List Nat))(H:Hp)(D:Addr)(i:Nat)(acc:List V)(H2:Hp):Prop:=au H H2/\H2 D=some (.lst acc)/\Paired (Nh H) acc ((ls.take i).filter f)
section
variable {f:List Nat->Bool}{ls:List (List Nat)}{H H2 H3:Hp}{D:Addr}{i:Nat}{acc:List V}{y:V}{l:List Nat}
theorem ue.start(hD:H D=none):ue f ls H D 0 [] (upd H D (.lst [])):=⟨au.new hD,ae,.nil⟩
theorem ue.len(h:ue f ls H D i acc H2):H2 D=some (.lst acc)/\acc.length<=i:=⟨h.2.1,by
 rw[h.2.2.length];exact Nat.le_trans (List.length_filter_le _ _) (by rw[List.length_take];lia)⟩
theorem ue.yes(h:ue f ls H D i acc H2)(hD:H D=none)(hl:ls[i]?=some l)(hf:f l=true)(hy:Nh H y l):H2 D=some (.lst acc)/\ue f ls H D (i+1) (acc++[y]) (upd H2 D (.lst (acc++[y]))):=by
 refine⟨h.2.1,h.1.put hD,ae,?_⟩;rw[List.take_add_one,hl,List.filter_append];show Paired _ _ (_++List.filter f [l]);rw[List.filter_cons,if_pos hf];exact Paired.snoc h.2.2 hy
theorem ue.no(h:ue f ls H D i acc H2)(hl:ls[i]?=some l)(hf:f l=false):ue f ls H D (i+1) acc H2:=by
 refine⟨h.1,h.2.1,?_⟩;rw[List.take_add_one,hl,List.filter_append];show Paired _ _ (_++List.filter f [l]);rw[List.filter_cons,if_neg (by rw[hf];exact Bool.false_ne_true)]
 simpa using h.2.2
end
end Ring
namespace L2
open PySem PySem.Spec PyProof.Rows
section
variable {prog:Program}{w:World}{A:Around}{E:di}{s:Shared}
theorem BA{it t:Addr}{i:Nat}{items:Array Value}{x:Value}{Q:di}(hit:s.heap.IsTupleIter it t i)(ht:s.heap.IsTuple t items)(hx:items[i]?=some x)
 (q:∀ h',h'.IsTupleIter it t (i+1)->Heap.SameBut it s.heap h'->Q x { s with heap:=h'}):wpAny (model prog w) A (Builtin.SmallTypes.nextOf (.ref it)) Q E s:=by
 obtain⟨o,ho,hc,hd⟩:=id hit;obtain⟨ot,TQ,_,nt,hdt⟩:=ht;rw[Builtin.SmallTypes.nextOf];refine aP (wpAny_callSpecial?_slot (name:=Str.ofString "__next__") hit.typeIs F.slot_tuple_iterator_next (wpAny_call_entry F.slot_tuple_iterator_next hit.typeIs F.entry_tuple_iterator_next ?_ (F.args_tuple_iterator_next_1 _)));show wpAny _ _ (field (.ref it) 0 >>= fun _=>_) _ _ s
 refine aP (wpAny_field ho hd (x:=.ref t) rfl ?_);show wpAny _ _ (if(Value.ref t==Value.none)=true then _ else _) _ _ s
 rw[if_neg (by simp)]
 show wpAny _ _ (field (.ref it) 1 >>= fun _=>_) _ _ s
 refine aP (wpAny_field ho hd (x:=.int i 0) rfl ?_);show wpAny _ _ (seqItems? (.ref t) >>= fun _=>_) _ _ s
 refine aP (wpAny_seqItems TQ hdt ?_);simp only[Int.toNat_natCast,hx];refine aP (wpAny_setField ho hd (by simp) (wpAny_pure ⟨x,rfl,wpAny_pure (q _ ?_ (Heap.SameBut.update ..))⟩))
 refine⟨_,Heap.get?_update_self _ ho (Obj.isFreed_of_fields (Obj.data_mapFields hd _)),(Obj.cls_mapFields ..).trans hc,?_⟩;rw[Obj.data_mapFields hd];simp[rawInt]
theorem Et{it t:Addr}{i:Nat}{items:Array Value}{Q:di}(hh:A.handled=none)(hit:s.heap.IsTupleIter it t i)(ht:s.heap.IsTuple t items)(hx:items[i]?=none)
 (q:∀ h' e,Heap.ExtBut it s.heap h'->(∃ o,h'.get? e=some o/\o.cls = .type "StopIteration")->E (.ref e) { s with heap:=h'}):wpAny (model prog w) A (Builtin.SmallTypes.nextOf (.ref it)) Q E s:=by
 obtain⟨o,ho,hc,hd⟩:=id hit;obtain⟨ot,TQ,_,nt,hdt⟩:=ht;rw[Builtin.SmallTypes.nextOf];refine aP (wpAny_callSpecial?_slot (name:=Str.ofString "__next__") hit.typeIs F.slot_tuple_iterator_next (wpAny_call_entry F.slot_tuple_iterator_next hit.typeIs F.entry_tuple_iterator_next ?_ (F.args_tuple_iterator_next_1 _)));show wpAny _ _ (field (.ref it) 0 >>= fun _=>_) _ _ s
 refine aP (wpAny_field ho hd (x:=.ref t) rfl ?_);show wpAny _ _ (if(Value.ref t==Value.none)=true then _ else _) _ _ s
 rw[if_neg (by simp)]
 show wpAny _ _ (field (.ref it) 1 >>= fun _=>_) _ _ s
 refine aP (wpAny_field ho hd (x:=.int i 0) rfl ?_);show wpAny _ _ (seqItems? (.ref t) >>= fun _=>_) _ _ s
 refine aP (wpAny_seqItems TQ hdt ?_);simp only[Int.toNat_natCast,hx];refine aP (wpAny_rule (aP (wpAny_setField ho hd (by simp) ?_)))
 show wpAny _ _ (newExc (.type "StopIteration") [] >>= fun _=>_) _ _ _
 refine aP ?_;simp only[newExc,newTuple];refine aP (wpAny_newObj_type ?_ (by size_fits))
 refine aP (m:=firstArgMember _ _) (wpAny_of_eq (a:=Value.none) (by first | rfl | (simp only[firstArgMember];rfl)) (wpAny_newObj_type ?_ (by size_fits)))
 exact wpAny_raiseNew_none hh (q _ _ (((Heap.SameBut.update ..).extBut.push _).push _) ⟨_,Heap.get?_push_size _ rfl,rfl⟩)
theorem rL(hh:A.handled=none)(it t:Addr)(hne:t≠it)(items:Array Value):
 Draws prog w A it [it,t] items.size (fun i v=>items[i]?=some v) (fun i h=>h.IsTupleIter it t i/\h.IsTuple t items) where
 live:=fun _ _ st=>let⟨o,ho,_⟩:=st.1;⟨o,ho⟩
 frame:=fun _ _ _ st hk=>⟨st.1.at fun o e=>hk it (by simp) o e,st.2.at fun o e=>hk t (by simp) o e⟩
 item:=fun i s Q E hi st hQ=>BA st.1 st.2 (x:=items[i]) (by simp[hi]) fun h' TR hs'=>hQ _ h' s.toks (by simp[hi]) ⟨TR,st.2.extBut hs'.extBut hne⟩ hs'
 done:=fun s Q E st hE=>Et hh st.1 st.2 (by simp) hE
end
open AutoSeq1 (wpAny_loadPart') in
theorem qb(l:Addr)(items:Array Value)(n:Nat)(dct:Option Addr)(sl:Array (Option Value)):
 Meets (Builtin.«enumerate.__new__» ⟨[.type "enumerate",.ref l],[]⟩) (fun _ R s=>s.heap.get? l=some { cls:=.type "tuple",dict:=dct,data:=.seq items n,slots:=sl}/\
  R (.ok (.ret (.ref (s.heap.push { cls:=.type "tuple_iterator",data:=.fields #[.ref l,.int 0 0]}).objs.size)))
    { s with heap:=(s.heap.push { cls:=.type "tuple_iterator",data:=.fields #[.ref l,.int 0 0]}).push { cls:=.type "enumerate",data:=.fields #[.none,.bool false,.ref s.heap.objs.size,rawInt 0,.none,.none]}}) :=
 .of_wp fun prog w A R s h=>by
  obtain⟨hp,g,d,tk,os⟩:=s;obtain⟨hl,h⟩:=h;have hsub:=sub_enumerate;have hL:Heap.IsTuple (Shared.heap ⟨hp,g,d,tk,os⟩) l items:=⟨_,hl,rfl,n,rfl⟩
  wp_walk using wpAny_loadPart' hl
  refine wpAny_stack_any fun st=>wpAny_pure ?_
  split
  ·rename_i c _ _ _ _ _
   cases(c==Value.type "enumerate")
   ·wp_walk using wpAny_loadPart' hl,wpAny_pyIter_tuple hL
    exact⟨_,rfl,h⟩
   ·wp_walk using wpAny_loadPart' hl,wpAny_pyIter_tuple hL
    exact⟨_,rfl,h⟩
  ·wp_walk using wpAny_loadPart' hl,wpAny_pyIter_tuple hL
   exact⟨_,rfl,h⟩
section
variable {prog:Program}{w:World}{A:Around}{E:di}{s:Shared}
theorem BB{l:Addr}{items:Array Value}{Q:di}(hL:s.heap.IsTuple l items)
 (h:∀ h',IsEnum h' (s.heap.objs.size+1) s.heap.objs.size 0 .none->h'.IsTupleIter s.heap.objs.size l 0->h'.objs.size=s.heap.objs.size+2->(∀ b o,s.heap.get? b=some o->h'.get? b=some o)->Q (.ref (s.heap.objs.size+1)) { s with heap:=h'}) :
 wpAny (model prog w) A (call (.type "enumerate") [.ref l]) Q E s:=by
 obtain⟨⟨c,dct,dt,sl⟩,hl,hc,n,hd⟩:=hL
 replace hc:c = .type "tuple":=hc
 replace hd:dt = .seq items n:=hd
 subst hc hd;refine callType_new F.called_enumerate (by decide) (F.typeCall_enumerate_1 _) (F.newCall_enumerate_1 _) (fun obj=>F.args_object_init_2 obj _) F.entry_enumerate_new (qb l items n dct sl) ⟨hl,?_⟩
 have hz:(s.heap.push { cls:=.type "tuple_iterator",data:=.fields #[.ref l,.int 0 0]}).objs.size=s.heap.objs.size+1:=Heap.size_push ..;show _/\_;rw[hz];have he:IsEnum ((s.heap.push { cls:=.type "tuple_iterator",data:=.fields #[.ref l,.int 0 0]}).push { cls:=.type "enumerate",data:=.fields #[.none,.bool false,.ref s.heap.objs.size,rawInt 0,.none,.none]}) (s.heap.objs.size+1) s.heap.objs.size 0 .none:=by
  have z:=Heap.get?_push_size (s.heap.push { cls:=.type "tuple_iterator",data:=.fields #[.ref l,.int 0 0]}) (o:={ cls:=.type "enumerate",data:=.fields #[.none,.bool false,.ref s.heap.objs.size,rawInt 0,.none,.none]}) rfl;rw[hz]at z;exact z
 exact⟨⟨_,he,rfl⟩,h _ he ⟨_,Heap.get?_push_of_some _ (Heap.get?_push_size _ rfl),rfl,rfl⟩ (by rw[Heap.size_push,hz]) fun b o x=>Heap.get?_push_of_some _ (Heap.get?_push_of_some _ x)⟩
end
def Eu(K:bX)(a:Addr):It :=
 ⟨fun i H=>∃ xs x,aQ K H a xs/\xs[i]?=some x,fun i H v H'=>∃ T x,v = .ref T/\H T=none/\H' = upd H T (.tup [.int (i:Int),x])/\∀ xs,aQ K H a xs->xs[i]?=some x,fun i H=>∃ xs,aQ K H a xs/\xs.length=i⟩
theorem BC{P:Program}{w:World}{K:bX}{elts:List Expr}{k:Nat}{pos:Pos}(a e it:Addr)(hne:e≠it):
 Turn P w K (.Tuple elts k pos) (Eu K a) [e,it] e (fun i h=>(∃ old,IsEnum h e it (i:Int) old)/\h.IsTupleIter it a i) where
 mem:=by simp
 obj:=fun i h st b hb=>by
  obtain⟨⟨old,he⟩,o,ho,c,d⟩:=st;have hb' : b=e\/b=it:=by simpa using hb
  rcases hb' with rfl|rfl
  ·exact⟨_,he,fun v z=>by cases z⟩
  ·exact⟨o,ho,fun v z=>by rw[d]at z;cases z⟩
 keep:=fun i h h' st k=>by
  obtain⟨⟨old,he⟩,hit⟩:=st;exact⟨⟨old,k e (by simp) _ he⟩,hit.at fun o x=>k it (by simp) o x⟩
 item:=by
  intro X hP hw hK hc i pq s σ H E I hf st hg;subst hP hw hK;obtain⟨xs,x,hq,hx⟩:=hg;obtain⟨its,rv,p,hz⟩:=I.tuple hq;obtain⟨u,hu,ru⟩:=rv.get hx;obtain⟨⟨old,he⟩,hit⟩:=st;have pT:s.heap.IsTuple a its.toArray:=p;have hai:a≠it:=fun z=>by
   obtain⟨o1,h1,_,_,d1⟩:=pT;obtain⟨o2,h2,_,d2⟩:=hit;rw[z,h2]at h1;cases h1;rw[d2]at d1;cases d1
  have Ye:e∉[it,a]:=fun z=>by
   have z' : e=it\/e=a:=by simpa using z
   rcases z' with z' | z'
   ·exact hne z'
   ·obtain⟨o1,h1,_,_,d1⟩:=pT;rw[<-z',he]at h1;cases h1;cases d1
  refine wpAny_pyNext_enum_itemD (rL (A:=X.A.in1) (I.ok.hd hc) it a hai its.toArray) he ⟨hit,pT⟩ (by have:=(iH.mp hu).1;simpa using this) hne Ye fun y h1 tk hy ho M4 hT hsz hk=>?_
  have Yg:y=u:=by
   have z:its.toArray[i]?=some u:=by simpa using hu
   rw[hy]at z;exact Option.some.inj z
  subst Yg;refine⟨_,rfl,wpAny_letOwnedTupleGo_enum ho fun h2 Kq hs2=>?_⟩
  have P7:s.heap.objs.size≠e:=Nat.ne_of_gt (Heap.lt_size he);have hT2:h2.get? s.heap.objs.size=some { cls:=.type "tuple",data:=.seq #[.int i tk,y]}:=(hs2.2 _ P7).trans hT;refine⟨.ref s.heap.objs.size,upd H s.heap.objs.size (.tup [.int (i:Int),x]),I.yields (wr:=[e,it]) (t':=tk+1) (fun b o hb q=>?_) hf (Nat.le_refl _) ?_,rfl,⟨_,x,rfl,I.fresh,rfl,fun ys hy=>by rw[I.DY hy hq];exact hx⟩,⟨⟨y,by simpa using Kq⟩,?_⟩,fun b hb=>?_⟩
  ·have GQ:b≠e:=fun z=>hb (by simp[z])
   have M5:b≠it:=fun z=>hb (by simp[z])
   exact(hs2.2 b GQ).trans (hk b o GQ M5 q)
  ·exact⟨dl rfl,[.int i tk,y],.cons ⟨_,rfl⟩ (.cons ru .nil),⟨_,hT2,rfl,_,rfl⟩⟩
  ·exact M4.1.at fun o q=>(hs2.2 it (Ne.symm hne)).trans q
  ·rw[ao]
   ·exact(hf b hb).1
   ·have hb' : b=e\/b=it:=by simpa using hb
    rcases hb' with rfl|rfl
    ·exact Ne.symm P7
    ·obtain⟨o,q,_⟩:=hit;exact Nat.ne_of_lt (Heap.lt_size q)
 done:=by
  intro X hP hw hK hc i pq s σ H E I hf st hg;subst hP hw hK;obtain⟨xs,hq,hx⟩:=hg;obtain⟨its,rv,p,hz⟩:=I.tuple hq;obtain⟨⟨old,he⟩,hit⟩:=st;have pT:s.heap.IsTuple a its.toArray:=p;have hai:a≠it:=fun z=>by
   obtain⟨o1,h1,_,_,d1⟩:=pT;obtain⟨o2,h2,_,d2⟩:=hit;rw[z,h2]at h1;cases h1;rw[d2]at d1;cases d1
  obtain⟨f0,f1,f2,f3,f4,f5⟩:=hf it (by simp)
  have hl:=rv.length;have hi:i=its.toArray.size:=by rw[List.size_toArray];lia
  subst hi;exact wpAny_pyNext_enum_endD (rL (A:=X.A.in1) (I.ok.hd hc) it a hai its.toArray) he ⟨hit,pT⟩ fun h' eb=>⟨rfl,I.turned (t':=s.toks) (fun b o hb e=>eb b o hb e) f0 f1 f3 f4 f5⟩
 self:=fun _ _ _ _ _ st h=>by
  obtain⟨⟨old,he⟩,_⟩:=st;exact wpAny_pyIter_enum he h
section
variable {X:Cx}{elts:List Expr}{n:Nat}{tp:Pos}
def Ni(K:bX)(ta:TA):TI:=fun σ H R=>ta σ H fun vs H1=>∃ a,vs=[.ref a]/\(∃ xs,aQ K H1 a xs)/\R (Eu K a) H1
theorem zH(K:bX){a:Expr}{ta:TA}{p pos:Pos}(hg:Gl X "enumerate")(hm:X.mg "enumerate"=none)(ha:PA X [a] ta)(hs:starEach [a] X.env=[(false,eval a X.env)]:=by rfl)(hK:X.K=K:=by rfl):
 PI X (.Tuple elts n tp) (.Call (.Name "enumerate" p) [a] [] pos) (Ni K ta):=by
 subst hK;intro pq s σ H R I h;refine Call_ (lq I hg hm boot_enumerate (PyProof.Rows.callWith_type1 (cK (ha pos pq s σ H _ I h) fun us s1 ⟨vs,H1,I1,r1,q1⟩=>?_) hs rfl))
 obtain⟨a,e,⟨xs,hq⟩,q⟩:=q1;subst e;cases r1 with
 | cons r rr =>
   cases rr;cases r;obtain⟨its,rv,pl,hz⟩:=I1.tuple hq;refine BB (show s1.heap.IsTuple a its.toArray from pl) fun h' he hit hsz hk=>?_
   have I2:Inv X pq σ H1 { s1 with heap:=h'}:=I1.kept (t':=s1.toks) hk
   refine wpAny_pyIter_enum he ⟨_,[s1.heap.objs.size+1,s1.heap.objs.size],_,_,H1,rfl,I2,BC a _ _ (Nat.succ_ne_self _),⟨⟨_,he⟩,hit⟩,fun b hb=>?_,q⟩
   have hb' : b=s1.heap.objs.size+1\/b=s1.heap.objs.size:=by simpa using hb
   have P9:s1.heap.objs.size<=b:=by
    rcases hb' with rfl|rfl
    ·exact Nat.le_succ _
    ·exact Nat.le_refl _
   exact I1.DZ P9 (I1.hok.fresh P9)
end
section
variable {K:bX}{a:Addr}{xs:List V}{g:TG}{tt:TT}{te:TE}{n:Nat}{fr:St}{D:Addr}{Q:Hp->Prop}{H1:Hp}
theorem BD(Pv:Nat->List V->Hp->Prop)(h0:Pv 0 [] H1)(hl:∀ i acc H,i<=xs.length->Pv i acc H->aQ K H a xs/\H D=some (.lst acc)/\acc.length<=i)(hz:xs.length<=sizeLine)
 (hs:∀ i x T acc H,xs[i]?=some x->Pv i acc H->H T=none->g (.ref T) (List.replicate n none++fr) (upd H T (.tup [.int (i:Int),x])) fun σ2 H2=>σ2.drop n=fr/\tt σ2 H2 fun b H3 =>
  if b=true then te σ2 H3 fun v H4=>H4 D=some (.lst acc)/\Pv (i+1) (acc++[v]) (upd H4 D (.lst (acc++[v]))) else Pv (i+1) acc H3)
 (hd:∀ acc H,Pv xs.length acc H->Q H):iW (Eu K a) g tt te n fr D Q H1:=by
 refine⟨fun i m acc H=>m=xs.length-i/\i<=xs.length/\Pv i acc H,⟨xs.length,by simp,Nat.zero_le _,h0⟩,?_⟩
 rintro i m acc H ⟨rfl,hi,p⟩;obtain⟨q,hD,ha⟩:=hl i acc H hi p;refine⟨hD,?_⟩
 by_cases hlt:i<xs.length
 ·refine .inr ⟨⟨xs,xs[i],q,by simp[hlt]⟩,by lia,Pv (i+1),fun acc' H' p'=>⟨xs.length-(i+1),by lia,rfl,hlt,p'⟩,fun v H' y=>?_⟩
  obtain⟨T,x,rfl,hT,rfl,y⟩:=y;exact hs i x T acc _ (y xs q) p hT
 ·have e:i=xs.length:=by lia
  subst e;exact .inl ⟨⟨xs,q,rfl⟩,hd acc H p⟩
end
end L2
namespace RM
variable {N:Net}
def Net.cut(N:Net)(C:Nat->Bool):Nat:=Ring.maskOf (fun k=>C (N.a k)^^C (N.b k)) N.n
def Net.par(N:Net)(q m:Nat):Bool:=bg (fun k=>q.testBit k&&m.testBit k) N.n
theorem my(q r m:Nat):N.par (q^^^r) m=(N.par q m^^N.par r m):=by
 unfold Net.par;rw[<-iX];refine aZ fun k _=>?_
 rw[Nat.testBit_xor];cases q.testBit k<;>cases r.testBit k<;>cases m.testBit k<;>rfl
theorem jP(m:Nat):N.par 0 m=false:=iP fun k _=>by simp
theorem Dr{k:Nat}(h:k<N.n)(m:Nat):N.par (2^k) m=m.testBit k:=by
 unfold Net.par;rw[lC h fun j _ hj=>by simp[Nat.testBit_two_pow,Ne.symm hj]]
 simp[Nat.testBit_two_pow]
theorem x6(C:Nat->Bool)(k:Nat):(N.cut C).testBit k=(decide (k<N.n)&&(C (N.a k)^^C (N.b k))):=Ring.mask_bit _ k _
theorem Nj(C:Nat->Bool):N.cut C<2^N.n:=Ring.mask_lt _ _
theorem Ew{C D:Nat->Bool}(h:∀ x,x<N.p->C x=D x):N.cut C=N.cut D:=by
 refine Nat.eq_of_testBit_eq fun k=>?_
 rw[x6,x6]
 by_cases hk:k<N.n
 ·rw[h _ (N.al k hk),h _ (N.bl k hk)]
 ·rw[cR hk];rfl
theorem zI{k:Nat}(hk:k<N.n)(hf:N.kc k=true):N.ring k=0:=fZ (fun j hj=>by
 rcases lD hj with e|e
 ·subst e;exact⟨hk,hf⟩
 ·exact e) (jN hk)
theorem Ex{m:Nat}(k:Nat):(m^^^N.cut fun x=>N.par (N.trail N.n x) m).testBit k=if k<N.n then N.par (N.ring k) m else m.testBit k:=by
 rw[Nat.testBit_xor,x6]
 by_cases hk:k<N.n
 ·rw[if_pos hk,cD hk,Bool.true_and];unfold Net.ring;rw[my,my,Dr hk];cases m.testBit k<;>cases N.par (N.trail N.n (N.a k)) m<;>cases N.par (N.trail N.n (N.b k)) m<;>rfl
 ·rw[if_neg hk,cR hk];simp
theorem zJ{m k:Nat}(hm:m<2^N.n)(h:(m^^^N.cut fun x=>N.par (N.trail N.n x) m).testBit k=true):k<N.n/\N.kc k=false/\N.par (N.ring k) m=true:=by
 rw[Ex]at h
 by_cases hk:k<N.n
 ·rw[if_pos hk]at h;refine⟨hk,?_,h⟩;cases hf:N.kc k with
  | false=>rfl
  | true =>
    rw[zI hk hf,jP]at h;cases h
 ·rw[if_neg hk]at h;exact absurd (bU hm h) hk
end RM
namespace Ring
def orM(ks:List Nat):Nat:=ks.foldl (fun m k=>m ||| 2^k) 0
theorem Hh(ks:List Nat)(j:Nat):∀ m,(ks.foldl (fun m k=>m ||| 2^k) m).testBit j=(m.testBit j || decide (j∈ks)):=by
 induction ks with
 | nil=>intro m;simp
 | cons k r ih =>
   intro m;rw[List.foldl_cons,ih,Nat.testBit_or,Nat.testBit_two_pow]
   by_cases h:k=j
   ·subst h;simp
   ·have h' : ¬ j=k:=fun z=>h z.symm
    simp[h,h']
theorem jm(ks:List Nat)(j:Nat):(orM ks).testBit j=decide (j∈ks):=by
 unfold orM;rw[Hh];simp
theorem zK(ks:List Nat){t:Nat}(h:t∉ks):orM (ks++[t])=orM ks^^^2^t:=Nat.eq_of_testBit_eq fun j=>by
 rw[Nat.testBit_xor,jm,jm,Nat.testBit_two_pow]
 by_cases e:t=j
 ·subst e;simp[h]
 ·have e' : ¬ j=t:=fun z=>e z.symm
  simp[e,e']
theorem BE(f:Nat->Bool)(n:Nat):orM ((List.range n).filter f)=maskOf f n:=Nat.eq_of_testBit_eq fun j=>by
 rw[jm,mask_bit,Bool.eq_iff_iff];simp
end Ring
namespace RM
variable {N:Net}
inductive Net.Walk(N:Net):List Nat->Nat->List Nat->Prop
 | one {v:Nat}:Net.Walk N [] v []
 | snoc {pre ks:List Nat} {v w t:Nat} (h:Net.Walk N pre v ks) (ht:t<N.n) (hn:t∉ks) (j:(N.a t=v/\N.b t=w)\/(N.b t=v/\N.a t=w)):Net.Walk N (pre++[v]) w (ks++[t])
theorem Net.Walk.len{pre ks:List Nat}{v:Nat}(h:N.Walk pre v ks):pre.length=ks.length:=by
 induction h with
 | one=>rfl
 | snoc _ _ _ _ ih=>rw[List.length_append,List.length_append,ih];rfl
theorem Net.Walk.lt{pre ks:List Nat}{v:Nat}(h:N.Walk pre v ks):∀ t∈ks,t<N.n:=by
 induction h with
 | one=>exact fun t ht=>nomatch ht
 | snoc _ ht _ _ ih =>
   intro s hs;rcases List.mem_append.mp hs with q|q
   ·exact ih s q
   ·have e:=List.mem_singleton.mp q;rw[e];exact ht
theorem Net.Walk.bd{pre ks:List Nat}{v:Nat}(h:N.Walk pre v ks):∀ i u,(pre++[v])[i]?=some u->∀ x,N.bd (Ring.orM (ks.drop i)) x=(decide (u=x)^^decide (v=x)):=by
 induction h with
 | one =>
   rename_i v
   intro i u hu x
   match i,hu with
   | 0,hu =>
     have e:v=u:=Option.some.inj hu;subst e;show N.bd 0 x=_;rw[j9];simp
   | i+1,hu=>simp at hu
 | snoc hw ht hn j ih =>
   rename_i pre ks v w t
   intro i u hu x;have hl:=hw.len
   by_cases hi:i<(pre++[v]).length
   ·rw[List.getElem?_append_left hi]at hu;have hi' : i<=ks.length:=by rw[List.length_append]at hi;simp at hi;lia
    rw[List.drop_append_of_le_length hi',Ring.zK _ (fun z=>hn (List.mem_of_mem_drop z)),eX,ih i u hu x,iY ht]
    have e:N.inc t x=(decide (v=x)^^decide (w=x)):=by
     unfold Net.inc;rcases j with⟨j1,j2⟩|⟨j1,j2⟩
     ·rw[j1,j2]
     ·rw[j1,j2];exact Bool.xor_comm _ _
    rw[e];cases decide (u=x)<;>cases decide (v=x)<;>cases decide (w=x)<;>rfl
   ·have hi2:i=(pre++[v]).length:=by
     have:=(iH.mp hu).1;rw[List.length_append]at this;simp at this hi ⊢
     lia
    rw[hi2,List.getElem?_append_right (Nat.le_refl _),Nat.sub_self]at hu;have e:w=u:=Option.some.inj hu;subst e;have:(ks++[t]).drop i=[]:=List.drop_eq_nil_of_le (by rw[hi2,List.length_append,List.length_append];simp;lia)
    rw[this];show N.bd 0 x=_;rw[j9];simp
structure Way(N:Net)(fQ:Nat)(pre:List Nat)(v:Nat)(ks:List Nat)(left:Nat):Prop where
 w:N.Walk pre v ks
 lt:fQ<2^N.n
 ev:N.cL fQ
 sub:∀ t∈ks,fQ.testBit t=true
 x8:left=fQ^^^Ring.orM ks
 nd:pre.Nodup
 Vs:∀ x∈pre++[v],x<N.p
 st:pre=[]->∃ t,t<N.n/\fQ.testBit t=true/\N.a t=v
section
variable {fQ left v:Nat}{pre ks:List Nat}
theorem Way.start{t:Nat}(lt:fQ<2^N.n)(ev:N.cL fQ)(hb:fQ.testBit t=true):Way N fQ [] (N.a t) [] fQ:=by
 have ht:=bU lt hb;refine⟨.one,lt,ev,(fun _ z=>nomatch z),?_,List.Pairwise.nil,fun x hx=>?_,fun _=>⟨t,ht,hb,rfl⟩⟩
 ·show fQ=fQ^^^0;simp
 ·have e:x=N.a t:=by simpa using hx
  rw[e];exact N.al t ht
theorem Way.oJ(h:Way N fQ pre v ks left)(t:Nat):left.testBit t=(fQ.testBit t && !decide (t∈ks)):=by
 rw[h.x8,Nat.testBit_xor,Ring.jm]
 by_cases hm:t∈ks
 ·rw[h.sub t hm,cD hm];rfl
 ·rw[cR hm];simp
theorem Way.KJ(h:Way N fQ pre v ks left):left<2^N.n:=cF fun k hk=>by
 rw[h.oJ,Bool.and_eq_true]at hk;exact bU h.lt hk.1
theorem Way.on(h:Way N fQ pre v ks left)(hv:v∉pre):∃ t,left.testBit t=true/\(N.a t=v\/N.b t=v):=by
 cases pre with
 | nil =>
   obtain⟨t,ht,hb,e⟩:=h.st rfl;have hk:ks=[]:=List.length_eq_zero_iff.mp (by rw[<-h.w.len];rfl)
   refine⟨t,?_,.inl e⟩;rw[h.oJ,hb,hk];simp
 | cons u r =>
   have hb:=h.w.bd 0 u rfl v;rw[List.drop_zero]at hb;have hu : ¬ u=v:=fun z=>hv (by rw[z];exact List.mem_cons_self)
   rw[cR hu,cD rfl]at hb;have Yh:v<N.p:=h.Vs v (gZ _ (List.mem_singleton.mpr rfl));have hl:N.bd left v=true:=by
    rw[h.x8,eX,h.ev v Yh,hb];rfl
   rw[Hg]at hl;have hp:=iG hl;obtain⟨k,hk,hkb,hx⟩:=oH (N:=N) (m:=left) (x:=v) (by lia)
   exact⟨k,hkb,hx⟩
theorem Way.go(h:Way N fQ pre v ks left)(hv:v∉pre){t w:Nat}(hb:left.testBit t=true)(j:(N.a t=v/\N.b t=w)\/(N.b t=v/\N.a t=w)):
 Way N fQ (pre++[v]) w (ks++[t]) (left^^^2^t):=by
 rw[h.oJ,Bool.and_eq_true]at hb;have hn:t∉ks:=by simpa using hb.2
 have ht:=bU h.lt hb.1;refine⟨.snoc h.w ht hn j,h.lt,h.ev,fun s hs=>?_,?_,?_,fun x hx=>?_,fun z=>?_⟩
 ·rcases List.mem_append.mp hs with q|q
  ·exact h.sub s q
  ·rw[List.mem_singleton.mp q];exact hb.1
 ·rw[Ring.zK _ hn,h.x8,Nat.xor_assoc]
 ·refine List.nodup_append.mpr ⟨h.nd,by simp,fun x hx y hy=>?_⟩
  have e:y=v:=by simpa using hy
  rw[e];exact fun z=>hv (z▸hx)
 ·rcases List.mem_append.mp hx with q|q
  ·exact h.Vs x q
  ·have e:x=w:=by simpa using q
   rw[e];rcases j with⟨_,j2⟩|⟨_,j2⟩
   ·rw[<-j2];exact N.bl t ht
   ·rw[<-j2];exact N.al t ht
 ·simp at z
theorem Way.closes(h:Way N fQ pre v ks left){i:Nat}(hi:pre[i]?=some v):Ring.orM (ks.drop i)≠0/\N.cL (Ring.orM (ks.drop i))/\Ring.orM (ks.drop i)<2^N.n/\∀ k,(Ring.orM (ks.drop i)).testBit k=true->fQ.testBit k=true:=by
 have zL:=(iH.mp hi).1;have hl:=h.w.len;have lF:∀ k,(Ring.orM (ks.drop i)).testBit k=true->k∈ks:=fun k hk=>by
  rw[Ring.jm]at hk;exact List.mem_of_mem_drop (iG hk)
 refine⟨fun z=>?_,fun x _=>?_,cF fun k hk=>h.w.lt k (lF k hk),fun k hk=>h.sub k (lF k hk)⟩
 ·have hne:ks.drop i≠[]:=fun q=>by
   have:=List.drop_eq_nil_iff.mp q
   lia
  obtain⟨k,hk⟩:=List.exists_mem_of_ne_nil _ hne;have:=Ring.jm (ks.drop i) k;rw[z,cD hk]at this;simp at this
 ·rw[h.w.bd i v (by rw[List.getElem?_append_left zL];exact hi) x]
  simp
end
end RM
namespace Ring
open PySem L2
theorem Dt{p:Nat}{ts:List c9}{g:aA p ts}{q m:Nat}(hm:m<2^ts.length):decide ((bx ((q&&&m:Nat):Int)).length%2=1)=g.N.par q m:=by
 rw[ud (n:=ts.length) (Nat.and_lt_two_pow q hm)];unfold RM.Net.par;rw[RM.tZ];have e:RM.cnt (fun k=>(q&&&m).testBit k) ts.length=RM.cnt (fun k=>q.testBit k&&m.testBit k) g.N.n:=RM.fL fun k _=>by rw[Nat.testBit_and]
 rw[e]
def xorL(rs:List Nat):Nat:=rs.foldl (fun m r=>m^^^r) 0
theorem Ey(rs:List Nat):∀ m,rs.foldl (fun m r=>m^^^r) m=m^^^xorL rs:=by
 induction rs with
 | nil=>intro m;show m=m^^^0;simp
 | cons r rs ih =>
   intro m;show rs.foldl (fun m r=>m^^^r) (m^^^r)=m^^^rs.foldl (fun m r=>m^^^r) (0^^^r)
   rw[ih,ih,Nat.zero_xor,Nat.xor_assoc]
theorem xorL_cons(rs:List Nat)(r:Nat):xorL (r::rs)=r^^^xorL rs:=by
 show rs.foldl (fun m r=>m^^^r) (0^^^r)=_
 rw[Ey,Nat.zero_xor]
theorem Hi(l:List Nat){i:Nat}(h:i<=l.length):rT (az l) (some (i:Int)) none=az (l.drop i):=by
 unfold rT;rw[HT.J9,HT.Gx,aF,Nat.min_eq_left h];unfold az;rw[<-List.map_drop,<-List.map_take,List.take_of_length_le (by rw[List.length_drop];lia)]
end Ring
namespace L2
open PySem PySem.Spec PyProof.Rows
section
variable {κ:Type}[DecidableEq κ]
def dB(kvs:List (κ×V))(k:κ):Option V:=(kvs.find? fun kv=>decide (kv.1=k)).map (·.2)
def putK(kvs:List (κ×V))(k:κ)(v:V):List (κ×V) :=
 if(kvs.any fun kv=>decide (kv.1=k))=true then kvs.map (fun kv=>if kv.1=k then(kv.1,v) else kv) else kvs++[(k,v)]
def dD(kvs:List (κ×V))(k:κ):List (κ×V):=kvs.filter fun kv=>decide (kv.1≠k)
theorem uf{k:κ}:dB ([]:List (κ×V)) k=none:=rfl
theorem cj{p:κ×V}{r:List (κ×V)}{k:κ}(e:p.1=k):dB (p::r) k=some p.2:=by simp[dB,List.find?_cons,e]
theorem b9{p:κ×V}{r:List (κ×V)}{k:κ}(e : ¬ p.1=k):dB (p::r) k=dB r k:=by simp[dB,List.find?_cons,e]
theorem gb(k:κ):∀ kvs:List (κ×V),(kvs.any fun kv=>decide (kv.1=k))=(dB kvs k).isSome
 | []=>rfl
 | p::r=>by
   rw[List.any_cons]
   by_cases e:p.1=k
   ·simp only[cj e,cD e,Bool.true_or,Option.isSome_some]
   ·rw[b9 e,cR e,Bool.false_or];exact gb k r
theorem zM(k j:κ)(y:V):∀ kvs:List (κ×V),dB (kvs.map fun kv=>if kv.1=k then(kv.1,y) else kv) j=(dB kvs j).map fun x=>if j=k then y else x
 | []=>rfl
 | p::r=>by
   have ih:=zM k j y r;rw[List.map_cons]
   by_cases h:p.1=k
   ·rw[if_pos h]
    by_cases e:p.1=j
    ·rw[cj (p:=(p.1,y)) e,cj e,Option.map_some,if_pos (e.symm.trans h)]
    ·rw[b9 (p:=(p.1,y)) e,b9 e,ih]
   ·rw[if_neg h]
    by_cases e:p.1=j
    ·rw[cj (p:=p) e,cj e,Option.map_some,if_neg (fun z=>h (e.trans z))]
    ·rw[b9 (p:=p) e,b9 e,ih]
theorem wR(k j:κ)(y:V):∀ kvs:List (κ×V),dB kvs k=none->dB (kvs++[(k,y)]) j=if j=k then some y else dB kvs j
 | [],_=>by
   by_cases e:k=j
   ·rw[if_pos e.symm];exact cj (p:=(k,y)) e
   ·rw[if_neg (fun z=>e z.symm)];exact b9 (p:=(k,y)) e
 | p::r,hn=>by
   rw[List.cons_append];have hk : ¬ p.1=k:=fun z=>by rw[cj z]at hn;cases hn
   rw[b9 hk]at hn;have ih:=wR k j y r hn
   by_cases e:p.1=j
   ·rw[cj e,cj e,if_neg (fun z=>hk (e.trans z))]
   ·rw[b9 e,b9 e,ih]
theorem Hj(kvs:List (κ×V))(k j:κ)(y:V):dB (putK kvs k y) j=if j=k then some y else dB kvs j:=by
 unfold putK
 by_cases a:(kvs.any fun kv=>decide (kv.1=k))=true
 ·rw[if_pos a,zM];rw[gb]at a
  by_cases e:j=k
  ·obtain⟨x,hx⟩:=Option.isSome_iff_exists.mp a;rw[if_pos e,e,hx,Option.map_some,if_pos rfl]
  ·rw[if_neg e];cases dB kvs j with
   | none=>rfl
   | some x=>rw[Option.map_some,if_neg e]
 ·rw[if_neg a];refine wR k j y kvs ?_;rw[gb]at a;cases q:dB kvs k with
  | none=>rfl
  | some x=>rw[q]at a;exact(a rfl).elim
theorem lG(kvs:List (κ×V))(k:κ)(v:V):(putK kvs k v).length<=kvs.length+1:=by
 unfold putK
 split
 ·rw[List.length_map];lia
 ·rw[List.length_append,List.length_cons,List.length_nil];lia
theorem zN{kvs:List (κ×V)}{k:κ}(v:V)(h:dB kvs k=none):putK kvs k v=kvs++[(k,v)]:=by
 unfold putK;rw[gb,h];exact if_neg (by decide)
theorem pN.qf{o:Option V}{u:Option Value}(r:pN o u):o.isSome=u.isSome:=by
 cases o with
 | none=>cases u with
   | none=>rfl
   | some _=>exact(show False from r).elim
 | some _=>cases u with
   | none=>exact(show False from r).elim
   | some _=>rfl
theorem pN.getD{o:Option V}{u:Option Value}{d:V}{d' : Value}(r:pN o u)(rd:RelV d d'):RelV (o.getD d) (u.getD d'):=by
 cases o with
 | none=>cases u with
   | none=>exact rd
   | some _=>exact(show False from r).elim
 | some _=>cases u with
   | none=>exact(show False from r).elim
   | some _=>exact r
theorem KV.val{kvs:List (κ×V)}{vs:List (κ×Value)}(r:KV kvs vs)(k:κ):pN (dB kvs k) (valueAt vs k):=by
 unfold KV at r
 induction r with
 | nil=>exact True.intro
 | @cons p q ps qs h t ih =>
   obtain⟨h1,h2⟩:=h
   by_cases e:p.1=k
   ·have e' : q.1=k:=h1.symm.trans e;have b:valueAt (q::qs) k=some q.2:=by simp[valueAt,List.find?_cons,e']
    rw[cj e,b];exact h2
   ·have e' : ¬ q.1=k:=fun z=>e (h1.trans z)
    have b:valueAt (q::qs) k=valueAt qs k:=by simp[valueAt,List.find?_cons,e']
    rw[b9 e,b];exact ih
theorem KV.any{kvs:List (κ×V)}{vs:List (κ×Value)}(r:KV kvs vs)(k:κ):(kvs.any fun kv=>decide (kv.1=k))=vs.any fun kv=>decide (kv.1=k):=by
 unfold KV at r
 induction r with
 | nil=>rfl
 | cons h t ih=>rw[List.any_cons,List.any_cons,ih,h.1]
theorem KV.repl{kvs:List (κ×V)}{vs:List (κ×Value)}(r:KV kvs vs)(k:κ){y:V}{u:Value}(ry:RelV y u):
 KV (kvs.map fun kv=>if kv.1=k then(kv.1,y) else kv) (vs.map fun kv=>if kv.1=k then(kv.1,u) else kv):=by
 unfold KV at r ⊢
 induction r with
 | nil=>exact .nil
 | @cons p q ps qs h t ih =>
   rw[List.map_cons,List.map_cons];refine .cons ?_ ih;obtain⟨h1,h2⟩:=h
   by_cases e:p.1=k
   ·rw[if_pos e,if_pos (h1.symm.trans e)];exact⟨h1,ry⟩
   ·rw[if_neg e,if_neg (fun z=>e (h1.trans z))];exact⟨h1,h2⟩
theorem KV.put{kvs:List (κ×V)}{vs:List (κ×Value)}(r:KV kvs vs)(k:κ){y:V}{u:Value}(ry:RelV y u):KV (putK kvs k y) (stored vs k u):=by
 unfold putK stored;rw[r.any k]
 by_cases e:(vs.any fun kv=>decide (kv.1=k))=true
 ·rw[if_pos e,if_pos e];exact r.repl k ry
 ·rw[if_neg e,if_neg e];exact Paired.snoc r ⟨rfl,ry⟩
theorem KV.length{kvs:List (κ×V)}{vs:List (κ×Value)}(r:KV kvs vs):kvs.length=vs.length:=Paired.length r
theorem Hl(kvs:List (κ×V))(k:κ):(dD kvs k).length<=kvs.length:=List.length_filter_le _ _
end
theorem ug{P:Program}{w:World}{k:Key}{u:Value}(r:RelV (kV k) u):(ck P w).is k u=true:=by
 cases k with
 | inl i=>obtain⟨t,e⟩:=(show ∃ t,u=Value.int i t from r);subst e;exact yU P w i t
 | inr x=>obtain⟨t,e⟩:=(show ∃ t,u=Value.str x t from r);subst e;exact yV P w x t
theorem wU{P:Program}{w:World}:∀{ks:List Key} {us:List Value},Vals (ks.map kV) us->ItemsAre (ck P w) ks us
 | [],_,r=>by rw[List.map_nil]at r;cases r;exact .nil
 | k::ks,_,r=>by
   rw[List.map_cons]at r;cases r with
   | cons h t=>exact .cons (ug h) (wU t)
abbrev KT(H:Hp):List (List Key×V)->List (List Key×Addr×Value)->Prop:=Paired fun p q=>p.1=q.1/\H q.2.1=some (.tup (p.1.map kV))/\RelV p.2 q.2.2
theorem KT.val{H:Hp}{kvs:List (List Key×V)}{xs:List (List Key×Addr×Value)}(r:KT H kvs xs)(k:List Key):pN (dB kvs k) ((atKey xs k).map (·.2)):=by
 induction r with
 | nil=>exact True.intro
 | @cons p q ps qs h t ih =>
   obtain⟨h1,_,h2⟩:=h
   by_cases e:p.1=k
   ·have e' : q.1=k:=h1.symm.trans e;have b:atKey (q::qs) k=some q.2:=by simp[atKey,List.find?_cons,e']
    rw[cj e,b];exact h2
   ·have e' : ¬ q.1=k:=fun z=>e (h1.trans z)
    have b:atKey (q::qs) k=atKey qs k:=by simp[atKey,List.find?_cons,e']
    rw[b9 e,b];exact ih
theorem KT.repl{H:Hp}{kvs:List (List Key×V)}{xs:List (List Key×Addr×Value)}(r:KT H kvs xs)(k:List Key){y:V}{u:Value}(ry:RelV y u):
 KT H (kvs.map fun kv=>if kv.1=k then(kv.1,y) else kv) (xs.map (putAt k u)):=by
 induction r with
 | nil=>exact .nil
 | @cons p q ps qs h t ih =>
   rw[List.map_cons,List.map_cons];refine .cons ?_ ih;obtain⟨h1,h2,h3⟩:=h;unfold putAt
   by_cases e:p.1=k
   ·rw[if_pos e,if_pos (h1.symm.trans e)];exact⟨h1,h2,ry⟩
   ·rw[if_neg e,if_neg (fun z=>e (h1.trans z))];exact⟨h1,h2,h3⟩
theorem KT.put{H:Hp}{kvs:List (List Key×V)}{xs:List (List Key×Addr×Value)}(r:KT H kvs xs)(k:List Key){b:Addr}{y:V}{u:Value}(hb:H b=some (.tup (k.map kV)))(ry:RelV y u):
 KT H (putK kvs k y) (storedH xs k b u):=by
 have e:(kvs.any fun kv=>decide (kv.1=k))=(atKey xs k).isSome:=by
  rw[gb,(r.val k).qf,Option.isSome_map]
 unfold putK storedH;rw[e]
 by_cases q:(atKey xs k).isSome=true
 ·rw[if_pos q,if_pos q];exact r.repl k ry
 ·rw[if_neg q,if_neg q];exact Paired.snoc r ⟨rfl,hb,ry⟩
theorem KT.keeps{H H' : Hp}{kvs:List (List Key×V)}{xs:List (List Key×Addr×Value)}(r:KT H kvs xs)(ht:∀ b ys,H b=some (.tup ys)->H' b=some (.tup ys)):KT H' kvs xs :=
 Paired.xG r fun _ _ z=>⟨z.1,ht _ _ z.2.1,z.2.2⟩
section
variable {P:Program}{w:World}{H:Hp}{h:Heap}{a:Addr}
theorem L3{u:HO}(ok:l8 P w H h)(e:Rd H a u):bz P w H h a u:=e.ok ok
theorem uh{kvs:List (Key×V)}(ok:l8 P w H h)(e:Rd H a (.dK kvs)):kvs.length<=sizeLine/\(a==sysModules)=false/\∃ vs,KV kvs vs/\h.DictOf (ck P w) a vs :=
 show bz P w H h a (.dK kvs) from L3 ok e
theorem L4{kvs:List (Key×V)}(ok:l8 P w H h)(e:H a=some (.dK kvs)):kvs.length<=sizeLine/\(a==sysModules)=false/\∃ vs,KV kvs vs/\h.DictOf (ck P w) a vs:=uh ok (.inl e)
theorem lH{ks:List Key}(ok:l8 P w H h)(e:H a=some (.tup (ks.map kV))):(tupleKind (ck P w)).is h ks a:=by
 obtain⟨_,its,r,o,h1,h2,n,h3⟩:=(show bz P w H h a (.tup (ks.map kV)) from ok a _ e)
 exact⟨o,its.toArray,n,h1,h2,h3,by simpa using wU r⟩
theorem um{kvs:List (List Key×V)}(ok:l8 P w H h)(e:Rd H a (.dT kvs)):kvs.length<=sizeLine/\(a==sysModules)=false/\
 ∃ xs,KT H kvs xs/\h.DictOfH (tupleKind (ck P w)) a xs:=by
 obtain⟨z,y,xs,r,o,es,ep,h1,h2,h3,h4,h5⟩:=(show bz P w H h a (.dT kvs) from L3 ok e)
 refine⟨z,y,xs,r,o,es,ep,h1,h2,h3,h4,fun x hx=>?_,h5⟩
 have all:∀{l:List (List Key×V)} {m:List (List Key×Addr×Value)},KT H l m->∀ x∈m,(tupleKind (ck P w)).is h x.1 x.2.1:=by
  intro l m q
  induction q with
  | nil=>intro x hx;exact nomatch hx
  | @cons p q ps qs hq t ih =>
    intro x hx;rcases List.mem_cons.mp hx with e|hx
    ·subst e;exact lH ok (by rw[<-hq.1];exact hq.2.1)
    ·exact ih x hx
 exact all r x hx
theorem Ho{kvs:List (List Key×V)}(ok:l8 P w H h)(e:H a=some (.dT kvs)):kvs.length<=sizeLine/\(a==sysModules)=false/\
 ∃ xs,KT H kvs xs/\h.DictOfH (tupleKind (ck P w)) a xs:=um ok (.inl e)
end
def ny(H:Hp)(a:Addr)(y:V)(r:Option V):Prop :=
 (∃ kvs k,Rd H a (.dK kvs)/\y=kV k/\r=dB kvs k)\/∃ kvs k b,Rd H a (.dT kvs)/\y = .ref b/\H b=some (.tup (k.map kV))/\r=dB kvs k
def zO(H:Hp)(a:Addr)(y v:V)(H' : Hp):Prop :=
 (∃ kvs k,H a=some (.dK kvs)/\y=kV k/\kvs.length<sizeLine/\H' = upd H a (.dK (putK kvs k v)))\/
 ∃ kvs k b,H a=some (.dT kvs)/\y = .ref b/\H b=some (.tup (k.map kV))/\kvs.length<sizeLine/\H' = upd H a (.dT (putK kvs k v))
theorem ny.k{H:Hp}{a:Addr}{kvs:List (Key×V)}{k:Key}(e:H a=some (.dK kvs)):ny H a (kV k) (dB kvs k):=.inl ⟨kvs,k,.inl e,rfl,rfl⟩
theorem zO.k{H:Hp}{a:Addr}{kvs:List (Key×V)}{k:Key}{v:V}(e:H a=some (.dK kvs))(hl:kvs.length<sizeLine):zO H a (kV k) v (upd H a (.dK (putK kvs k v))):=.inl ⟨kvs,k,e,rfl,hl,rfl⟩
theorem zO.t{H:Hp}{a b:Addr}{kvs:List (List Key×V)}{k:List Key}{v:V}(e:H a=some (.dT kvs))(eb:H b=some (.tup (k.map kV)))(hl:kvs.length<sizeLine):
 zO H a (.ref b) v (upd H a (.dT (putK kvs k v))):=.inr ⟨kvs,k,b,e,rfl,eb,hl,rfl⟩
section
variable {X:Cx}{pq:aR}{σ:St}{H:Hp}{s:Shared}{a:Addr}{y v:V}{u r:Value}{o:Option V}{A:Around}{E:di}
theorem Inv.big(I:Inv X pq σ H s):sysModules<s.heap.objs.size:=by
 have h:mainGlobals<s.heap.objs.size:=(I.mod.glob.keeps I.bk).lt;exact Nat.lt_trans (by decide) h
theorem Ez{Q:di}(hu:A.units+1<cLine)(I:Inv X pq σ H s)(g:ny H a y (some v))(ry:RelV y u)(h:∀ w' s',Inv X pq σ H s'->RelV v w'->Q w' s'):
 wpAny (model X.prog X.w) A (getItem (.ref a) u) Q E s:=by
 rcases g with⟨kvs,k,e,ey,l⟩|⟨kvs,k,b,e,ey,eb,l⟩
 ·subst ey;obtain⟨z,hd,vs,rel,dd⟩:=uh I.hok e;obtain⟨w',hw,rw'⟩:=pN.some_of (v:=v) (o:=valueAt vs k) (by rw[l];exact rel.val k)
  exact wpAny_getItem_of (ug ry) dd.mapOf hw (h w' _ (I.tok _) rw')
 ·subst ey;cases(show u=Value.ref b from ry)
  obtain⟨z,hd,xs,rel,dd⟩:=um I.hok e;obtain⟨w',hw,rw'⟩:=pN.some_of (v:=v) (o:=(atKey xs k).map (·.2)) (by rw[l];exact rel.val k)
  obtain⟨p,hp,Ou⟩:=vn.mp hw;refine wpAny_getItem_heap (tupleKind_room_in1 hu) (lH I.hok eb) dd hp ?_;rw[Ou];exact h w' _ (I.tok _) rw'
theorem KL{Q:di}(hu:A.units+1<cLine)(I:Inv X pq σ H s)(g:ny H a y o)(ry:RelV y u)(h:∀ s',Inv X pq σ H s'->Q (.bool (!o.isSome)) s'):
 wpAny (model X.prog X.w) A (compareOp .NotIn u (.ref a)) Q E s:=by
 rcases g with⟨kvs,k,e,ey,l⟩|⟨kvs,k,b,e,ey,eb,l⟩
 ·subst ey;obtain⟨z,hd,vs,rel,dd⟩:=uh I.hok e;refine wpAny_notIn_of (ug ry) hd dd.mapOf ?_;rw[<-(rel.val k).qf,<-l];exact h _ (I.tok _)
 ·subst ey;cases(show u=Value.ref b from ry)
  obtain⟨z,hd,xs,rel,dd⟩:=um I.hok e;refine wpAny_notIn_heap (tupleKind_room_in1 hu) (lH I.hok eb) hd dd ?_;have q:=(rel.val k).qf;rw[Option.isSome_map]at q;rw[<-q,<-l];exact h _ (I.tok _)
theorem oM{h' : Heap}{t' : Nat}{ob:HO}(I:Inv X pq σ H s)(mu:OX (H a))(hs:Heap.SameBut a s.heap h')(he:∃ q,h'.get? a=some q)(new:bz X.prog X.w (upd H a ob) h' a ob):
 Inv X pq σ (upd H a ob) { s with heap:=h',toks:=t'} :=
 I.write (x:=a) (e:=a) mu (.inl rfl) (fun b q hb z=>(hs.2 b hb).trans z) he new
theorem Hq{P:Program}{w:World}{H' : Hp}{h' : Heap}{kvs:List (Key×V)}{vs:List (Key×Value)}(z:kvs.length<=sizeLine)(hd:(a==sysModules)=false)(rel:KV kvs vs)(dd:h'.DictOf (ck P w) a vs):
 bz P w H' h' a (.dK kvs):=⟨z,hd,vs,rel,dd⟩
theorem EA{H' : Hp}{Q:Unit->Shared->Prop}(hu:A.units+1<cLine)(I:Inv X pq σ H s)(g:zO H a y v H')(ry:RelV y u)(rv:RelV v r)(h:∀ s',Inv X pq σ H' s'->Q () s'):
 wpAny (model X.prog X.w) A (setItem (.ref a) u r) Q E s:=by
 rcases g with⟨kvs,k,e,ey,l,eH⟩|⟨kvs,k,b,e,ey,eb,l,eH⟩
 ·subst ey eH;obtain⟨z,hd,vs,rel,dd⟩:=L4 I.hok e;have hz:vs.length<=sizeLine:=by rw[<-rel.length];exact z
  have hl:(putK kvs k v).length<=sizeLine:=by have:=lG kvs k v;lia
  refine wpAny_setItem_pairs (hsz:=hz) (ug ry) dd fun h' KN hs=>h _ ?_
  have he:∃ q,h'.get? a=some q:=let⟨q,_,_,hq,_⟩:=KN;⟨q,hq⟩;exact oM I (by rw[e];exact True.intro) hs he (Hq hl hd (rel.put k rv) KN)
 ·subst ey eH;cases(show u=Value.ref b from ry)
  obtain⟨z,hd,xs,rel,dd⟩:=Ho I.hok e;have hz:xs.length<=sizeLine:=by rw[<-Paired.length rel];exact z
  have hl:(putK kvs k v).length<=sizeLine:=by have:=lG kvs k v;lia
  refine wpAny_setItem_heap (hsz:=hz) (tupleKind_room_in1 hu) (lH I.hok eb) dd fun h' KN hs=>h _ ?_
  obtain⟨q,es,ep,hq,h2,h3,h4,_,h5⟩:=KN;refine oM I (by rw[e];exact True.intro) hs ⟨q,hq⟩ ⟨hl,hd,_,(rel.put k eb rv).keeps fun c ys ec=>?_,q,es,ep,hq,h2,h3,h4,h5⟩
  rw[ao (aS ec e (fun z=>nomatch z))]
  exact ec
end
def Qc(i:Expr):Prop:=∀ ov iv,subscripted i false ov iv=operate [ov,iv] (getItem ov iv)
theorem KO{prog:Program}{w:World}{A:Around}{E:di}{s:Shared}{env:Env}{value slice:Expr}{pos:Pos}{T id:String}{Q:di}
 (hl:typeLookup (.type T) "__getitem__"=pure (some (.builtin id))) (hs:Qc slice)
 (h:wpAny (model prog w) A (eval value env) (fun o s₁=>wpAny (model prog w) A (eval slice env) (fun i s₂=>s₂.TypeIs o T/\wpAny (model prog w) A (getItem o i) Q E s₂) E s₁) E s) :
 wpAny (model prog w) A (eval (.Subscript value slice pos) env) Q E s:=by
 refine Subscript_ (wpAny_mono h (fun o s₁ h₁=>wpAny_mono h₁ (fun i s₂ h₂=>?_) fun _ _ x=>x) fun _ _ x=>x)
 obtain⟨hT,h₂⟩:=h₂;unfold subscriptTail;refine aP ?_;rw[getitemInPython_of_ne hT.not_modules];refine aP (wpAny_specialOf hT hl ?_);have fin:wpAny (model prog w) A (subscripted slice false o i) (fun r s₃=>wpAny (model prog w) A (letTemporaryGo value o r >>= fun _=>pure r) Q E s₃) E s₂:=by
  rw[hs o i];exact wpAny_operating (wpAny_mono h₂ (fun r s₃ h₃=>aP (wpAny_letTemporaryGo (wpAny_pure h₃))) fun _ _ x=>x)
 first
  | exact wpAny_pure (aP fin)
  | exact aP (wpAny_pure (aP fin))
  | exact aP fin
theorem zP{X:Cx}{pq:aR}{σ:St}{H:Hp}{s:Shared}{a:Addr}{y:V}{o:Option V}(I:Inv X pq σ H s)(g:ny H a y o):s.TypeIs (.ref a) "dict":=by
 rcases g with⟨kvs,k,e,_,_⟩|⟨kvs,k,b,e,_,_,_⟩
 ·obtain⟨_,_,vs,_,dd⟩:=uh I.hok e;exact dd.typeIs
 ·obtain⟨_,_,xs,_,dd⟩:=um I.hok e;exact dd.typeIs
def Qd(td ty:TE):TE:=fun σ H Q=>td σ H fun x H1=>ty σ H1 fun y H2=>∃ a v,x = .ref a/\ny H2 a y (some v)/\Q v H2
def KP(ty td:TE):TE:=fun σ H Q=>ty σ H fun y H1=>td σ H1 fun x H2=>∃ a o,x = .ref a/\ny H2 a y o/\Q (.bl (!o.isSome)) H2
def Qe(td ty tv:TE):TS:=fun D σ H=>tv σ H fun v H1=>td σ H1 fun x H2=>ty σ H2 fun y H3=>∃ a H4,x = .ref a/\zO H3 a y v H4/\D.nx σ H4
section
variable {X:Cx}{o i e value:Expr}{pos pos' tpos:Pos}{td ty tv:TE}
theorem Du(hu:X.A.units+1<cLine)(ho:PE X o td)(hi:PE X i ty)(hs:Qc i):PE X (.Subscript o i pos) (Qd td ty):=by
 intro pq s σ H Q I h;refine KO PySem.F.slot_dict_getitem.lookup hs (cK (ho pq s σ H _ I h) fun u s1 ⟨x,H1,I1,rx,q1⟩=>cK (hi pq s1 σ H1 _ I1 q1) fun iv s2 ⟨y,H2,I2,ry,a,v,ex,g,q2⟩=>?_)
 subst ex;obtain rfl:u=Value.ref a:=rx;exact⟨zP I2 g,Ez hu I2 g ry fun w' s3 I3 rw'=>⟨v,H2,I3,rw',q2⟩⟩
theorem EB(hu:X.A.units+1<cLine)(hi:PE X i ty)(ho:PE X o td):PC X .NotIn i o (KP ty td):=by
 intro pq s σ H Q I h;refine cK (hi pq s σ H _ I h) fun iv s1 ⟨y,H1,I1,ry,q1⟩=>cK (ho pq s1 σ H1 _ I1 q1) fun u s2 ⟨x,H2,I2,rx,a,ov,ex,g,q2⟩=>?_
 subst ex;obtain rfl:u=Value.ref a:=rx;exact KL hu I2 g ry fun s3 I3=>⟨.bl (!ov.isSome),H2,I3,rfl,q2⟩
theorem Dv(hu:X.A.units+1<cLine)(ho:PE X o td)(hi:PE X i ty)(hv:PE X value tv)(hs:swapsWith value (some (.Subscript o i pos')) pos.line X.env=pure false):
 PS X (.Assign [.Subscript o i pos'] value pos) (Qe td ty tv):=by
 intro pq s σ H D I h;refine wpAny_Assign_Subscript (cK (hv pq s σ H _ I h) fun r s1 ⟨v,H1,I1,rv,q1⟩=>cK (ho pq s1 σ H1 _ I1 q1) fun u s2 ⟨x,H2,I2,rx,q2⟩=>cK (hi pq s2 σ H2 _ I2 q2) fun iv s3 ⟨y,H3,I3,ry,a,H4,ex,g,q3⟩=>?_) hs
 subst ex;obtain rfl:u=Value.ref a:=rx;exact EA hu I3 g ry rv fun s4 I4=>⟨σ,H4,I4,q3⟩
end
theorem Hr{P:Program}{w:World}{H:Hp}(h:Heap)(hb:sysModules<h.objs.size):bz P w H (h.push { cls:=.type "dict",data:=.dict #[]}) h.objs.size (.dK []) :=
 ⟨Nat.zero_le _,beq_eq_false_iff_ne.mpr (Ne.symm (Nat.ne_of_lt hb)),[],.nil,Heap.DictOf.new h⟩
theorem Hs{P:Program}{w:World}{H:Hp}(h:Heap)(hb:sysModules<h.objs.size):bz P w H (h.push { cls:=.type "dict",data:=.dict #[]}) h.objs.size (.dT []) :=
 ⟨Nat.zero_le _,beq_eq_false_iff_ne.mpr (Ne.symm (Nat.ne_of_lt hb)),[],.nil,_,#[],0,Heap.get?_push_size _ rfl,⟨rfl,rfl,rfl⟩,rfl,rfl,List.nodup_nil⟩
def BG:List (TE×TE)->St->Hp->(List (V×V)->Hp->Prop)->Prop
 | [],_,H,Q=>Q [] H
 | (tk,tv)::r,σ,H,Q=>tk σ H fun x H1=>tv σ H1 fun y H2=>BG r σ H2 fun ps H3=>Q ((x,y)::ps) H3
abbrev VV:List (V×V)->List (Value×Value)->Prop:=Paired fun p q=>RelV p.1 q.1/\RelV p.2 q.2
def RS(X:Cx)(pos:Pos)(keys:List (Option Expr))(values:List Expr)(KQ:List (TE×TE)):Prop :=
 ∀(pq:aR) (s:Shared) (σ:St) (H:Hp) (Q:List (V×V)->Hp->Prop),Inv X pq σ H s->BG KQ σ H Q->
  wpAny (model X.prog X.w) X.A (evalPairs (pairTrees keys values X.env pos)) (fun vs s'=>∃ ps H',Inv X pq σ H' s'/\VV ps vs/\Q ps H') X.xe s
theorem KR{X:Cx}{pos:Pos}:RS X pos [] [] []:=fun pq s σ H Q I h=>pairTrees_nil_walk ⟨[],H,I,.nil,h⟩
theorem Ht{X:Cx}{pos:Pos}{k v:Expr}{ks:List (Option Expr)}{vs:List Expr}{tk tv:TE}{KQ:List (TE×TE)}(hk:PE X k tk)(hv:PE X v tv)(hr:RS X pos ks vs KQ):
 RS X pos (some k::ks) (v::vs) ((tk,tv)::KQ):=fun pq s σ H Q I h =>
 pairTrees_cons_walk (cK (hk pq s σ H _ I h) fun u s1 ⟨x,H1,I1,rx,q1⟩=>cK (hv pq s1 σ H1 _ I1 q1) fun w2 s2 ⟨y,H2,I2,ry,q2⟩ =>
  cK (hr pq s2 σ H2 _ I2 q2) fun ws s3 ⟨ps,H3,I3,rel,q3⟩=>⟨(x,y)::ps,H3,I3,.cons ⟨rx,ry⟩ rel,q3⟩)
def lJ(kvs more:List (Key×V)):List (Key×V):=more.foldl (fun acc kv=>putK acc kv.1 kv.2) kvs
theorem KV.merge:∀{more:List (Key×V)} {rs:List (Key×Value)} {kvs:List (Key×V)} {vs:List (Key×Value)},KV more rs->KV kvs vs->KV (lJ kvs more) (merged vs rs):=by
 intro more rs kvs vs r;unfold KV at r
 induction r generalizing kvs vs with
 | nil=>intro q;exact q
 | @cons p q ps qs h t ih =>
   intro r0;have e:KV (putK kvs p.1 p.2) (stored vs q.1 q.2):=by
    have:=r0.put p.1 h.2;rw[<-h.1];exact this
   exact ih e
theorem m6:∀(more kvs:List (Key×V)),(lJ kvs more).length<=kvs.length+more.length
 | [],kvs=>by show kvs.length<=kvs.length+0;lia
 | p::r,kvs=>by
   have h1:=m6 r (putK kvs p.1 p.2);have h2:=lG kvs p.1 p.2;show(lJ (putK kvs p.1 p.2) r).length<=_;rw[List.length_cons];lia
theorem uo{P:Program}{w:World}:∀{kvs:List (Key×V)} {ws:List (Value×Value)},VV (kvs.map fun kv=>(kV kv.1,kv.2)) ws->∃ rs,Carries (ck P w) ws rs/\KV kvs rs
 | [],_,r=>by rw[List.map_nil]at r;cases r;exact⟨[],True.intro,.nil⟩
 | p::kvs,_,r=>by
   rw[List.map_cons]at r;cases r with
   | @cons a b as bs h t =>
     obtain⟨rs,c,q⟩:=uo (P:=P) (w:=w) t;obtain⟨b1,b2⟩:=b;exact⟨(p.1,b2)::rs,⟨ug h.1,rfl,c⟩,.cons ⟨rfl,h.2⟩ q⟩
def Qf(KQ:List (TE×TE)):TE:=fun σ H Q=>∀ p,H p=none->BG KQ σ (upd H p (.dK [])) fun ps H2=>H2 p=some (.dK [])/\∃ kvs:List (Key×V),ps=kvs.map (fun kv=>(kV kv.1,kv.2))/\kvs.length<=15/\Q (.ref p) (upd H2 p (.dK (lJ [] kvs)))
theorem KS{X:Cx}{pos:Pos}{keys:List (Option Expr)}{values:List Expr}{KQ:List (TE×TE)}(h:RS X pos keys values KQ)(hall:keys.all (·.isSome)=true)(hl:keys.length=values.length)(h0:keys≠[])
 (Yi:keys.length<=15):PE X (.Dict keys values pos) (Qf KQ):=by
 intro pq s σ H Q I q;have hn:=I.hok.fresh (Nat.le_refl s.heap.objs.size);have I1:=I.laid (a:=s.heap.objs.size) (o:=.dK []) (h':=s.heap.push { cls:=.type "dict",data:=.dict #[]}) (t':=s.toks) (fun _ _ q=>Heap.get?_push_of_some _ q) (Nat.le_refl _) (Hr s.heap I.big)
 refine wpAny_Dict_walk (knd:=ck X.prog X.w) hall hl h0 Yi (cK (h pq _ σ _ _ I1 (q _ hn)) fun ws s2 ⟨ps,H2,I2,rel,e,kvs,ep,lk,q2⟩=>?_)
 subst ep;obtain⟨rs,c,rk⟩:=uo (P:=X.prog) (w:=X.w) rel;obtain⟨z,hd,vs0,r0,dd⟩:=L4 I2.hok e;cases r0;refine⟨rs,c,dd,fun h' KN hs=>⟨.ref s.heap.objs.size,_,?_,rfl,q2⟩⟩
 have hz:(lJ [] kvs).length<=sizeLine:=by
  have h1:=m6 kvs [];rw[List.length_nil]at h1;rw[sizeLine_eq];lia
 have he:∃ q,h'.get? s.heap.objs.size=some q:=let⟨q,_,_,hq,_⟩:=KN;⟨q,hq⟩;exact oM I2 (by rw[e];exact True.intro) hs he (Hq hz hd (rk.merge .nil) KN)
structure M1(X:Cx)(o:Expr)(m:Str)(apos:Pos)(e:Expr)(cpos:Pos):Prop where
 base:attributeBase o m X.env (eval o X.env)=eval o X.env
 few:((backTo cpos (starEach [e] X.env)).all (fun x=>!x.1)&&(backToKw cpos (keywordEach [] X.env)).all (fun x=>x.1.isSome)
  && decide (([e]:List Expr).length+([]:List Keyword).length+(if([]:List Keyword).isEmpty then 0 else 1)<30))=true
 line:(apos.endLine==cpos.line)=true
 trees:backTo cpos (starEach [e] X.env)=[(false,eval e X.env)]
structure M2(X:Cx)(o:Expr)(m:Str)(apos:Pos)(e f:Expr)(cpos:Pos):Prop where
 base:attributeBase o m X.env (eval o X.env)=eval o X.env
 few:((backTo cpos (starEach [e,f] X.env)).all (fun x=>!x.1)&&(backToKw cpos (keywordEach [] X.env)).all (fun x=>x.1.isSome)
  && decide (([e,f]:List Expr).length+([]:List Keyword).length+(if([]:List Keyword).isEmpty then 0 else 1)<30))=true
 line:(apos.endLine==cpos.line)=true
 trees:backTo cpos (starEach [e,f] X.env)=[(false,eval e X.env),(false,eval f X.env)]
def RT(H:Hp)(a:Addr):Prop:=(∃ kvs,Rd H a (.dK kvs))\/∃ kvs,Rd H a (.dT kvs)
theorem BH{X:Cx}{pq:aR}{σ:St}{H:Hp}{s:Shared}{a:Addr}(I:Inv X pq σ H s)(d:RT H a):
 s.TypeIs (.ref a) "dict"/\(∀ b,Value.ref a = .ref b->∃ ob,s.heap.get? b=some ob/\ob.dict=none)/\(a==sysModules)=false:=by
 rcases d with⟨kvs,e⟩|⟨kvs,e⟩
 ·obtain⟨_,hd,vs,_,dd⟩:=uh I.hok e;refine⟨dd.typeIs,fun b q=>?_,hd⟩
  cases q;obtain⟨ob,_,_,h1,h2,_⟩:=dd;exact⟨ob,h1,h2.2.1⟩
 ·obtain⟨_,hd,xs,_,dd⟩:=um I.hok e;refine⟨dd.typeIs,fun b q=>?_,hd⟩
  cases q;obtain⟨ob,_,_,h1,h2,_⟩:=dd;exact⟨ob,h1,h2.2.1⟩
section
variable {X:Cx}{pq:aR}{σ:St}{H:Hp}{s:Shared}{a:Addr}{y d:V}{u r:Value}{o:Option V}{A:Around}{E:di}
theorem Nk{Q:di}(hu:A.units+1<cLine)(I:Inv X pq σ H s)(g:ny H a y o)(ry:RelV y u)(h:∀ w' s',Inv X pq σ H s'->RelV (o.getD .dU) w'->Q w' s'):
 wpAny (model X.prog X.w) A (call (.builtin "dict.get") [.ref a,u]) Q E s:=by
 rcases g with⟨kvs,k,e,ey,l⟩|⟨kvs,k,b,e,ey,eb,l⟩
 ·subst ey;obtain⟨z,hd,vs,rel,dd⟩:=uh I.hok e;refine call_meetsIn PySem.F.slot_dict_get dd.typeIs PySem.F.entry_dict_get (PySem.F.args_dict_get_2 _ _) (meets_dict_get (ck X.prog X.w) a (ug ry) hd) ⟨_,dd.mapOf,h _ _ (I.tok _) ?_⟩;rw[l];exact(rel.val k).getD rfl
 ·subst ey;cases(show u=Value.ref b from ry)
  obtain⟨z,hd,xs,rel,dd⟩:=um I.hok e;refine call_meetsIn PySem.F.slot_dict_get dd.typeIs PySem.F.entry_dict_get (PySem.F.args_dict_get_2 _ _) (meetsH_dict_get (tupleKind (ck X.prog X.w)) a b hd) ⟨tupleKind_room_in1 hu,k,xs,lH I.hok eb,dd,h _ _ (I.tok _) ?_⟩;rw[l];exact(rel.val k).getD rfl
theorem Nl{Q:di}(hu:A.units+1<cLine)(I:Inv X pq σ H s)(g:ny H a y o)(ry:RelV y u)(rd:RelV d r)(h:∀ w' s',Inv X pq σ H s'->RelV (o.getD d) w'->Q w' s'):
 wpAny (model X.prog X.w) A (call (.builtin "dict.get") [.ref a,u,r]) Q E s:=by
 rcases g with⟨kvs,k,e,ey,l⟩|⟨kvs,k,b,e,ey,eb,l⟩
 ·subst ey;obtain⟨z,hd,vs,rel,dd⟩:=uh I.hok e;refine call_meetsIn PySem.F.slot_dict_get dd.typeIs PySem.F.entry_dict_get (PySem.F.args_dict_get_3 _ _ _) (meets_dict_get_default (ck X.prog X.w) a (ug ry) hd r) ⟨_,dd.mapOf,h _ _ (I.tok _) ?_⟩;rw[l];exact(rel.val k).getD rd
 ·subst ey;cases(show u=Value.ref b from ry)
  obtain⟨z,hd,xs,rel,dd⟩:=um I.hok e;refine call_meetsIn PySem.F.slot_dict_get dd.typeIs PySem.F.entry_dict_get (PySem.F.args_dict_get_3 _ _ _) (meetsH_dict_get_default (tupleKind (ck X.prog X.w)) a b hd r) ⟨tupleKind_room_in1 hu,k,xs,lH I.hok eb,dd,h _ _ (I.tok _) ?_⟩;rw[l];exact(rel.val k).getD rd
end
def Nm(td ty:TE):TE:=fun σ H Q=>td σ H fun x H1=>∃ a,x = .ref a/\RT H1 a/\ty σ H1 fun y H2=>∃ o,ny H2 a y o/\Q (o.getD .dU) H2
def Nn(td ty tx:TE):TE:=fun σ H Q=>td σ H fun x H1=>∃ a,x = .ref a/\RT H1 a/\ty σ H1 fun y H2=>tx σ H2 fun z H3=>∃ o,ny H3 a y o/\Q (o.getD z) H3
section
variable {X:Cx}{o e f:Expr}{apos cpos:Pos}{td ty tx:TE}
theorem Hu(hu:X.A.units+1<cLine)(ho:PE X o td)(he:PE X e ty)(m:M1 X o "get" apos e cpos):PE X (.Call (.Attribute o "get" apos) [e] [] cpos) (Nm td ty):=by
 intro pq s σ H Q I h;refine wpAny_Call_method m.base m.few m.line PySem.F.plainAttrs_dict PySem.F.slot_dict_get PySem.F.type_dict_get (cK (ho pq s σ H _ I h) fun u s1 ⟨x,H1,I1,rx,a,ex,d,q1⟩=>?_)
 subst ex;obtain rfl:u=Value.ref a:=rx;obtain⟨t1,t2,_⟩:=BH I1 d;refine⟨t1,t2,?_⟩;rw[m.trees];refine Calls.callWith_builtin rfl (Calls.evalArgs_plain (Calls.spliced_cons (cK (he pq s1 σ H1 _ I1 q1) fun iv s2 ⟨y,H2,I2,ry,ov,g,q2⟩=>Calls.spliced_nil ?_)))
 exact Nk hu I2 g ry fun w' s3 I3 rw'=>⟨_,H2,I3,rw',q2⟩
theorem Hv(hu:X.A.units+1<cLine)(ho:PE X o td)(he:PE X e ty)(hf:PE X f tx)(m:M2 X o "get" apos e f cpos):PE X (.Call (.Attribute o "get" apos) [e,f] [] cpos) (Nn td ty tx):=by
 intro pq s σ H Q I h;refine wpAny_Call_method m.base m.few m.line PySem.F.plainAttrs_dict PySem.F.slot_dict_get PySem.F.type_dict_get (cK (ho pq s σ H _ I h) fun u s1 ⟨x,H1,I1,rx,a,ex,d,q1⟩=>?_)
 subst ex;obtain rfl:u=Value.ref a:=rx;obtain⟨t1,t2,_⟩:=BH I1 d;refine⟨t1,t2,?_⟩;rw[m.trees];refine Calls.callWith_builtin rfl (Calls.evalArgs_plain (Calls.spliced_cons (cK (he pq s1 σ H1 _ I1 q1) fun iv s2 ⟨y,H2,I2,ry,q2⟩ =>
  Calls.spliced_cons (cK (hf pq s2 σ H2 _ I2 q2) fun fv s3 ⟨z,H3,I3,rz,ov,g,q3⟩=>Calls.spliced_nil ?_))))
 exact Nl hu I3 g ry rz fun w' s4 I4 rw'=>⟨_,H3,I4,rw',q3⟩
end
section
variable {κ:Type}[DecidableEq κ]
theorem Hw{kvs:List (κ×V)}{k:κ}(h:dB kvs k=none): ¬ k∈kvs.map (·.1):=by
 intro m;obtain⟨p,hp,e⟩:=List.mem_map.mp m;have q:(kvs.any fun kv=>decide (kv.1=k))=true:=List.any_eq_true.mpr ⟨p,hp,cD e⟩
 rw[gb,h]at q;exact absurd q (by simp)
theorem KU{kvs:List (κ×V)}{k:κ}{v:V}(h:dB kvs k=some v):k∈kvs.map (·.1):=by
 have q:(kvs.any fun kv=>decide (kv.1=k))=true:=by
  rw[gb,h]
  all_goals rfl
 obtain⟨p,hp,e⟩:=List.any_eq_true.mp q;exact List.mem_map.mpr ⟨p,hp,iG e⟩
theorem Dw:∀{l:List κ} {k:κ},l.Nodup->¬ k∈l->(l++[k]).Nodup
 | [],k,_,_=>by simp
 | a::r,k,h,hk=>by
   obtain⟨h1,h2⟩:=List.nodup_cons.mp h;show(a::(r++[k])).Nodup;refine List.nodup_cons.mpr ⟨fun m=>?_,Dw h2 fun m=>hk (List.mem_cons.mpr (Or.inr m))⟩
   rcases List.mem_append.mp m with q|q
   ·exact h1 q
   ·exact hk (List.mem_cons.mpr (Or.inl (List.mem_singleton.mp q).symm))
theorem KW{kvs:List (κ×V)}{k:κ}(v:V)(hn:(kvs.map (·.1)).Nodup)(h:dB kvs k=none):((putK kvs k v).map (·.1)).Nodup:=by
 rw[zN v h,List.map_append];exact Dw hn (Hw h)
theorem wW{p:κ×V}{r:List (κ×V)}{k:κ}(e:p.1=k):dD (p::r) k=dD r k:=by
 unfold dD;rw[List.filter_cons,if_neg (by simp[e])]
theorem wX{p:κ×V}{r:List (κ×V)}{k:κ}(e : ¬ p.1=k):dD (p::r) k=p::dD r k:=by
 unfold dD;rw[List.filter_cons,if_pos (by simp[e])]
theorem wY{kvs:List (κ×V)}{k:κ}{p:κ×V}(h:p∈dD kvs k):p∈kvs:=(List.mem_filter.mp h).1
theorem uq:∀{kvs:List (κ×V)} {k:κ},(kvs.map (·.1)).Nodup->((dD kvs k).map (·.1)).Nodup
 | [],_,_=>List.nodup_nil
 | p::r,k,h=>by
   have h:(p.1::r.map (·.1)).Nodup:=h;obtain⟨h1,h2⟩:=List.nodup_cons.mp h
   by_cases e:p.1=k
   ·rw[wW e];exact uq h2
   ·rw[wX e];show(p.1::(dD r k).map (·.1)).Nodup;refine List.nodup_cons.mpr ⟨fun m=>h1 ?_,uq h2⟩
    obtain⟨q,hq,eq⟩:=List.mem_map.mp m;exact List.mem_map.mpr ⟨q,wY hq,eq⟩
end
end L2
namespace Ring
open PySem L2
end Ring
namespace L2
open PySem PySem.Spec PyProof.Rows
end L2
namespace RM
variable {N:Net}
end RM
namespace Ring
open PySem L2
end Ring
namespace L2
open PySem PySem.Spec PyProof.Rows
end L2
namespace Ring
open PySem L2
end Ring
namespace L2
open PySem PySem.Spec PyProof.Rows
end L2
namespace Ring
open PySem L2
end Ring
namespace L2
open PySem PySem.Spec PyProof.Rows
theorem EC{K:bX}{a:Addr}{xs:List V}{g:TG}{tb:TS}{D:Ends}{σ:St}{H:Hp}(Pv:Nat->St->Hp->Prop)(h0:Pv 0 σ H)(hl:∀ i σ H,i<=xs.length->Pv i σ H->aQ K H a xs)
 (hs:∀ i x T σ H,xs[i]?=some x->Pv i σ H->H T=none->g (.ref T) σ (upd H T (.tup [.int (i:Int),x])) fun σ2 H2=>tb { D with nx:=Pv (i+1),ct:=Pv (i+1),bk:=D.nx} σ2 H2) (hd:∀ σ H,Pv xs.length σ H->D.nx σ H) :
 ∃ W:Nat->Nat->St->Hp->Prop,(∃ m,W 0 m σ H)/\∀ i m σ H,W i m σ H->
   ((Eu K a).stop i H/\D.nx σ H)\/((Eu K a).go i H/\∃ N:St->Hp->Prop,(∀ σ' H',N σ' H'->∃ m',m'<m/\W (i+1) m' σ' H')/\∀ x H',(Eu K a).Jz i H x H'->g x σ H' fun σ2 H2=>tb { D with nx:=N,ct:=N,bk:=D.nx} σ2 H2):=by
 refine⟨fun i m σ H=>m=xs.length-i/\i<=xs.length/\Pv i σ H,⟨xs.length,by simp,Nat.zero_le _,h0⟩,?_⟩
 rintro i m σ H ⟨rfl,hi,p⟩;have q:=hl i σ H hi p
 by_cases hlt:i<xs.length
 ·refine .inr ⟨⟨xs,xs[i],q,by simp[hlt]⟩,Pv (i+1),fun σ' H' p'=>⟨xs.length-(i+1),by lia,rfl,hlt,p'⟩,fun v H' y=>?_⟩
  obtain⟨T,x,rfl,hT,rfl,y1⟩:=y;exact hs i x T σ _ (y1 xs q) p hT
 ·have e:i=xs.length:=by lia
  subst e;exact .inl ⟨⟨xs,q,rfl⟩,hd σ H p⟩
end L2
namespace Ring
open PySem L2
def oV:Option Int->V
 | none=>.dU
 | some i=>.int i
abbrev Pr:=Option Int×Option Int
def sel(q:Pr)(u:Bool):Option Int:=if u=true then q.2 else q.1
def KY(R:List Pr)(i:Nat):Pr:=R.getD i (none,none)
def i0(H:Hp)(x:V)(q:Pr):Prop:=∃ b,x = .ref b/\H b=some (.tup [oV q.1,oV q.2])
def RowW(H:Hp)(x:V)(R:List Pr):Prop:=∃ b ys,x = .ref b/\H b=some (.tup ys)/\Paired (i0 H) ys R
def lK(H:Hp)(b:Addr)(W:List (List Pr)):Prop:=∃ ys,H b=some (.tup ys)/\Paired (RowW H) ys W
theorem i0.same{H H' : Hp}(s:au H H'){x:V}{q:Pr}(h:i0 H x q):i0 H' x q:=let⟨b,e,z⟩:=h;⟨b,e,s _ _ z⟩
theorem RowW.same{H H' : Hp}(s:au H H'){x:V}{R:List Pr}(h:RowW H x R):RowW H' x R:=let⟨b,ys,e,z,pr⟩:=h;⟨b,ys,e,s _ _ z,Paired.imp' (fun _ _ z=>z.same s) pr⟩
theorem lK.same{H H' : Hp}(s:au H H'){b:Addr}{W:List (List Pr)}(h:lK H b W):lK H' b W:=let⟨ys,z,pr⟩:=h;⟨ys,s _ _ z,Paired.imp' (fun _ _ z=>z.same s) pr⟩
theorem i0.tups{H H' : Hp}(s:dz H H'){x:V}{q:Pr}(h:i0 H x q):i0 H' x q:=let⟨b,e,z⟩:=h;⟨b,e,s _ _ z⟩
theorem RowW.tups{H H' : Hp}(s:dz H H'){x:V}{R:List Pr}(h:RowW H x R):RowW H' x R:=let⟨b,ys,e,z,pr⟩:=h;⟨b,ys,e,s _ _ z,Paired.imp' (fun _ _ z=>z.tups s) pr⟩
end Ring
namespace L2
open PySem PySem.Spec PyProof.Rows
end L2
namespace RM
variable {N:Net}{m t0:Nat}
def Net.RU(N:Net)(t v:Nat):Nat:=if N.a t=v then N.b t else N.a t
def Net.qg(N:Net)(left v:Nat):List Nat:=(List.range N.n).filter fun t=>left.testBit t&&(decide (N.a t=v) || decide (N.b t=v))
theorem i7{left v t:Nat}:t∈N.qg left v↔t<N.n/\left.testBit t=true/\(N.a t=v\/N.b t=v):=by
 unfold Net.qg;rw[List.mem_filter,List.mem_range,Bool.and_eq_true,Bool.or_eq_true,decide_eq_true_eq,decide_eq_true_eq]
inductive Wk(N:Net)(m t0:Nat):List (Nat×Int)->Nat->Nat->Prop
 | start:Wk N m t0 [(t0,1)] (N.b t0) (m^^^2^t0)
 | next {acc:List (Nat×Int)} {v left t:Nat} (h:Wk N m t0 acc v left) (h0:left≠0) (ht:(N.qg left v)[0]?=some t):Wk N m t0 (acc++[(t,if N.a t=v then 1 else -1)]) (N.RU t v) (left^^^2^t)
theorem zQ{t v:Nat}(h:N.a t=v\/N.b t=v):(N.a t=v/\N.b t=N.RU t v)\/(N.b t=v/\N.a t=N.RU t v):=by
 unfold Net.RU
 by_cases e:N.a t=v
 ·rw[if_pos e];exact .inl ⟨e,rfl⟩
 ·rw[if_neg e];rcases h with h|h
  ·exact absurd h e
  ·exact .inr ⟨h,rfl⟩
theorem Hx{pre ks:List Nat}{v left:Nat}(h:Way N m pre v ks left)(hz:∀ k,m.testBit k=true->k∈ks):left=0:=by
 apply Nat.eq_of_testBit_eq;intro k;rw[h.oJ,Nat.zero_testBit];cases hb:m.testBit k with
 | false=>rfl
 | true=>rw[cD (hz k hb)];rfl
theorem wZ{pre ks:List Nat}{v left:Nat}(r:N.Ring m)(h:Way N m pre v ks left)(h0:left≠0):v∉pre:=fun hv=>by
 obtain⟨i,hi⟩:=List.getElem?_of_mem hv;obtain⟨q0,qe,_,qs⟩:=h.closes hi;rcases r.2.2 _ qs qe with z|z
 ·exact q0 z
 ·refine h0 (Hx h fun k hk=>?_)
  rw[<-z,Ring.jm]at hk;exact List.mem_of_mem_drop (iG hk)
theorem Np(hm:m<2^N.n)(r:N.Ring m)(hb:m.testBit t0=true){acc:List (Nat×Int)}{v left:Nat}(h:Wk N m t0 acc v left):∃ pre,Way N m pre v (acc.map (·.1)) left/\pre[0]?=some (N.a t0):=by
 induction h with
 | start =>
   refine⟨[N.a t0],?_,rfl⟩;exact(Way.start hm r.2.1 hb).go (by simp) hb (.inl ⟨rfl,rfl⟩)
 | next h h0 ht ih =>
   obtain⟨pre,w,p0⟩:=ih;have hm2:=i7.mp (gy ht);refine⟨_,by rw[List.map_append];exact w.go (wZ r w h0) hm2.2.1 (zQ hm2.2.2),?_⟩
   rw[List.getElem?_append_left (by have:=(iH.mp p0).1;exact this)]
   exact p0
theorem Qg(hm:m<2^N.n)(r:N.Ring m)(hb:m.testBit t0=true){acc:List (Nat×Int)}{v left:Nat}(h:Wk N m t0 acc v left)(h0:left≠0):∃ t,(N.qg left v)[0]?=some t:=by
 obtain⟨pre,w,_⟩:=Np hm r hb h;obtain⟨t,h1,h2⟩:=w.on (wZ r w h0);have ht:t<N.n:=bU w.KJ h1;have hmem:t∈N.qg left v:=i7.mpr ⟨ht,h1,h2⟩;cases e:N.qg left v with
 | nil=>rw[e]at hmem;cases hmem
 | cons x l=>exact⟨x,rfl⟩
theorem zR{left t n:Nat}(ht:t<n)(hb:left.testBit t=true):cnt (fun j=>left.testBit j) n=cnt (fun j=>(left^^^2^t).testBit j) n+1 :=
 tS (h:=t) hb ht fun x _=>by
  rw[Nat.testBit_xor,Nat.testBit_two_pow]
  by_cases e:x=t
  ·subst e;simp[hb]
  ·rw[cR e,cR (fun z=>e z.symm)]
   simp
theorem x9(hm:m<2^N.n)(hb:m.testBit t0=true){acc:List (Nat×Int)}{v left:Nat}(h:Wk N m t0 acc v left):acc.length+cnt (fun j=>left.testBit j) N.n=cnt (fun j=>m.testBit j) N.n:=by
 induction h with
 | start =>
   have:=zR (bU hm hb) hb;show 1+_=_
   lia
 | next h h0 ht ih =>
   have hm2:=i7.mp (gy ht);have:=zR hm2.1 hm2.2.1;rw[List.length_append,List.length_singleton]
   lia
variable {N:Net}{m t0:Nat}
def Net.D2(N:Net)(m:Nat):Prop:=∀ x,x<N.p->N.dg m x=0\/N.dg m x=2
theorem D2.fQ(h:N.D2 m):N.cL m:=fun x hx=>by
 rw[Hg];refine cR ?_;rcases h x hx with e|e<;>lia
theorem Hy(C:Nat->Bool):∀ n,sm (fun x=>if C x=true then 2 else 0) n=2*cnt C n:=fun n=>by
 rw[ir];have:sm (fun k=>if C k=true then 2 else 0) n=sm (fun k=>(if C k=true then 1 else 0)+(if C k=true then 1 else 0)) n:=fb fun k _=>by
  by_cases h:C k=true
  ·rw[if_pos h,if_pos h]
  ·rw[if_neg h,if_neg h]
 rw[this,qa]
 lia
theorem KZ(hm:m<2^N.n)(r:N.Ring m):N.D2 m:=by
 obtain⟨k0,hk0,hb0,hall⟩:=nv hm r;generalize hs:N.aJ (fun k=>m.testBit k) N.n (N.a k0)=s at hall
 have hC:∀ x,x<N.p->(fun x=>decide (N.aJ (fun k=>m.testBit k) N.n x=s)) x=decide (N.aJ (fun k=>m.testBit k) N.n x=s):=fun x _=>rfl
 obtain⟨h2,hl,Ep⟩:=zG (s:=s) hm r _ hC (fun k hk hb=>cD (hall k hk hb))
 generalize hCC:(fun x=>decide (N.aJ (fun k=>m.testBit k) N.n x=s))=C at hC h2 hl Ep
 have none:∀ x,x<N.p->C x=false->N.dg m x=0:=fun x hx hc=>by
  cases hz:N.dg m x with
  | zero=>rfl
  | succ d =>
    exfalso
    obtain⟨k,hk,hb,JE⟩:=oH (N:=N) (m:=m) (x:=x) (by lia)
    rw[hC x hx]at hc;refine of_decide_eq_false hc ?_;rcases JE with e|e
    ·rw[<-e];exact hall k hk hb
    ·rw[<-e,<-fY (S:=fun k=>m.testBit k) hk hb]
     exact hall k hk hb
 have pos:∀ x,x<N.p->C x=true->0<N.dg m x:=fun x hx hc=>by
  cases hz:N.dg m x with
  | succ d=>lia
  | zero =>
    exfalso
    obtain⟨y,hy,L1,hne⟩:∃ y,y<N.p/\C y=true/\y≠x:=by
     obtain⟨c,d,h1,h3,h4,h5⟩:=mq h2
     by_cases e:c=x
     ·exact⟨d,h3,h5,by lia⟩
     ·exact⟨c,by lia,h4,e⟩
    rw[hC x hx]at hc;rw[hC y hy]at L1;exact hne (alone hz (bB _ _ _ ((iG hc).trans (iG L1).symm)))
 have hle:∀ x,x<N.p->(if C x=true then 2 else 0)<=N.dg m x:=fun x hx=>by
  by_cases hc:C x=true
  ·rw[if_pos hc];have h1:=pos x hx hc;have h3:=sM r.2.1 hx
   lia
  ·rw[if_neg hc];exact Nat.zero_le _
 have he:sm (fun x=>if C x=true then 2 else 0) N.p=sm (fun x=>N.dg m x) N.p:=by
  rw[Hy,xZ,hl]
 intro x hx;have:=Hf hle he x hx
 by_cases hc:C x=true
 ·rw[if_pos hc]at this;exact .inr this.symm
 ·rw[if_neg hc]at this;exact .inl this.symm
theorem K0(hb:m.testBit t0=true){acc:List (Nat×Int)}{v left:Nat}(h:Wk N m t0 acc v left):∀ k,left.testBit k=(m.testBit k && !decide (k∈acc.map (·.1))):=by
 induction h with
 | start =>
   intro k;rw[Nat.testBit_xor,Nat.testBit_two_pow]
   by_cases e:t0=k
   ·subst e;simp[hb]
   ·have e' : ¬ k=t0:=fun z=>e z.symm
    simp[e,e']
 | @next acc v left t h h0 ht ih =>
   intro k;have hm2:=i7.mp (gy ht);have hin:=hm2.2.1;rw[ih t]at hin;rw[Nat.testBit_xor,Nat.testBit_two_pow,ih k,List.map_append]
   by_cases e:t=k
   ·subst e;rw[hin];simp
   ·have e' : ¬ k=t:=fun z=>e z.symm
    have e3:(k∈acc.map (·.1)++[(t,if N.a t=v then(1:Int) else -1)].map (·.1))↔k∈acc.map (·.1):=by simp[e']
    rw[show decide (k∈acc.map (·.1)++[(t,if N.a t=v then(1:Int) else -1)].map (·.1))=decide (k∈acc.map (·.1)) from decide_eq_decide.mpr e3]
    simp[e]
theorem BI(hm:m<2^N.n)(hb:m.testBit t0=true){acc:List (Nat×Int)}{v left:Nat}(h:Wk N m t0 acc v left):left<2^N.n:=cF fun k hk=>by
 rw[K0 hb h k,Bool.and_eq_true]at hk;exact bU hm hk.1
theorem Hz{left n:Nat}(hl:left<2^n):cnt (fun j=>left.testBit j) n=0↔left=0:=by
 constructor
 ·intro h;apply Classical.byContradiction;intro h0;obtain⟨j,hj⟩:=Nat.exists_testBit_of_ne_zero h0;have:=mj (f:=fun j=>left.testBit j) hj (bU hl hj)
  lia
 ·rintro rfl;rw[ir];refine(fb fun k _=>?_).trans (sJ n)
  rw[if_neg (by rw[Nat.zero_testBit];simp)]
theorem K1(hm:m<2^N.n)(hb:m.testBit t0=true){acc:List (Nat×Int)}{v left:Nat}(h:Wk N m t0 acc v left):acc.length=cnt (fun j=>m.testBit j) N.n↔left=0:=by
 have:=x9 hm hb h;rw[<-Hz (BI hm hb h)]
 lia
end RM
namespace Ring
open PySem L2
theorem kj{H:Hp}{xs:List V}{p:Nat}{ts:List c9}{g:aA p ts}{k:Nat}(h3:Paired (TupAt H) xs ts)(hk:k<ts.length):∃ c,xs[k]?=some (.ref c)/\H c=some (.tup [.int ((g.N.a k:Nat):Int),.int ((g.N.b k:Nat):Int),.int (aU ts k).2.2]):=by
 have hkx:k<xs.length:=by rw[h3.length];exact hk
 obtain⟨t,ht,c,hc,hct⟩:=Paired.tM h3 (i:=k) (x:=xs[k]) (by simp[hkx])
 have Qh:t=aU ts k:=by
  have z:=p8 hk;rw[ht]at z;exact Option.some.inj z
 refine⟨c,by rw[<-hc];simp[hkx],?_⟩
 rw[hct,<-zA hk,<-zB hk,Qh];rfl
end Ring
namespace RM
variable {N:Net}{row:Nat->Int}
end RM
namespace Ring
open PySem L2
end Ring
namespace RM
variable {N:Net}{row:Nat->Int}
variable {N:Net}{row Yj:Nat->Int}
theorem ED{m t0:Nat}(hm:m<2^N.n)(r:N.Ring m)(hb:m.testBit t0=true):∃ acc v,Wk N m t0 acc v 0:=by
 have key:∀(k:Nat) (acc:List (Nat×Int)) (v left:Nat),Wk N m t0 acc v left->cnt (fun j=>left.testBit j) N.n=k->∃ acc v,Wk N m t0 acc v 0:=by
  intro k
  induction k with
  | zero =>
    intro acc v left h e;have hl:=x9 hm hb h;rw[e]at hl;have h0:=(K1 hm hb h).mp hl;subst h0;exact⟨acc,v,h⟩
  | succ k ih =>
    intro acc v left h e
    by_cases h0:left=0
    ·subst h0;exact⟨acc,v,h⟩
    ·obtain⟨t,ht⟩:=Qg hm r hb h h0;have h':=Wk.next h h0 ht;have l1:=x9 hm hb h;have l2:=x9 hm hb h';rw[List.length_append]at l2;refine ih _ _ _ h' ?_;have e1:[((t:Nat),(if N.a t=v then(1:Int) else -1))].length=1:=rfl
     lia
 exact key _ _ _ _ .start rfl
variable {N' : Net}
end RM
namespace L2
open PySem PySem.Spec PyProof.Rows PySem.W
def vB(n:Nat){α:Type}(R:α->Prop):KasT α->Prop
 | .ret a=>R a
 | .ask i j k=>i<n/\j<n/\∀ b,vB n R (k b)
theorem vB.bind{n:Nat}{α β:Type}{R:α->Prop}{R' : β->Prop}{f:α->KasT β}:∀{t:KasT α},vB n R t->(∀ a,R a->vB n R' (f a))->vB n R' (t.bind f)
 | .ret a,h,g=>by
   rw[KasT.bind.eq_1];exact g a h
 | .ask i j k,h,g=>by
   rw[KasT.bind.eq_2];exact⟨h.1,h.2.1,fun b=>vB.bind (h.2.2 b) g⟩
def c5(n:Nat)(p:Array Nat):Prop:=p.toList.Perm (List.range n)
theorem c5.at{n:Nat}{p:Array Nat}(h:c5 n p)(hn:0<n)(x:Nat):p.getD x 0<n:=by
 unfold Array.getD
 split
 ·rename_i hx
  have:p[x]∈p.toList:=by simp
  exact List.mem_range.mp (h.mem_iff.mp this)
 ·exact hn
theorem EF{n:Nat}{p:Array Nat}(h:c5 n p)(i j:Nat):c5 n (p.swapIfInBounds i j):=by
 unfold Array.swapIfInBounds
 split
 ·split
  ·exact(Array.perm_iff_toList_perm.mp (Array.swap_perm _ _)).trans h
  ·exact h
 ·exact h
theorem qh{n:Nat}(f g:Nat->Nat):∀(l:List Nat) {p:Array Nat},c5 n p->c5 n (l.foldl (fun a k=>a.swapIfInBounds (f k) (g k)) p)
 | [],_,h=>h
 | k::l,_,h=>qh f g l (EF h (f k) (g k))
theorem lM{n:Nat}{p:Array Nat}(h:c5 n p)(i j:Nat):c5 n (kas_rev p i j):=qh _ _ _ h
theorem HA{n:Nat}{p:Array Nat}(h:c5 n p)(i j:Nat):c5 n (bubble p i j):=qh _ _ _ h
theorem BJ{n:Nat}{p:Array Nat}(h:c5 n p)(hn:0<n):∀ f x,vB n (fun _=>True) (kas_asc p f x)
 | 0,x=>by
   rw[kas_asc.eq_1];trivial
 | f+1,x=>by
   rw[kas_asc.eq_2];refine⟨h.at hn _,h.at hn _,fun b=>?_⟩
   cases b with
   | true=>trivial
   | false=>exact BJ h hn f (x+1)
theorem sO{n:Nat}(hn:0<n):∀ f {p:Array Nat} (x q:Nat),c5 n p->vB n (fun r:Array Nat×Nat×Nat=>c5 n r.1) (kas_desc f p x q)
 | 0,p,x,q,h=>by
   rw[kas_desc.eq_1];exact h
 | f+1,p,x,q,h=>by
   rw[kas_desc.eq_2];refine⟨h.at hn _,h.at hn _,fun b=>?_⟩
   cases b with
   | true =>
     show vB n _ (if q > 0 then _ else _)
     by_cases hq:q > 0
     ·rw[if_pos hq];exact sO hn f _ _ (lM h _ _)
     ·rw[if_neg hq];exact sO hn f _ _ h
   | false =>
     refine⟨h.at hn _,h.at hn _,fun b=>?_⟩
     cases b with
     | true=>exact h
     | false=>exact sO hn f _ _ h
theorem Dy{n:Nat}(hn:0<n){p:Array Nat}(h:c5 n p)(x r:Nat):vB n (fun r:Nat×Array Nat=>c5 n r.2) (kas_tail3 x r p) :=
 vB.bind (BJ (lM h _ _) hn _ _) fun _ _=>lM h _ _
theorem Dz{n:Nat}(hn:0<n){p:Array Nat}(h:c5 n p)(x r:Nat):vB n (fun r:Nat×Array Nat=>c5 n r.2) (kas_descPart x r p):=by
 refine vB.bind (sO hn _ _ _ h) fun y hy=>?_
 by_cases hq:y.2.2 > 0
 ·rw[if_pos hq];exact Dy hn (lM hy _ _) _ _
 ·rw[if_neg hq];exact Dy hn hy _ _
theorem HB{n:Nat}(hn:0<n){p:Array Nat}(h:c5 n p)(r:Nat):vB n (fun r:Nat×Array Nat=>c5 n r.2) (kas_count r p):=by
 refine vB.bind (BJ h hn _ _) fun y _=>?_
 by_cases h1:(y==r)=true
 ·rw[if_pos h1];exact h
 ·rw[if_neg h1]
  by_cases h2:y > 1
  ·rw[if_pos h2];refine⟨h.at hn _,h.at hn _,fun b=>?_⟩
   cases b with
   | true=>exact h
   | false=>exact Dz hn (lM h _ _) _ _
  ·rw[if_neg h2];exact Dz hn h _ _
theorem ur{n:Nat}(hn:0<n){p:Array Nat}(h:c5 n p)(k:Nat):∀ f x y,vB n (fun _=>True) (kas_place p k f x y)
 | 0,x,y=>by
   rw[kas_place.eq_1];trivial
 | f+1,x,y=>by
   rw[kas_place.eq_2]
   by_cases hx:x ≥ y
   ·rw[if_pos hx];trivial
   ·rw[if_neg hx];refine⟨h.at hn _,h.at hn _,fun b=>?_⟩
    cases b with
    | true=>exact ur hn h k f _ _
    | false=>exact ur hn h k f _ _
theorem HC{n:Nat}(hn:0<n):∀ f {p:Array Nat} (x:Nat),c5 n p->vB n (c5 n) (kas_bin f p x)
 | 0,p,x,h=>by
   rw[kas_bin.eq_1];exact h
 | f+1,p,x,h=>by
   rw[kas_bin.eq_2];exact vB.bind (ur hn h _ _ _ _) fun l _=>HC hn f _ (HA h _ _)
theorem DA{n:Nat}(hn:0<n):vB n (c5 n) (kas_sort n):=by
 unfold kas_sort;have h0:c5 n (List.range n).toArray:=by unfold c5;simp
 refine vB.bind (HB hn h0 n) fun r hr=>?_
 by_cases hx:r.1<n
 ·rw[if_pos hx];exact HC hn _ _ hr
 ·rw[if_neg hx];exact hr
def L5(h:Heap)(v:Value):Prop:=∃(a:Addr) (o:Obj) (x y:Int) (t u:Tok) (k:Nat),v = .ref a/\h.get? a=some o/\o.cls = .type "tuple"/\o.data = .seq #[.int x t,.int y u] k
theorem w4{prog:Program}{w:World}{A:Around}{E:di}{s:Shared}{vs:List Value}{Q:SortKind->Shared->Prop}(hn:0<vs.length)(hv:∀ v∈vs,L5 s.heap v)(q:Q (tuples' true) s):wpAny (model prog w) A (keyKind' vs.toArray) Q E s:=by
 obtain⟨fs,hl,hf,hk⟩:∃ fs:List Value,fs.length=vs.length/\(∀ v∈fs,∃ x t,v=Value.int x t)/\KatTups s.heap vs fs:=by
  clear q hn
  induction vs with
  | nil=>exact⟨[],rfl,fun v hv=>(by cases hv),by rw[KatTups.eq_1];trivial⟩
  | cons v vs ih =>
    obtain⟨fs,h1,h2,h3⟩:=ih fun v HD=>hv v (jY _ HD)
    obtain⟨a,o,x,y,t,u,k,e,ho,hc,hd⟩:=hv v List.mem_cons_self;refine⟨.int x t::fs,by simp[h1],fun v' HD=>?_,?_⟩
    ·rcases List.mem_cons.mp HD with rfl|HD
     ·exact⟨x,t,rfl⟩
     ·exact h2 v' HD
    ·rw[KatTups.eq_2];exact⟨⟨a,o,_,k,e,ho,hc,hd,rfl⟩,h3⟩
 refine kat_kind (T:=.type "int") hk (by lia) (fun v hv=>?_) (by decide) q
 obtain⟨x,t,rfl⟩:=hf v hv;intro A Q E s _ q;exact wpAny_pure q
section
variable {X:Cx}{pq:aR}{σ:St}{H:Hp}{s:Shared}{h' : Heap}
theorem Inv.Qi{a:Addr}{o:HO}{t' : Nat}(I:Inv X pq σ H s)(k:∀ b u,b≠X.env.locals->s.heap.get? b=some u->h'.get? b=some u)(ns:∀ m,s.heap.Ns X.env.locals m->h'.Ns X.env.locals m)(hp:s.heap.objs.size<=a)(new:bz X.prog X.w (upd H a o) h' a o):
 Inv X pq σ (upd H a o) { s with heap:=h',toks:=t'}:=by
 have hn:H a=none:=I.hok.fresh hp;have nl:∀ b u,H b=some u->b≠X.env.locals:=fun b u e z=>by
  rw[z,I.free]at e;cases e
 refine I.step (g':=s.gens) (d':=s.drawn) (ch:=[]) (fun b hb=>absurd hb List.not_mem_nil) (fun b o hb _ _ e _=>k b o hb e) (fun b o hb _ _ e _=>⟨o.slots,k b o hb e⟩) (fun b u _ e n=>?_) (fun b o _ e=>?_) (fun b xs e=>?_) (fun b u xs e=>?_) (fun b ps e=>?_) ns (fun b u e=>?_) I.bare
 ·rw[ao (Nat.ne_of_lt (Nat.lt_of_lt_of_le (Heap.lt_size e) hp))];exact n
 ·by_cases hb:b=X.env.locals
  ·subst hb;obtain⟨m,hm,_⟩:=I.loc;obtain⟨o',es,ep,e',_⟩:=ns m hm;exact⟨o',e'⟩
  ·exact⟨o,k b o hb e⟩
 ·rw[ao (aW e hn)];exact e
 ·rw[ao (aW e hn)];exact e
 ·exact⟨#[],by rw[ao (aW e hn),e];simp⟩
 ·by_cases hb:b=a
  ·subst hb;rw[ae]at e;cases e;exact new
  ·rw[ao hb]at e;refine(I.hok b u e).stay (fun c v hc q=>k c v ?_ q) (fun c q=>by rw[ao (aW q hn)];exact q) fun c xs q=>by rw[ao (aW q hn)];exact q
   rcases hc with rfl|hc
   ·exact nl _ _ e
   ·exact nl _ _ hc
theorem Nq{h:Heap}{L:Addr}{m m' : mZ}(a:h.Ns L m)(b:h.Ns L m'):m=m':=by
 obtain⟨o,es,ep,e,d,_,f⟩:=a;obtain⟨o',es',CN,e',d',_,f'⟩:=b;rw[e]at e';cases e';rw[d]at d';cases d'
 funext x
 rw[<-f x,f' x]
end
theorem HE{prog:Program}{w:World}{A:Around}{E:di}{s:Shared}{a:Addr}{its:List Value}{n0:Nat}{P:PySem.Fin->Shared->Prop}(ho:s.heap.get? a=some (seqObj "list" its.toArray n0))(hn:its.length<2)
 (q:P (PySem.Fin.done (PySem.Flow.ret PySem.Value.none)) { s with heap:=sortedHeap s.heap a its its.toArray}):wpAny (model prog w) A (PySem.Builtin.«list.sort» { pos:=[PySem.Value.ref a]}) P E s:=by
 have hs1:its.length<=1000:=by lia
 have ht:its.toArray.size<=sizeLine:=by
  rw[List.size_toArray];exact dl (Nat.ble_eq.mpr hs1)
 rw[list_sort_plain];refine aP (listItems_at ho rfl ?_);refine aP (listUpdate_at ho rfl ?_ ht (Nat.zero_le _));obtain⟨n1,JC⟩:∃ n1,(s.heap.update a (Obj.mapSeq fun _=>#[])).get? a=some (seqObj "list" #[] n1):=by
  exact⟨_,get?_update_seq ho fun _=>#[]⟩
 refine aP (seqEpoch_at JC rfl ?_);refine aP (wpAny_newTuple ?_ (by simpa using ht))
 refine aP (wpAny_newList ?_ (Nat.zero_le _));refine wpAny_holding ?_;have hsz:its.toArray.size<2:=by simpa using hn
 simp only[hsz,↓reduceIte];refine aP (wpAny_pure ?_);refine aP (m:=pure ((),SortSt.mk' general' (its.toArray.zip its.toArray) #[] 7 none)) (wpAny_pure ?_);have Vt:(((s.heap.update a (Obj.mapSeq fun x=>#[])).push { cls:=Value.type "tuple",data:=Data.seq its.toArray}).push { cls:=Value.type "list",data:=Data.seq #[]}).get? a=some (seqObj "list" #[] n1):=by
  have h1:=Heap.lt_size JC;rw[Heap.get?_push_ne _ _ _ (Nat.ne_of_lt (by rw[size_push'];exact Nat.lt_succ_of_lt h1)),Heap.get?_push_ne _ _ _ (Nat.ne_of_lt h1)]
  exact JC
 refine aP (seqEpoch_at Vt rfl ?_);refine aP (listUpdate_at Vt rfl ?_ (Nat.zero_le _) ?_)
 ·show wpAny _ _ (if(n1 != n1)=true then _ else ret Value.none) _ _ _
  rw[if_neg (by simp)]
  refine wpAny_pure ?_;have e:Array.map (fun x:Keyed=>x.snd) (its.toArray.zip its.toArray)=its.toArray:=by
   simp;exact List.map_snd_zip (Nat.le_refl _)
  have e2:Array.map (fun x:Keyed=>x.snd) (arrOf (SortSt.mk' general' (its.toArray.zip its.toArray) #[] 7 none))=its.toArray:=e
  rw[e2];exact q
 ·have e:Array.map (fun x:Keyed=>x.snd) (its.toArray.zip its.toArray)=its.toArray:=by
   simp;exact List.map_snd_zip (Nat.le_refl _)
  have e2:Array.map (fun x:Keyed=>x.snd) (arrOf (SortSt.mk' general' (its.toArray.zip its.toArray) #[] 7 none))=its.toArray:=e
  show(Array.map (fun x:Keyed=>x.snd) (arrOf (SortSt.mk' general' (its.toArray.zip its.toArray) #[] 7 none))).size<=_
  rw[e2];exact Nat.le_succ_of_le ht
end L2
namespace RM
variable {N:Net}{row:Nat->Int}
variable {N:Net}{row:Nat->Int}
variable {N:Net}{m t0:Nat}
variable {N N' : Net}
end RM
namespace Ring
open PySem L2
end Ring
namespace RM
variable {N:Net}
theorem Nr{m x:Nat}(h:∀ k,k<N.n->m.testBit k=true->N.a k≠x/\N.b k≠x):N.bd m x=false:=by
 unfold Net.bd;have e:bg (fun k=>m.testBit k&&N.inc k x) N.n=bg (fun _=>false) N.n:=by
  refine aZ fun k hk=>?_
  cases hb:m.testBit k with
  | false=>rfl
  | true =>
    obtain⟨h1,h2⟩:=h k hk hb;unfold Net.inc;rw[cR h1,cR h2];rfl
 rw[e];exact j8 _
variable {N:Net}
variable {N:Net}
theorem Nt{m x0:Nat}(hm:m<2^N.n)(d2:N.D2 m)(JF:x0<N.p)(hd0:N.dg m x0=2):
 N.Ring m↔∀ x,x<N.p->(N.aJ (fun k=>m.testBit k) N.n x=N.aJ (fun k=>m.testBit k) N.n x0↔N.dg m x=2):=by
 constructor
 ·intro r x hx;obtain⟨k0,hk0,hb0,hall⟩:=nv hm r;have on:∀ y,y<N.p->N.dg m y=2->N.aJ (fun k=>m.testBit k) N.n y=N.aJ (fun k=>m.testBit k) N.n (N.a k0):=fun y hy hd=>by
   obtain⟨k,hk,hb,JE⟩:=oH (N:=N) (m:=m) (x:=y) (by lia)
   rw[<-hall k hk hb];rcases JE with e|e
   ·rw[e]
   ·rw[<-e];exact(fY (S:=fun k=>m.testBit k) hk hb).symm
  constructor
  ·intro e;rcases d2 x hx with z|z
   ·exfalso
    have:=alone z (bB _ _ _ e);rw[this]at hd0
    lia
   ·exact z
  ·intro hd;rw[on x hx hd,on x0 JF hd0]
 ·intro h;have hpos:∀ k,k<N.n->m.testBit k=true->N.aJ (fun k=>m.testBit k) N.n (N.a k)=N.aJ (fun k=>m.testBit k) N.n x0:=fun k hk hb=>by
   refine(h _ (N.al k hk)).mpr ?_;have h1:=uc hk hb (.inl rfl);rcases d2 _ (N.al k hk) with z|z
   ·lia
   ·exact z
  have hs:sm (fun x=>N.dg m x) N.p=2*cnt (fun x=>decide (N.aJ (fun k=>m.testBit k) N.n x=N.aJ (fun k=>m.testBit k) N.n x0)) N.p:=by
   rw[<-Hy];refine fb fun x hx=>?_
   by_cases e:N.aJ (fun k=>m.testBit k) N.n x=N.aJ (fun k=>m.testBit k) N.n x0
   ·rw[if_pos (cD e)];exact(h x hx).mp e
   ·rw[if_neg (by rw[cR e];decide)]
    rcases d2 x hx with z|z
    ·exact z
    ·exact absurd ((h x hx).mpr z) e
  have hl:cnt (fun x=>decide (N.aJ (fun k=>m.testBit k) N.n x=N.aJ (fun k=>m.testBit k) N.n x0)) N.p=cnt (fun k=>m.testBit k) N.n:=by
   rw[xZ]at hs
   lia
  refine Dq hm (D2.fQ d2) (fun x=>decide (N.aJ (fun k=>m.testBit k) N.n x=N.aJ (fun k=>m.testBit k) N.n x0)) (fun x _=>rfl) ?_ (fun k hk hb=>cD (hpos k hk hb)) hl
  rw[hl];have:N.dg m x0<=cnt (fun k=>m.testBit k) N.n:=Bw fun k _ hk=>(OV.mp hk).1
  lia
inductive Sp(B:List Nat):Nat->Prop
 | zero:Sp B 0
 | add {x b:Nat} (h:Sp B x) (hb:b∈B):Sp B (x^^^b)
section
variable {B C:List Nat}{x y b:Nat}
theorem Sp.mem(h:b∈B):Sp B b:=by
 have:=Sp.add .zero h;rw[Nat.zero_xor]at this;exact this
theorem Sp.xor(h:Sp B x)(h' : Sp B y):Sp B (x^^^y):=by
 induction h' with
 | zero=>rw[Nat.xor_zero];exact h
 | add _ hb ih=>rw[<-Nat.xor_assoc];exact .add ih hb
theorem Sp.mono(h:Sp B x)(hc:∀ b∈B,Sp C b):Sp C x:=by
 induction h with
 | zero=>exact .zero
 | add _ hb ih=>exact ih.xor (hc _ hb)
theorem jQ(x b:Nat):x^^^b^^^b=x:=by rw[Nat.xor_assoc,Nat.xor_self,Nat.xor_zero]
theorem Sp.lN:Sp (b::B) x↔Sp B x\/Sp B (x^^^b):=by
 constructor
 ·intro h
  induction h with
  | zero=>exact .inl .zero
  | add h hc ih =>
    rename_i x c
    rcases List.mem_cons.mp hc with e|e
    ·subst e;rcases ih with ih|ih
     ·exact .inr (by rw[jQ];exact ih)
     ·exact .inl ih
    ·rcases ih with ih|ih
     ·exact .inl (.add ih e)
     ·exact .inr (by rw[Nat.xor_assoc,Nat.xor_comm c,<-Nat.xor_assoc];exact .add ih e)
 ·rintro(h|h)
  ·exact h.mono fun c hc=>.mem (jY _ hc)
  ·have h2:Sp (b::B) (x^^^b):=h.mono fun c hc=>.mem (jY _ hc)
   have:=h2.add (b:=b) List.mem_cons_self;rw[jQ]at this;exact this
theorem Sp.off{t:Nat}(h:Sp B x)(hz:∀ b∈B,b.testBit t=false):x.testBit t=false:=by
 induction h with
 | zero=>exact Nat.zero_testBit t
 | add _ hb ih=>rw[Nat.testBit_xor,ih,hz _ hb];rfl
theorem Sp.lt{n:Nat}(h:Sp B x)(hz:∀ b∈B,b<2^n):x<2^n:=by
 induction h with
 | zero=>exact Nat.two_pow_pos n
 | add _ hb ih=>exact Nat.xor_lt_two_pow ih (hz _ hb)
end
inductive L6:List (Nat×Nat)->Prop
 | nil:L6 []
 | cons {t r:Nat} {rest:List (Nat×Nat)} (h:L6 rest) (hr:r.testBit t=true) (hz:∀ q∈rest,q.2.testBit t=false):L6 ((t,r)::rest)
def zS(rows:List (Nat×Nat))(x:Nat):Nat:=rows.foldl (fun x q=>if x.testBit q.1=true then x^^^q.2 else x) x
section
variable {rows:List (Nat×Nat)}{x t:Nat}
theorem DB(rows:List (Nat×Nat)):∀ x,Sp (rows.map (·.2)) (x^^^zS rows x):=by
 induction rows with
 | nil=>intro x;show Sp [] (x^^^x);rw[Nat.xor_self];exact .zero
 | cons q rest ih =>
   intro x;show Sp (q.2::rest.map (·.2)) (x^^^zS rest (if x.testBit q.1=true then x^^^q.2 else x))
   have h:=ih (if x.testBit q.1=true then x^^^q.2 else x)
   by_cases e:x.testBit q.1=true
   ·rw[if_pos e]at h ⊢;refine Sp.lN.mpr (.inr ?_);rw[Nat.xor_assoc,Nat.xor_comm _ q.2,<-Nat.xor_assoc];exact h
   ·rw[if_neg e]at h ⊢;exact Sp.lN.mpr (.inl h)
theorem EG(hz:∀ q∈rows,q.2.testBit t=false):∀{x},x.testBit t=false->(zS rows x).testBit t=false:=by
 induction rows with
 | nil=>intro x h;exact h
 | cons q rest ih =>
   intro x h;have h2:(if x.testBit q.1=true then x^^^q.2 else x).testBit t=false:=by
    by_cases e:x.testBit q.1=true
    ·rw[if_pos e,Nat.testBit_xor,h,hz q List.mem_cons_self];rfl
    ·rw[if_neg e];exact h
   exact ih (fun q' hq=>hz q' (jY _ hq)) h2
theorem w5(h:L6 rows):∀ x,∀ q∈rows,(zS rows x).testBit q.1=false:=by
 induction h with
 | nil=>intro x q hq;cases hq
 | cons h hr hz ih =>
   rename_i t r rest
   intro x q hq;show(zS rest (if x.testBit t=true then x^^^r else x)).testBit q.1=false
   rcases List.mem_cons.mp hq with e|e
   ·subst e;refine EG hz ?_
    by_cases e:x.testBit t=true
    ·rw[if_pos e,Nat.testBit_xor,e,hr];rfl
    ·rw[if_neg e];exact Bool.eq_false_iff.mpr e
   ·exact ih _ q e
theorem HF(h:L6 rows):∀{x},Sp (rows.map (·.2)) x->(∀ q∈rows,x.testBit q.1=false)->x=0:=by
 induction h with
 | nil=>intro x hs _;cases hs with
   | zero=>rfl
   | add _ hb=>cases hb
 | cons h hr hz ih =>
   rename_i t r rest
   intro x hs hx;have off:∀ y,Sp (rest.map (·.2)) y->y.testBit t=false:=fun y hy=>hy.off fun b hb=>by
    obtain⟨q,hq,rfl⟩:=List.mem_map.mp hb;exact hz q hq
   rcases Sp.lN.mp hs with hs|hs
   ·exact ih hs fun q hq=>hx q (jY _ hq)
   ·exfalso
    have h1:=off _ hs;have h2:=hx (t,r) List.mem_cons_self;rw[Nat.testBit_xor]at h1;have h2:x.testBit t=false:=h2;rw[h2,hr]at h1;cases h1
theorem EH(h:L6 rows)(x:Nat):zS rows x=0↔Sp (rows.map (·.2)) x:=by
 have hs:=DB rows x
 constructor
 ·intro e;rw[e,Nat.xor_zero]at hs;exact hs
 ·intro hx;refine HF h ?_ (w5 h x);have:=hx.xor hs;rw[<-Nat.xor_assoc,Nat.xor_self,Nat.zero_xor]at this;exact this
end
open Classical in
open Classical in
theorem K2{x:Nat}(h:x≠0):x.testBit x.log2=true:=Nat.testBit_log2 h
open Ring (xorL xorL_cons maskOf)
variable {N:Net}
theorem w6:N.aN.Nodup:=List.Pairwise.filter _ List.nodup_range
theorem HG{z j d:Nat}(h:N.aN[j]?=some d):(N.mV z N.aN 0).testBit d=z.testBit j:=by
 rw[zz w6 (fun c hc=>(cg.mp hc).2) h,Nat.zero_add]
theorem w9{c:Nat}(hc:c<N.n)(hf:N.kc c=false):N.Ring (N.ring c):=by
 refine⟨fun z=>?_,jN hc,fun q hq ev=>?_⟩
 ·have h:=oA hf;rw[z]at h;simp at h
 ·have hqn:q<2^N.n:=cF fun k hk=>bU (oE hc) (hq k hk)
  cases qc:q.testBit c with
  | true =>
    refine .inr (G6 hqn (oE hc) ev (jN hc) fun d hd hfd=>?_)
    rw[iZ hf hfd]
    by_cases e:c=d
    ·subst e;simp[qc]
    ·rw[cR e];cases qd:q.testBit d with
     | false=>rfl
     | true =>
       have:=hq d qd;rw[iZ hf hfd,cR e]at this;cases this
  | false =>
    refine .inl (fZ (fun k hk=>?_) ev)
    rcases lD (hq k hk) with e|e
    ·subst e;rw[qc]at hk;cases hk
    ·exact e
end RM
namespace L2
open PySem PySem.Spec PyProof.Rows
section
variable {X:Cx}
theorem DC:∀{bs:List Bool} {its:List Value},Vals (bs.map V.bl) its->its=bs.map Value.bool
 | [],_,.nil=>rfl
 | b::bs,_,.cons r rr=>by
   cases r;rw[DC rr];rfl
theorem BK:∀ bs:List Bool,((List.range bs.length).all fun i=>(bs[i]?).getD true)=bs.all id:=fun bs=>by
 rw[Bool.eq_iff_iff,List.all_eq_true,List.all_eq_true]
 constructor
 ·intro h b hb;obtain⟨i,hi,e⟩:=List.getElem_of_mem hb;have:=h i (List.mem_range.mpr hi);rw[List.getElem?_eq_getElem hi,e]at this;exact this
 ·intro h i hi;have hi:=List.mem_range.mp hi;rw[List.getElem?_eq_getElem hi];exact h _ (List.getElem_mem hi)
theorem TU(K:bX)(hc:X.calm=true)(hK:X.K=K:=by rfl):e7 X (.builtin "all") (fun xs H Q=>∃(p:Addr) (bs:List Bool),xs=[.ref p]/\aK K H p (bs.map V.bl)/\Q (.bl (bs.all id)) H):=by
 subst hK;intro pq s σ H xs us Q I r h;obtain⟨p,bs,rfl,hq,q⟩:=h;obtain⟨u,rfl,rx⟩:=vals1 r;cases rx;obtain⟨its,rv,pl,hz⟩:=I.list hq;obtain rfl:=DC rv;have lt:p<s.heap.objs.size:=by obtain⟨_,e,_⟩:=pl.isList;exact Heap.lt_size e
 refine call_all_walk (wpAny_pyIter_list pl.isList ⟨_,[_,p],[_],_,_,_,fun i=>(bs[i]?).getD true,rfl,Walks.list (A:=X.A.in1) (I.ok.hd hc) _ p (Nat.ne_of_lt lt) _,
  ⟨⟨_,Heap.get?_push_size _ rfl,rfl,rfl⟩,pl.isList.push _⟩,fun i v s' Q' E' hP hQ=>?_,fun h' tk hk=>?_⟩)
 ·have hP:(bs.map Value.bool)[i]?=some v:=by simpa using hP
  rw[List.getElem?_map]at hP;obtain⟨b,e,rfl⟩:=vn.mp hP;simp only[e,Option.getD_some]at hQ;exact wpAny_truthy_bool hQ
 ·have z:(bs.map Value.bool).toArray.size=bs.length:=by simp
  rw[z,BK];refine⟨.bl _,H,I.kept fun b o e=>hk b o (fun hm=>?_) (Heap.get?_push_of_some _ e),rfl,q⟩
  rw[List.mem_singleton.mp hm]at e;exact Nat.lt_irrefl _ (Heap.lt_size e)
end
end L2
namespace RM
def lsum(L:Nat->Int)(f:Nat->Bool):Nat->Int
 | 0=>0
 | n+1=>lsum L f n+(if f n=true then L n else 0)
section
variable {L:Nat->Int}
theorem nA{f g:Nat->Bool}:∀{n:Nat},(∀ k,k<n->f k=g k)->lsum L f n=lsum L g n
 | 0,_=>rfl
 | n+1,h=>by
   unfold lsum;rw[nA fun k hk=>h k (by lia),h n (by lia)]
theorem qi{f:Nat->Bool}:∀{n:Nat},(∀ k,k<n->f k=false)->lsum L f n=0
 | 0,_=>rfl
 | n+1,h=>by
   unfold lsum;rw[qi fun k hk=>h k (by lia),h n (by lia)]
   simp
theorem zT{f:Nat->Bool}{a:Nat}:∀{n:Nat},a<n->(∀ k,k<n->f k=decide (k=a))->lsum L f n=L a
 | 0,h,_=>by lia
 | n+1,ha,h=>by
   unfold lsum
   by_cases e:a=n
   ·subst e;rw[qi fun k hk=>by rw[h k (by lia)];exact cR (by lia),h a (by lia),cD rfl]
    simp
   ·rw[zT (show a<n by lia) fun k hk=>h k (by lia),h n (by lia),cR (by lia)]
    simp
theorem qj{f g:Nat->Bool}:∀{n:Nat},(∀ k,k<n->0<=L k)->(∀ k,k<n->f k=true->g k=true)->lsum L f n<=lsum L g n
 | 0,_,_=>Int.le_refl _
 | n+1,hL,h=>by
   unfold lsum;have ih:=qj (n:=n) (fun k hk=>hL k (by lia)) fun k hk=>h k (by lia)
   have h0:=hL n (by lia)
   have hn:=h n (by lia)
   cases hf:f n with
   | false=>cases g n<;>simp<;>lia
   | true=>rw[hn hf];simp;lia
theorem zU{f g:Nat->Bool}:∀{n:Nat},(∀ k,k<n->0<=L k)->lsum L (fun k=>f k^^g k) n<=lsum L f n+lsum L g n
 | 0,_=>Int.le_refl _
 | n+1,hL=>by
   unfold lsum;have ih:=zU (f:=f) (g:=g) (n:=n) fun k hk=>hL k (by lia)
   have h0:=hL n (by lia)
   cases f n<;>cases g n<;>simp<;>lia
theorem uv{f g:Nat->Bool}:∀{n:Nat},(∀ k,k<n->f k=true->g k=false)->lsum L (fun k=>f k^^g k) n=lsum L f n+lsum L g n
 | 0,_=>rfl
 | n+1,h=>by
   unfold lsum;rw[uv (f:=f) (g:=g) (n:=n) fun k hk=>h k (by lia)]
   have hn:=h n (by lia)
   cases hf:f n with
   | false=>cases g n<;>simp<;>lia
   | true=>rw[hn hf];simp;lia
theorem uw{k n:Nat}(h:k<n):lsum L (fun j=>(2^k).testBit j) n=L k:=zT h fun j _=>by
 rw[Nat.testBit_two_pow];exact decide_eq_decide.mpr eq_comm
end
theorem nB{m n k:Nat}(h:m<2^n)(hb:m.testBit k=true):k<n:=by
 apply Classical.byContradiction;intro hk;rw[Nat.testBit_lt_two_pow (Nat.lt_of_lt_of_le h (Nat.pow_le_pow_right (by decide) (by lia)))]at hb
 cases hb
def cd(x:Nat)(s:Bool):Nat:=2*x+s.toNat
def Jn(N:Net)(k v w:Nat):Prop:=(N.a k=v/\N.b k=w)\/(N.b k=v/\N.a k=w)
theorem Jn.lt{N:Net}{k v w:Nat}(hk:k<N.n)(h:Jn N k v w):w<N.p:=by
 rcases h with⟨_,rfl⟩|⟨_,rfl⟩
 ·exact N.bl k hk
 ·exact N.al k hk
inductive Wl(N:Net)(L:Nat->Int)(m u:Nat):List Nat->Nat->Bool->Int->Nat->Prop
 | nil:Wl N L m u [] u false 0 0
 | go {pre:List Nat} {v w k e:Nat} {s:Bool} {z:Int} (h:Wl N L m u pre v s z e) (hk:k<N.n) (hj:Jn N k v w):Wl N L m u (pre++[cd v s]) w (s^^m.testBit k) (z+L k) (e^^^2^k)
def Wy(N:Net)(L:Nat->Int)(m u x:Nat)(s:Bool)(z:Int):Prop:=∃ pre e,Wl N L m u pre x s z e
section
variable {N:Net}{L:Nat->Int}{m u:Nat}
theorem oN(hL:∀ k,k<N.n->0<=L k)(hu:u<N.p){pre:List Nat}{v e:Nat}{s:Bool}{z:Int}(h:Wl N L m u pre v s z e):
 v<N.p/\e<2^N.n/\(∀ x,N.bd e x=(decide (u=x)^^decide (v=x)))/\N.par e m=s/\lsum L (fun k=>e.testBit k) N.n<=z/\0<=z:=by
 induction h with
 | nil =>
   refine⟨hu,Nat.two_pow_pos _,fun x=>?_,jP m,?_,Int.le_refl _⟩
   ·rw[j9];cases decide (u=x)<;>rfl
   ·rw[qi fun k _=>Nat.zero_testBit k]
    exact Int.le_refl _
 | @go pre v w k e s z h hk hj ih =>
   obtain⟨i1,i2,i3,i4,i5,i6⟩:=ih;have h0:=hL k hk;refine⟨hj.lt hk,Nat.xor_lt_two_pow i2 (Nat.pow_lt_pow_right (by decide) hk),fun x=>?_,?_,?_,by lia⟩
   ·rw[eX,i3,iY hk];unfold Net.inc;rcases hj with⟨rfl,rfl⟩|⟨rfl,rfl⟩
    ·cases decide (u=x)<;>cases decide (N.a k=x)<;>cases decide (N.b k=x)<;>rfl
    ·cases decide (u=x)<;>cases decide (N.a k=x)<;>cases decide (N.b k=x)<;>rfl
   ·rw[my,i4,Dr hk]
   ·have:=zU (L:=L) (f:=fun j=>e.testBit j) (g:=fun j=>(2^k).testBit j) hL
    rw[uw hk]at this;rw[nA (g:=fun j=>e.testBit j^^(2^k).testBit j) fun j _=>Nat.testBit_xor ..]
    lia
def HH(N:Net)(L:Nat->Int)(m u x:Nat)(s:Bool):Option Int->Prop
 | none=>∀ z,¬ Wy N L m u x s z
 | some d=>Wy N L m u x s d/\∀ z,Wy N L m u x s z->d<=z
theorem oO(hL:∀ k,k<N.n->0<=L k)(m:Nat){r:Nat}(hr:N.Ring r)(hm:r<2^N.n):∃ x,x<N.p/\Wy N L m x x (N.par r m) (lsum L (fun k=>r.testBit k) N.n):=by
 obtain⟨t0,hb⟩:∃ t0,r.testBit t0=true:=by
  apply Classical.byContradiction;intro h;exact hr.1 (Nat.eq_of_testBit_eq fun i=>by
   rw[Nat.zero_testBit];cases e:r.testBit i with
   | false=>rfl
   | true=>exact absurd ⟨i,e⟩ h)
 have RV:t0<N.n:=nB hm hb;obtain⟨acc,v,w⟩:=ED hm hr hb;have key:∀{acc v left},Wk N r t0 acc v left->(∀ k,left.testBit k=true->r.testBit k=true)/\∃ pre s,Wl N L m (N.a t0) pre v s (lsum L (fun k=>(r^^^left).testBit k) N.n) (r^^^left):=by
  intro acc v left w
  induction w with
  | start =>
    have e:r^^^(r^^^2^t0)=2^t0:=by rw[<-Nat.xor_assoc,Nat.xor_self,Nat.zero_xor]
    refine⟨fun k hk=>?_,[]++[cd (N.a t0) false],false^^m.testBit t0,?_⟩
    ·rw[Nat.testBit_xor,Nat.testBit_two_pow]at hk
     by_cases e:t0=k
     ·rw[<-e];exact hb
     ·rw[cR e,Bool.xor_false]at hk;exact hk
    ·rw[e,uw RV];have:=Wl.go (m:=m) (L:=L) (.nil (u:=N.a t0)) RV (.inl ⟨rfl,rfl⟩)
     rwa [Int.zero_add,Nat.zero_xor]at this
  | @next acc v left t w h0 ht ih =>
    obtain⟨sub,pre,s,wl⟩:=ih;have hm2:=i7.mp (gy ht);have htr:=sub t hm2.2.1;have Ox:=nB hm htr;refine⟨fun k hk=>?_,pre++[cd v s],s^^m.testBit t,?_⟩
    ·rw[Nat.testBit_xor,Nat.testBit_two_pow]at hk
     by_cases e:t=k
     ·rw[<-e];exact htr
     ·rw[cR e,Bool.xor_false]at hk;exact sub k hk
    ·have e:r^^^(left^^^2^t)=r^^^left^^^2^t:=by rw[Nat.xor_assoc]
     have hs:lsum L (fun k=>(r^^^left^^^2^t).testBit k) N.n=lsum L (fun k=>(r^^^left).testBit k) N.n+L t:=by
      rw[nA (g:=fun j=>(r^^^left).testBit j^^(2^t).testBit j) fun j _=>Nat.testBit_xor ..,uv,uw Ox]
      intro k _ hk;rw[Nat.testBit_two_pow];refine cR fun e=>?_
      subst e;rw[Nat.testBit_xor,htr,hm2.2.1]at hk;cases hk
     rw[e,hs];exact wl.go Ox (zQ hm2.2.2)
 obtain⟨_,pre,s,wl⟩:=key w;rw[Nat.xor_zero]at wl;have f:=oN hL (N.al t0 RV) wl;have hv:N.a t0=v:=by
  have:=f.2.2.1 v;rw[hr.2.1 v f.1,cD (rfl:v=v)]at this;cases h:decide (N.a t0=v) with
  | true=>exact iG h
  | false=>rw[h]at this;cases this
 refine⟨N.a t0,N.al t0 RV,pre,r,?_⟩;have hs:=f.2.2.2.1;rw[hs];rw[<-hv]at wl;exact wl
theorem BL{m:Nat}:∀(c e:Nat),cnt (fun k=>e.testBit k) N.n=c->e<2^N.n->N.cL e->N.par e m=true->∃ r,N.Ring r/\(∀ k,r.testBit k=true->e.testBit k=true)/\N.par r m=true:=by
 intro c
 induction c using Nat.strongRecOn with
 | _ c ih =>
   intro e hc he ev hp
   by_cases hr:N.Ring e
   ·exact⟨e,hr,fun _ h=>h,hp⟩
   have h0:e≠0:=fun z=>by rw[z,jP]at hp;cases hp
   obtain⟨q,hq,K3,q0,qe⟩:∃ q,(∀ k,q.testBit k=true->e.testBit k=true)/\N.cL q/\q≠0/\q≠e:=by
    apply Classical.byContradiction;intro h;refine hr ⟨h0,ev,fun q hq K3=>?_⟩
    apply Classical.byContradiction;intro h2;exact h ⟨q,hq,K3,fun z=>h2 (.inl z),fun z=>h2 (.inr z)⟩
   have small:∀ q,(∀ k,q.testBit k=true->e.testBit k=true)->q≠e->cnt (fun k=>q.testBit k) N.n<c:=by
    intro q hq qe;have h1:=Bw (f:=fun k=>q.testBit k) (g:=fun k=>e.testBit k) (n:=N.n) fun k _ h=>hq k h
    have h2:cnt (fun k=>q.testBit k) N.n≠cnt (fun k=>e.testBit k) N.n:=fun h=>qe (Nat.eq_of_testBit_eq fun k=>by
     by_cases hk:k<N.n
     ·have:=zF (f:=fun k=>q.testBit k) (g:=fun k=>e.testBit k) (fun k _ h=>hq k h) h k hk
      cases h3:e.testBit k with
      | true=>exact this h3
      | false=>cases h4:q.testBit k with
        | false=>rfl
        | true=>rw[hq k h4]at h3;cases h3
     ·cases h3:e.testBit k with
      | true=>exact absurd (nB he h3) hk
      | false=>cases h4:q.testBit k with
        | false=>rfl
        | true=>rw[hq k h4]at h3;cases h3)
    lia
   have lt:∀ q,(∀ k,q.testBit k=true->e.testBit k=true)->q<2^N.n:=fun q hq=>cF fun k hk=>nB he (hq k hk)
   have hq2:∀ k,(e^^^q).testBit k=true->e.testBit k=true:=fun k hk=>by
    rw[Nat.testBit_xor]at hk;cases h3:e.testBit k with
    | true=>rfl
    | false =>
      cases h4:q.testBit k with
      | false=>rw[h3,h4]at hk;cases hk
      | true=>rw[hq k h4]at h3;cases h3
   have fin:∀ q,(∀ k,q.testBit k=true->e.testBit k=true)->q≠e->N.cL q->N.par q m=true->∃ r,N.Ring r/\(∀ k,r.testBit k=true->e.testBit k=true)/\N.par r m=true:=by
    intro q hq qe K3 hpq;obtain⟨r,h1,h2,h3⟩:=ih _ (small q hq qe) q rfl (lt q hq) K3 hpq;exact⟨r,h1,fun k hk=>hq k (h2 k hk),h3⟩
   cases hpq:N.par q m with
   | true=>exact fin q hq qe K3 hpq
   | false =>
     refine fin (e^^^q) hq2 (fun z=>q0 ?_) (cL.xor ev K3) (by rw[my,hp,hpq];rfl)
     have:e^^^(e^^^q)=e^^^e:=by rw[z]
     rwa [<-Nat.xor_assoc,Nat.xor_self,Nat.zero_xor]at this
end
end RM
namespace Ring
open PySem L2
def bj(ts:List c9)(k:Nat):Int:=(aU ts k).2.2
theorem xg(ts:List c9)(f:Nat->Bool):∀ n,El ts f n=RM.lsum (bj ts) f n
 | 0=>rfl
 | n+1=>by
   show El ts f n+_=RM.lsum (bj ts) f n+_;rw[xg ts f n];rfl
theorem BN{ts:List c9}{m:Nat}(hm:m<2^ts.length):lenOf ts m=RM.lsum (bj ts) (fun k=>m.testBit k) ts.length:=by
 rw[Em hm,xg]
theorem xh{p:Nat}{ts:List c9}(g:aA p ts):∀ k,k<g.N.n->0<=bj ts k:=fun k hk=>by
 have:=(g.vz _ (eI hk)).l0;unfold bj
 lia
structure BO(H0:Hp)(D:Addr)(es:List Addr)(F:Nat->Bool->Option Int)(H:Hp):Prop where
 same:au H0 H
 nd:es.Nodup
 ne:D∉es
 fr:∀ b∈es,H0 b=none
 Dn:H0 D=none
 lst:H D=some (.lst (es.map V.ref))
 at_:∀ i b,es[i]?=some b->H b=some (.lst [oV (F i false),oV (F i true)])
theorem BO.go{H0 H H' : Hp}{D:Addr}{es:List Addr}{F:Nat->Bool->Option Int}(h:BO H0 D es F H)(s:au H H'):BO H0 D es F H' :=
 ⟨h.same.trans s,h.nd,h.ne,h.fr,h.Dn,s _ _ h.lst,fun i b e=>s _ _ (h.at_ i b e)⟩
theorem BO.off{H0 H:Hp}{D L:Addr}{es:List Addr}{F:Nat->Bool->Option Int}(h:BO H0 D es F H)(hL:H L=none):L∉es:=fun z=>by
 obtain⟨j,hj⟩:=List.getElem?_of_mem z;have:=h.at_ j L hj;rw[hL]at this;cases this
def zV(H0:Hp)(D:Addr)(i:Nat)(acc:List V)(H:Hp):Prop:=∃ es,acc=es.map V.ref/\es.length=i/\BO H0 D es (fun _ _=>none) H
theorem zV.start{H0:Hp}{D:Addr}(hD:H0 D=none):zV H0 D 0 [] (upd H0 D (.lst [])) :=
 ⟨[],rfl,rfl,au.new hD,List.nodup_nil,List.not_mem_nil,fun _ h=>(List.not_mem_nil h).elim,hD,ae,fun i b e=>by cases e⟩
theorem zV.len{H0 H:Hp}{D:Addr}{i:Nat}{acc:List V}(h:zV H0 D i acc H):H D=some (.lst acc)/\acc.length<=i:=by
 obtain⟨es,rfl,e,r⟩:=h;exact⟨r.lst,by rw[List.length_map];lia⟩
theorem zV.next{H0 H:Hp}{D b:Addr}{i:Nat}{acc:List V}(h:zV H0 D i acc H)(hb:H b=none):upd H b (.lst [.dU,.dU]) D=some (.lst acc)/\zV H0 D (i+1) (acc++[.ref b]) (upd (upd H b (.lst [.dU,.dU])) D (.lst (acc++[.ref b]))):=by
 obtain⟨es,rfl,e,r⟩:=h;have Nu:D≠b:=fun z=>by
  have:=r.lst;rw[z,hb]at this;cases this
 have hbn:b∉es:=r.off hb;have hb0:H0 b=none:=r.same.free hb;refine⟨by rw[ao Nu];exact r.lst,es++[b],by simp,by simp[e],(r.same.put hb0).put r.Dn,?_,?_,fun c hc=>?_,r.Dn,by rw[ae];simp,fun j c hc=>?_⟩
 ·exact List.nodup_append.mpr ⟨r.nd,by simp,fun x hx y hy=>by rw[List.mem_singleton.mp hy];exact fun z=>hbn (z▸hx)⟩
 ·intro hm;rcases List.mem_append.mp hm with z|z
  ·exact r.ne z
  ·exact Nu (List.mem_singleton.mp z)
 ·rcases List.mem_append.mp hc with z|z
  ·exact r.fr c z
  ·rw[List.mem_singleton.mp z];exact hb0
 ·have TV:c≠D:=fun z=>by
   subst z;rcases List.mem_append.mp (gy hc) with z|z
   ·exact r.ne z
   ·exact Nu (List.mem_singleton.mp z)
  rw[ao TV]
  by_cases ec:c=b
  ·rw[ec,ae];rfl
  ·rw[ao ec]
   by_cases hj:j<es.length
   ·rw[List.getElem?_append_left hj]at hc;exact r.at_ j c hc
   ·rw[List.getElem?_append_right (by lia)]at hc
    have:=gy hc;exact absurd (List.mem_singleton.mp this) ec
def kZ(F:Nat->Bool->Option Int)(p:Nat):List Pr:=(List.range p).map fun i=>(F i false,F i true)
theorem Nv{F:Nat->Bool->Option Int}{p x:Nat}(h:x<p)(s:Bool):sel (KY (kZ F p) x) s=F x s:=by
 unfold KY kZ;rw[List.getD_eq_getElem?_getD,List.getElem?_map,List.getElem?_range h];cases s<;>rfl
theorem HJ(F:Nat->Bool->Option Int)(i:Nat):kZ F (i+1)=kZ F i++[(F i false,F i true)]:=by
 unfold kZ;rw[List.range_succ,List.map_append];rfl
theorem DE(F:Nat->Bool->Option Int)(i:Nat):(kZ F i).length=i:=by
 unfold kZ;rw[List.length_map,List.length_range]
end Ring
namespace RM
variable {N:Net}{L:Nat->Int}{m u:Nat}
end RM
namespace Ring
open PySem L2
variable {p:Nat}{ts:List c9}{g:aA p ts}{m:Nat}{W:List (List Pr)}
def Qj(p:Nat)(ts:List c9)(g:aA p ts)(m:Nat)(W:List (List Pr)):Prop:=∀ i,i<p->∀ x s,x<p->RM.HH g.N (bj ts) m i x s (sel (KY (W.getD i []) x) s)
end Ring
namespace RM
open Ring (maskOf mask_bit mask_lt)
theorem dZ{a b:Nat}(h:a^^^b=0):a=b:=by
 have:=congrArg (fun y=>y^^^b) h
 simp only[Nat.zero_xor]at this
 rwa [Nat.xor_assoc,Nat.xor_self,Nat.xor_zero]at this
def comb:List Nat->Nat->Nat
 | [],_=>0
 | b::B,z=>(if z.testBit 0=true then b else 0)^^^comb B (z/2)
theorem HK(a b c d:Nat):(a^^^b)^^^(c^^^d)=(a^^^c)^^^(b^^^d):=Nat.eq_of_testBit_eq fun i=>by
 simp only[Nat.testBit_xor];cases a.testBit i<;>cases b.testBit i<;>cases c.testBit i<;>cases d.testBit i<;>rfl
theorem HM(z y:Nat):(z^^^y)/2=z/2^^^y/2:=Nat.eq_of_testBit_eq fun i=>by
 rw[Nat.testBit_xor,<-Nat.testBit_succ,<-Nat.testBit_succ,<-Nat.testBit_succ,Nat.testBit_xor]
theorem ia:∀(B:List Nat) (z y:Nat),comb B (z^^^y)=comb B z^^^comb B y
 | [],_,_=>by simp[comb]
 | b::B,z,y=>by
   unfold comb;rw[HM,ia B,Nat.testBit_xor,HK]
   congr 1
   cases z.testBit 0<;>cases y.testBit 0<;>simp
theorem jR:∀(B:List Nat),comb B 0=0
 | []=>rfl
 | b::B=>by
   unfold comb;rw[Nat.zero_testBit,show 0/2=0 from rfl,jR B]
   simp
theorem HN(i:Nat):2^(i+1)/2=2^i:=by
 rw[Nat.pow_succ,Nat.mul_div_cancel _ (by decide)]
theorem oQ:∀{B:List Nat} {i b:Nat},B[i]?=some b->comb B (2^i)=b
 | [],i,b,h=>by simp at h
 | b'::B,0,b,h=>by
   have:b' = b:=by simpa using h
   subst this;unfold comb;rw[show(2^0:Nat).testBit 0=true from rfl,if_pos rfl,show(2^0:Nat)/2=0 from rfl,jR,Nat.xor_zero]
 | b'::B,i+1,b,h=>by
   unfold comb;have h0:(2^(i+1)).testBit 0=false:=by rw[Nat.testBit_two_pow];simp
   rw[h0,if_neg (by decide),Nat.zero_xor,HN]
   exact oQ (B:=B) h
theorem gG:∀(B:List Nat) (b z:Nat),comb (B++[b]) z=comb B z^^^(if z.testBit B.length=true then b else 0)
 | [],b,z=>by
   show(if z.testBit 0=true then b else 0)^^^0=0^^^_
   rw[Nat.xor_zero,Nat.zero_xor];rfl
 | b'::B,b,z=>by
   show(if z.testBit 0=true then b' else 0)^^^comb (B++[b]) (z/2)=((if z.testBit 0=true then b' else 0)^^^comb B (z/2))^^^_
   rw[gG B b (z/2),Nat.xor_assoc,<-Nat.testBit_succ];rfl
theorem qk:∀(B:List Nat) {z:Nat},(∀ i,i<B.length->z.testBit i=false)->comb B z=0
 | [],_,_=>rfl
 | b::B,z,h=>by
   unfold comb;rw[h 0 (by simp),if_neg (by decide),Nat.zero_xor]
   exact qk B fun i hi=>by rw[<-Nat.testBit_succ];exact h (i+1) (by simp;lia)
theorem ko(B:List Nat):∀ z,Sp B (comb B z):=by
 induction B with
 | nil=>intro z;exact .zero
 | cons b B ih =>
   intro z;have h:Sp (b::B) (comb B (z/2)):=(ih (z/2)).mono fun c hc=>.mem (jY _ hc)
   unfold comb;rw[Nat.xor_comm]
   by_cases e:z.testBit 0=true
   ·rw[if_pos e];exact h.add List.mem_cons_self
   ·rw[if_neg e,Nat.xor_zero];exact h
theorem sP{B:List Nat}{x:Nat}(h:Sp B x):∃ z,z<2^B.length/\comb B z=x:=by
 induction h with
 | zero=>exact⟨0,Nat.two_pow_pos _,jR B⟩
 | add h hb ih =>
   obtain⟨z,hz,e⟩:=ih;obtain⟨i,hi⟩:=List.getElem?_of_mem hb;have zL:=(iH.mp hi).1;exact⟨z^^^2^i,Nat.xor_lt_two_pow hz (Nat.pow_lt_pow_right (by decide) zL),by rw[ia,e,oQ hi]⟩
def rY(B:List Nat):Prop:=∀ z,z<2^B.length->comb B z=0->z=0
def K4(B:List Nat):Prop:=∀ i b,B[i]?=some b->¬ Sp (B.take i) b
theorem oR{B:List Nat}{b:Nat}:rY (B++[b])↔rY B/\¬ Sp B b:=by
 have hl:(B++[b]).length=B.length+1:=by simp
 constructor
 ·intro h;refine⟨fun z hz e=>h z ?_ ?_,fun hs=>?_⟩
  ·rw[hl,Nat.pow_succ];lia
  ·rw[gG,e,Nat.testBit_lt_two_pow hz];simp
  ·obtain⟨y,hy,e⟩:=sP hs;have hlt:2^B.length<2^(B.length+1):=Nat.pow_lt_pow_right (by decide) (by lia)
   have:=h (y^^^2^B.length) (by rw[hl];exact Nat.xor_lt_two_pow (by lia) hlt) (by
    have h1:(y^^^2^B.length).testBit B.length=true:=by
     rw[Nat.testBit_xor,Nat.testBit_lt_two_pow hy,Nat.testBit_two_pow_self];rfl
    have h2:comb B (2^B.length)=0:=qk B fun i hi=>by
     rw[Nat.testBit_two_pow];exact cR (by lia)
    rw[gG,h1,if_pos rfl,ia,h2,e,Nat.xor_zero,Nat.xor_self])
   have h3:(y^^^2^B.length).testBit B.length=false:=by rw[this,Nat.zero_testBit]
   rw[Nat.testBit_xor,Nat.testBit_lt_two_pow hy,Nat.testBit_two_pow_self]at h3;cases h3
 ·rintro⟨h,hs⟩ z hz e;rw[gG]at e
  by_cases hb:z.testBit B.length=true
  ·rw[if_pos hb]at e;have e2:comb B z=b:=by
    have:=congrArg (fun y=>y^^^b) e
    simp only[jQ,Nat.zero_xor]at this;exact this
   exact absurd (e2▸ko B z) hs
  ·rw[if_neg hb,Nat.xor_zero]at e;refine h z ?_ e;refine cF fun k hk=>?_
   have:=bU hz hk;rw[hl]at this;have:k≠B.length:=fun e=>hb (e▸hk)
   lia
theorem EI{B:List Nat}{b:Nat}:K4 (B++[b])↔K4 B/\¬ Sp B b:=by
 constructor
 ·intro h;refine⟨fun i c hc=>?_,?_⟩
  ·have hi:=(iH.mp hc).1;have:=h i c (by rw[List.getElem?_append_left hi];exact hc)
   rwa [List.take_append_of_le_length (Nat.le_of_lt hi)]at this
  ·have:=h B.length b (by simp)
   rwa [List.take_left' rfl]at this
 ·rintro⟨h,hs⟩ i c hc
  by_cases hi:i<B.length
  ·rw[List.getElem?_append_left hi]at hc;rw[List.take_append_of_le_length (Nat.le_of_lt hi)];exact h i c hc
  ·have hl:=(iH.mp hc).1;have e:i=B.length:=by simp at hl;lia
   subst e;rw[List.getElem?_append_right (Nat.le_refl _),Nat.sub_self]at hc;have:b=c:=by simpa using hc
   subst this;rw[List.take_left' rfl];exact hs
theorem take_snoc{B:List Nat}{i b:Nat}(h:B[i]?=some b):B.take (i+1)=B.take i++[b]:=by
 rw[List.take_add_one,h];rfl
theorem DF(B:List Nat):rY B↔K4 B:=by
 have key:∀ n,n<=B.length->(rY (B.take n)↔K4 (B.take n)):=by
  intro n
  induction n with
  | zero=>exact fun _=>⟨fun _ i b h=>by simp at h,fun _ z hz _=>by simp at hz;exact hz⟩
  | succ n ih =>
    intro hn;have hb:B[n]?=some B[n]:=List.getElem?_eq_getElem hn;rw[take_snoc hb,oR,EI,ih (by lia)]
 have:=key B.length (Nat.le_refl _)
 rwa [List.take_length]at this
theorem ux(B:List Nat)(h:rY B){z y:Nat}(hz:z<2^B.length)(hy:y<2^B.length)(e:comb B z=comb B y):z=y:=by
 have:=h (z^^^y) (Nat.xor_lt_two_pow hz hy) (by rw[ia,e,Nat.xor_self])
 exact dZ this
section
variable {N:Net}
theorem xj{B:List Nat}(h:∀ b∈B,N.cL b/\b<2^N.n)(z:Nat):N.cL (comb B z)/\comb B z<2^N.n:=by
 have hs:=ko B z;refine⟨?_,hs.lt fun b hb=>(h b hb).2⟩
 generalize comb B z=x at hs
 induction hs with
 | zero=>exact cL.zero
 | add _ hb ih=>exact cL.xor ih (h _ hb).1
theorem yb{f:Nat->Nat}{a b:Nat}(hf:∀ z,z<2^a->f z<2^b)(inj:∀ z y,z<2^a->y<2^a->f z=f y->z=y):a<=b:=by
 have nd:((List.range (2^a)).map f).Nodup:=by
  refine List.pairwise_map.mpr ?_;refine List.Pairwise.imp_of_mem (fun {z y} hz hy hne e=>?_) List.nodup_range
  exact hne (inj z y (List.mem_range.mp hz) (List.mem_range.mp hy) e)
 have:=oF nd fun x hx=>by
  obtain⟨z,hz,rfl⟩:=List.mem_map.mp hx;exact hf z (List.mem_range.mp hz)
 rw[List.length_map,List.length_range]at this;exact(Nat.pow_le_pow_iff_right (by decide)).mp this
def meets(ks:List Nat)(m:Nat):Nat:=maskOf (fun i=>m.testBit (ks.getD i 0)) ks.length
theorem zW(ks:List Nat)(m:Nat):meets ks m<2^ks.length:=mask_lt _ _
theorem xm{ks:List Nat}{m i k:Nat}(h:ks[i]?=some k):(meets ks m).testBit i=m.testBit k:=by
 unfold meets;rw[mask_bit,List.getD_eq_getElem?_getD,h,cD (iH.mp h).1];rfl
theorem HP{B:List Nat}(hi:rY B)(h:∀ b∈B,N.cL b/\b<2^N.n):B.length<=N.aN.length:=by
 refine yb (f:=fun z=>meets N.aN (comb B z)) (fun z _=>zW _ _) fun z y hz hy e=>ux B hi hz hy ?_
 have h1:=xj h z;have h2:=xj h y;refine dZ (fZ (N:=N) (fun k hk=>?_) (cL.xor h1.1 h2.1))
 have hkn:=bU (Nat.xor_lt_two_pow h1.2 h2.2) hk;refine⟨hkn,?_⟩;cases hf:N.kc k with
 | true=>rfl
 | false =>
   obtain⟨j,hj⟩:=List.getElem?_of_mem (cg.mpr ⟨hkn,hf⟩);have e:meets N.aN (comb B z)=meets N.aN (comb B y):=e;have:=congrArg (fun x=>x.testBit j) e
   simp only[xm hj]at this;rw[Nat.testBit_xor,this,Bool.xor_self]at hk;cases hk
theorem K5{ks:List Nat}(h:∀ m,m<2^N.n->N.cL m->(∀ k∈ks,m.testBit k=false)->m=0):N.aN.length<=ks.length:=by
 refine yb (f:=fun z=>meets ks (N.mV z N.aN 0)) (fun z _=>zW _ _) fun z y hz hy e=>?_
 have h1:=p7 (N:=N) (number:=z) (l:=N.aN) (i:=0) fun c hc=>(cg.mp hc).1
 have h2:=p7 (N:=N) (number:=y) (l:=N.aN) (i:=0) fun c hc=>(cg.mp hc).1
 have e0:N.mV z N.aN 0=N.mV y N.aN 0:=dZ (h _ (Nat.xor_lt_two_pow h1.2 h2.2) (cL.xor h1.1 h2.1) fun k hk=>by
  obtain⟨j,hj⟩:=List.getElem?_of_mem hk;have e:meets ks (N.mV z N.aN 0)=meets ks (N.mV y N.aN 0):=e;have:=congrArg (fun x=>x.testBit j) e
  simp only[xm hj]at this;rw[Nat.testBit_xor,this,Bool.xor_self])
 refine Nat.eq_of_testBit_eq fun j=>?_
 by_cases hj:j<N.aN.length
 ·have hc:N.aN[j]?=some N.aN[j]:=List.getElem?_eq_getElem hj;rw[<-HG hc,<-HG hc,e0]
 ·rw[Nat.testBit_lt_two_pow (Nat.lt_of_lt_of_le hz (Nat.pow_le_pow_right (by decide) (by lia))),Nat.testBit_lt_two_pow (Nat.lt_of_lt_of_le hy (Nat.pow_le_pow_right (by decide) (by lia)))]
structure Base(N:Net)(rs:List Nat):Prop where
 len:rs.length=N.aN.length
 ring:∀ r∈rs,N.Ring r/\r<2^N.n
 ind:rY rs
def Qk(N:Net)(s:Nat):Prop:=∀ q,(∀ k,q.testBit k=true->s.testBit k=true)->N.cL q->q=0
open Classical in
theorem DG{s t u v:Nat}(hs:s<2^N.n)(ht:∀ k,t.testBit k=true->s.testBit k=true)(hu:u<N.p)(hv:v<N.p)(hb:∀ x,N.bd t x=(decide (u=x)^^decide (v=x))):N.fG (fun k=>s.testBit k) N.n u v:=by
 apply Classical.byContradiction;intro hn
 let C:Nat->Bool:=fun x=>decide (N.fG (fun k=>s.testBit k) N.n u x)
 have h1:=zu (N:=N) (m:=t) C fun k hk hb=>by
  have JG:=ht k hb;have:N.fG (fun k=>s.testBit k) N.n (N.a k) (N.b k):=bB _ _ _ (fY hk JG)
  show decide _=decide _;rw[decide_eq_decide];exact⟨fun h=>h.trans this,fun h=>h.trans this.symm⟩
 have h2:bg (fun x=>C x&&N.bd t x) N.p=bg (fun x=>C x&&decide (u=x)) N.p:=aZ fun x _=>by
  rw[hb]
  by_cases e:v=x
  ·subst e;have:C v=false:=cR hn;rw[this];rfl
  ·rw[cR e,Bool.xor_false]
 rw[h2,gF C hu]at h1;have:C u=true:=cD .refl;rw[this]at h1;cases h1
theorem gh{s k:Nat}(j:Nat):(s ||| 2^k).testBit j=(s.testBit j || decide (k=j)):=by
 rw[Nat.testBit_or,Nat.testBit_two_pow]
theorem Qk.put{s k:Nat}(hs:s<2^N.n)(h:Qk N s)(hk:k<N.n)(hn : ¬ N.fG (fun j=>s.testBit j) N.n (N.a k) (N.b k)):Qk N (s ||| 2^k):=by
 intro q hq ev
 by_cases hb:q.testBit k=true
 ·exfalso
  refine hn (DG (t:=q^^^2^k) hs (fun j hj=>?_) (N.al k hk) (N.bl k hk) fun x=>?_)
  ·rw[Nat.testBit_xor,Nat.testBit_two_pow]at hj
   by_cases e:k=j
   ·subst e;rw[hb]at hj;simp at hj
   ·rw[cR e,Bool.xor_false]at hj;have:=hq j hj;rw[gh,cR e,Bool.or_false]at this;exact this
  ·have hx:N.bd q x=false:=by
    by_cases hx:x<N.p
    ·exact ev x hx
    ·refine Nr fun j hj _=>⟨?_,?_⟩
     ·have:=N.al j hj;lia
     ·have:=N.bl j hj;lia
   rw[eX,hx,iY hk];unfold Net.inc;rw[Bool.false_xor]
 ·refine h q (fun j hj=>?_) ev
  have:=hq j hj;rw[gh]at this
  by_cases e:k=j
  ·subst e;exact absurd hj hb
  ·rw[cR e,Bool.or_false]at this;exact this
theorem HQ{s t k:Nat}(hs:s<2^N.n)(h:Qk N s)(hk:k<N.n)(JG:s.testBit k=false)(ht:∀ j,t.testBit j=true->s.testBit j=true)(hb:∀ x,N.bd t x=(decide (N.a k=x)^^decide (N.b k=x))):N.Ring (t ||| 2^k)/\t ||| 2^k<2^N.n:=by
 have htk:t.testBit k=false:=by
  cases e:t.testBit k with
  | false=>rfl
  | true=>rw[ht k e]at JG;cases JG
 have TX:t ||| 2^k=t^^^2^k:=Nat.eq_of_testBit_eq fun j=>by
  rw[gh,Nat.testBit_xor,Nat.testBit_two_pow]
  by_cases e:k=j
  ·subst e;rw[htk];simp
  ·rw[cR e,Bool.or_false,Bool.xor_false]
 have hlt:t ||| 2^k<2^N.n:=cF fun j hj=>by
  rw[gh]at hj
  by_cases e:k=j
  ·lia
  ·rw[cR e,Bool.or_false]at hj;exact bU hs (ht j hj)
 have own:(t ||| 2^k).testBit k=true:=by rw[gh,cD rfl,Bool.or_true]
 have ev:N.cL (t ||| 2^k):=fun x _=>by
  rw[TX,eX,hb,iY hk];unfold Net.inc;rw[Bool.xor_self]
 refine⟨⟨fun z=>?_,ev,fun q hq K3=>?_⟩,hlt⟩
 ·rw[z,Nat.zero_testBit]at own;cases own
 ·have sub:∀ j,(t ||| 2^k).testBit j=true->j≠k->s.testBit j=true:=fun j hj hne=>by
   rw[gh,cR (fun z=>hne z.symm),Bool.or_false]at hj
   exact ht j hj
  by_cases hq1:q.testBit k=true
  ·refine .inr ?_;have:=h ((t ||| 2^k)^^^q) (fun j hj=>?_) (cL.xor ev K3)
   ·exact(dZ this).symm
   ·rw[Nat.testBit_xor]at hj;have hne:j≠k:=fun z=>by subst z;rw[own,hq1]at hj;cases hj
    cases hr:(t ||| 2^k).testBit j with
    | true=>exact sub j hr hne
    | false =>
      rw[hr,Bool.false_xor]at hj;rw[hq j hj]at hr;cases hr
  ·refine .inl (h q (fun j hj=>?_) K3)
   exact sub j (hq j hj) fun z=>hq1 (z▸hj)
structure Fr(N:Net)(done:List Nat)(s:Nat)(ks rs:List Nat):Prop where
 lt:s<2^N.n
 RW:Qk N s
 sub:∀ k,s.testBit k=true->k∈done
 zX:∀ k∈ks,k∈done/\s.testBit k=false
 nd:ks.Nodup
 all:∀ k∈done,s.testBit k=true\/k∈ks
 len:rs.length=ks.length
 ring:∀ r∈rs,N.Ring r/\r<2^N.n
 at_:∀(i j r k:Nat),rs[i]?=some r->ks[j]?=some k->r.testBit k=decide (i=j)
 HR:∀ r∈rs,∀ k,r.testBit k=true->k∈done
theorem Fr.start:Fr N [] 0 [] [] :=
 ⟨Nat.two_pow_pos _,(fun q hq _=>Nat.eq_of_testBit_eq fun i=>by
  cases e:q.testBit i with
  | false=>rw[Nat.zero_testBit]
  | true=>have:=hq i e;rw[Nat.zero_testBit]at this;cases this),(fun k hk=>by rw[Nat.zero_testBit]at hk;cases hk),(fun k hk=>nomatch hk),List.nodup_nil,(fun k hk=>nomatch hk),rfl,(fun r hr=>nomatch hr),(fun i j r k h=>by simp at h),(fun r hr=>nomatch hr)⟩
theorem Fr.tree{done:List Nat}{s k:Nat}{ks rs:List Nat}(f:Fr N done s ks rs)(hk:k<N.n)(hd:k∉done)(hn : ¬ N.fG (fun j=>s.testBit j) N.n (N.a k) (N.b k)):Fr N (done++[k]) (s ||| 2^k) ks rs:=by
 refine⟨cF fun j hj=>?_,f.RW.put f.lt hk hn,fun j hj=>?_,fun j hj=>⟨vV _ (f.zX j hj).1,?_⟩,f.nd,fun j hj=>?_,f.len,f.ring,f.at_,fun r hr j hj=>vV _ (f.HR r hr j hj)⟩
 ·rw[gh]at hj
  by_cases e:k=j
  ·lia
  ·rw[cR e,Bool.or_false]at hj;exact bU f.lt hj
 ·rw[gh]at hj
  by_cases e:k=j
  ·exact gZ _ (by simp[e])
  ·rw[cR e,Bool.or_false]at hj;exact vV _ (f.sub j hj)
 ·rw[gh,(f.zX j hj).2,Bool.false_or];exact cR fun e=>hd (e▸(f.zX j hj).1)
 ·rcases List.mem_append.mp hj with hj|hj
  ·rcases f.all j hj with h|h
   ·exact .inl (by rw[gh,h];rfl)
   ·exact .inr h
  ·have e:j=k:=by simpa using hj
   exact .inl (by rw[gh,e,cD rfl,Bool.or_true])
theorem Fr.Ql{done:List Nat}{s k t:Nat}{ks rs:List Nat}(f:Fr N done s ks rs)(hk:k<N.n)(hd:k∉done)(ht:∀ j,t.testBit j=true->s.testBit j=true)(hb:∀ x,N.bd t x=(decide (N.a k=x)^^decide (N.b k=x))):Fr N (done++[k]) s (ks++[k]) (rs++[t ||| 2^k]):=by
 have JG:s.testBit k=false:=by
  cases e:s.testBit k with
  | false=>rfl
  | true=>exact absurd (f.sub k e) hd
 have hr:=HQ f.lt f.RW hk JG ht hb;refine⟨f.lt,f.RW,fun j hj=>vV _ (f.sub j hj),fun j hj=>?_,?_,fun j hj=>?_,?_,fun r hr'=>?_,?_,fun r hr' j hj=>?_⟩
 ·rcases List.mem_append.mp hj with hj|hj
  ·exact⟨vV _ (f.zX j hj).1,(f.zX j hj).2⟩
  ·have e:j=k:=by simpa using hj
   rw[e];exact⟨gZ _ (by simp),JG⟩
 ·exact List.nodup_append.mpr ⟨f.nd,by simp,fun x hx y hy=>by
   have e:y=k:=by simpa using hy
   rw[e];rintro rfl;exact hd (f.zX x hx).1⟩
 ·rcases List.mem_append.mp hj with hj|hj
  ·rcases f.all j hj with h|h
   ·exact .inl h
   ·exact .inr (vV _ h)
  ·exact .inr (gZ _ hj)
 ·rw[List.length_append,List.length_append,f.len];rfl
 ·rcases List.mem_append.mp hr' with h|h
  ·exact f.ring r h
  ·have e:r=t ||| 2^k:=by simpa using h
   rw[e];exact hr
 ·intro i j r q hi hj;have zL:=(iH.mp hi).1;have HS:=(iH.mp hj).1;rw[List.length_append,f.len]at zL;rw[List.length_append]at HS;have one:∀ x:Nat,([x]:List Nat).length=1:=fun _=>rfl
  rw[one]at zL HS
  by_cases i1:i<rs.length
  ·rw[List.getElem?_append_left i1]at hi
   by_cases j1:j<ks.length
   ·rw[List.getElem?_append_left j1]at hj;exact f.at_ i j r q hi hj
   ·rw[List.getElem?_append_right (by lia)]at hj
    have e:q=k:=by
     have:=gy hj
     simpa using this
    rw[e,cR (by have:=f.len;lia)]
    cases h:r.testBit k with
    | false=>rfl
    | true=>exact absurd (f.HR r (gy hi) k h) hd
  ·rw[List.getElem?_append_right (by lia)]at hi
   have e:r=t ||| 2^k:=by
    have:=gy hi
    simpa using this
   by_cases j1:j<ks.length
   ·rw[List.getElem?_append_left j1]at hj;have hq:=f.zX q (gy hj);rw[e,gh,cR (show ¬ i=j by have:=f.len;lia),cR (show ¬ k=q from fun z=>hd (z▸hq.1)),Bool.or_false]
    cases h:t.testBit q with
    | false=>rfl
    | true=>rw[ht q h]at hq;cases hq.2
   ·rw[List.getElem?_append_right (by lia)]at hj
    have e2:q=k:=by
     have:=gy hj
     simpa using this
    rw[e,e2,gh,cD rfl,Bool.or_true,cD (by have:=f.len;lia)]
 ·rcases List.mem_append.mp hr' with h|h
  ·exact vV _ (f.HR r h j hj)
  ·have e:r=t ||| 2^k:=by simpa using h
   rw[e,gh]at hj
   by_cases e:k=j
   ·exact gZ _ (by simp[e])
   ·rw[cR e,Bool.or_false]at hj;exact vV _ (f.sub j (ht j hj))
theorem xn:∀(rs:List Nat) {k z:Nat} {f:Nat->Bool},(∀ i r,rs[i]?=some r->r.testBit k=f i)->(comb rs z).testBit k=bg (fun i=>z.testBit i&&f i) rs.length
 | [],_,_,_,_=>Nat.zero_testBit _
 | r::rs,k,z,f,h=>by
   have ih:=xn rs (k:=k) (z:=z/2) (f:=fun i=>f (i+1)) fun i r hr=>h (i+1) r hr
   have h0:=h 0 r rfl;have shift:∀(g:Nat->Bool) n,bg g (n+1)=(g 0^^bg (fun i=>g (i+1)) n):=fun g n=>by
    induction n with
    | zero =>
      show(false^^g 0)=(g 0^^false);cases g 0<;>rfl
    | succ n ih =>
      show(bg g (n+1)^^g (n+1))=(g 0^^(bg (fun i=>g (i+1)) n^^g (n+1)))
      rw[ih,Bool.xor_assoc]
   unfold comb;rw[Nat.testBit_xor,ih,List.length_cons,shift]
   congr 1
   ·cases z.testBit 0 with
    | true=>rw[if_pos rfl,h0,Bool.true_and]
    | false=>rw[if_neg (by decide),Nat.zero_testBit,Bool.false_and]
   ·exact aZ fun i _=>by rw[Nat.testBit_succ]
theorem Fr.base{done:List Nat}{s:Nat}{ks rs:List Nat}(f:Fr N done s ks rs)(hd:∀ k,k<N.n->k∈done):Base N rs:=by
 have ind:rY rs:=fun z hz e=>Nat.eq_of_testBit_eq fun j=>by
  by_cases hj:j<rs.length
  ·have hk:ks[j]?=some (ks[j]'(by rw[<-f.len];exact hj)):=List.getElem?_eq_getElem _
   have:=xn rs (z:=z) (f:=fun i=>decide (i=j)) fun i r hr=>f.at_ i j r _ hr hk
   rw[e,Nat.zero_testBit,lC hj (fun k _ hne=>by rw[cR hne,Bool.and_false]),cD rfl,Bool.and_true]at this
   rw[<-this,Nat.zero_testBit]
  ·rw[Nat.testBit_lt_two_pow (Nat.lt_of_lt_of_le hz (Nat.pow_le_pow_right (by decide) (by lia))),Nat.zero_testBit]
 refine⟨Nat.le_antisymm (HP ind fun r hr=>⟨(f.ring r hr).1.2.1,(f.ring r hr).2⟩) ?_,f.ring,ind⟩
 rw[f.len];refine K5 fun m hm ev hz=>f.RW m (fun k hk=>?_) ev
 rcases f.all k (hd k (bU hm hk)) with h|h
 ·exact h
 ·rw[hz k h]at hk;cases hk
theorem zY:∀(B:List Nat) {k b v:Nat} (z:Nat),B[k]?=some b->comb (B.set k v) z=comb B z^^^(if z.testBit k=true then b^^^v else 0)
 | [],k,b,v,z,h=>by simp at h
 | b'::B,0,b,v,z,h=>by
   have e:b' = b:=by simpa using h
   subst e;show(if z.testBit 0=true then v else 0)^^^comb B (z/2)=((if z.testBit 0=true then b' else 0)^^^comb B (z/2))^^^_
   cases z.testBit 0 with
   | false=>simp
   | true =>
     simp only[if_true];refine Nat.eq_of_testBit_eq fun i=>?_
     simp only[Nat.testBit_xor];cases v.testBit i<;>cases b'.testBit i<;>cases(comb B (z/2)).testBit i<;>rfl
 | b'::B,k+1,b,v,z,h=>by
   show(if z.testBit 0=true then b' else 0)^^^comb (B.set k v) (z/2)=((if z.testBit 0=true then b' else 0)^^^comb B (z/2))^^^_
   rw[zY B (z/2) (show B[k]?=some b from h),Nat.xor_assoc,<-Nat.testBit_succ]
theorem rY.put{B:List Nat}(h:rY B){k o x y:Nat}(hk:B[k]?=some x)(ho:B[o]?=some y)(ne:o≠k):rY (B.set k (x^^^y)):=by
 intro z hz e;rw[List.length_set]at hz;have e3:x^^^(x^^^y)=y:=by rw[<-Nat.xor_assoc,Nat.xor_self,Nat.zero_xor]
 rw[zY B z hk,e3]at e
 by_cases hb:z.testBit k=true
 ·rw[if_pos hb,<-oQ ho,<-ia]at e;have L7:=(iH.mp ho).1;have:=h _ (Nat.xor_lt_two_pow hz (Nat.pow_lt_pow_right (by decide) L7)) e
  have h2:(z^^^2^o).testBit k=false:=by rw[this,Nat.zero_testBit]
  rw[Nat.testBit_xor,hb,Nat.testBit_two_pow,cR ne]at h2;cases h2
 ·rw[if_neg hb,Nat.xor_zero]at e;exact h z hz e
theorem Base.put{rs:List Nat}(h:Base N rs){k o x y:Nat}(hk:rs[k]?=some x)(ho:rs[o]?=some y)(ne:o≠k)(hr:N.Ring (x^^^y)):Base N (rs.set k (x^^^y)):=by
 refine⟨by rw[List.length_set];exact h.len,fun r hr'=>?_,h.ind.put hk ho ne⟩
 rcases List.mem_or_eq_of_mem_set hr' with h1|h1
 ·exact h.ring r h1
 ·rw[h1];exact⟨hr,Nat.xor_lt_two_pow (h.ring x (gy hk)).2 (h.ring y (gy ho)).2⟩
end
abbrev Row3:=Nat×Nat×Nat
def two(q:Row3):Nat×Nat:=(q.1,q.2.1)
def cB(rows:List Row3)(x u:Nat):Nat×Nat:=rows.foldl (fun s q=>if s.1.testBit q.1=true then(s.1^^^q.2.1,s.2^^^q.2.2) else s) (x,u)
theorem qm(q:Row3)(rows:List Row3)(x u:Nat):cB (q::rows) x u=if x.testBit q.1=true then cB rows (x^^^q.2.1) (u^^^q.2.2) else cB rows x u:=by
 unfold cB;rw[List.foldl_cons]
 by_cases h:x.testBit q.1=true
 ·rw[if_pos h,if_pos h]
 ·rw[if_neg h,if_neg h]
theorem lO:∀(rows:List Row3) (x u:Nat),(cB rows x u).1=zS (rows.map two) x
 | [],_,_=>rfl
 | q::rows,x,u=>by
   rw[qm];show _=zS (rows.map two) (if x.testBit q.1=true then x^^^q.2.1 else x)
   by_cases h:x.testBit q.1=true
   ·rw[if_pos h,if_pos h];exact lO rows _ _
   ·rw[if_neg h,if_neg h];exact lO rows _ _
def vC(rows:List Row3)(a:Row3):List Row3:=a::rows.map fun q=>if q.2.1.testBit a.1=true then(q.1,q.2.1^^^a.2.1,q.2.2^^^a.2.2) else q
structure Rw(B:List Nat)(rows:List Row3):Prop where
 own:∀ q∈rows,q.2.1.testBit q.1=true
 EJ:rows.Pairwise fun q q'=>q'.2.1.testBit q.1=false/\q.2.1.testBit q'.1=false
 L8:∀ q∈rows,q.2.2<2^B.length/\comb B q.2.2=q.2.1
 span:∀ b∈B,Sp (rows.map fun q=>q.2.1) b
 le:rows.length<=B.length
 len:rows.length=B.length↔rY B
section
variable {B:List Nat}{rows:List Row3}
theorem Rw.start:Rw [] []:=⟨(fun q hq=>nomatch hq),.nil,(fun q hq=>nomatch hq),(fun b hb=>nomatch hb),Nat.le_refl _,⟨fun _ z hz _=>by simp at hz;exact hz,fun _=>rfl⟩⟩
theorem Nx(own:∀ q∈rows,q.2.1.testBit q.1=true)(EJ:rows.Pairwise fun q q'=>q'.2.1.testBit q.1=false/\q.2.1.testBit q'.1=false):L6 (rows.map two):=by
 induction rows with
 | nil=>exact .nil
 | cons q rows ih =>
   obtain⟨h1,h2⟩:=List.pairwise_cons.mp EJ;refine .cons (ih (fun q' hq=>own q' (jY _ hq)) h2) (own q List.mem_cons_self) fun x hx=>?_
   obtain⟨q',Ny,rfl⟩:=List.mem_map.mp hx;exact(h1 q' Ny).1
theorem Rw.Oz(h:Rw B rows):L6 (rows.map two):=Nx h.own h.EJ
theorem map_two(rows:List Row3):(rows.map two).map (fun q=>q.2)=rows.map fun q=>q.2.1:=by
 rw[List.map_map];rfl
theorem Rw.mz(h:Rw B rows)(x u:Nat):(cB rows x u).1=0↔Sp B x:=by
 rw[lO,EH h.Oz,map_two]
 constructor
 ·intro hs;refine hs.mono fun b hb=>?_
  obtain⟨q,hq,rfl⟩:=List.mem_map.mp hb;rw[<-(h.L8 q hq).2];exact ko B _
 ·exact fun hs=>hs.mono h.span
theorem Rw.HU(h:Rw B rows)(x u:Nat):∀ q∈rows,(cB rows x u).1.testBit q.1=false:=fun q hq=>by
 rw[lO];exact w5 h.Oz x (two q) (List.mem_map.mpr ⟨q,hq,rfl⟩)
theorem xo(hc:∀ q∈rows,q.2.2<2^B.length/\comb B q.2.2=q.2.1):∀(x u:Nat),u<2^B.length->(cB rows x u).2<2^B.length/\comb B (cB rows x u).2=comb B u^^^(x^^^(cB rows x u).1):=by
 induction rows with
 | nil=>intro x u hu;exact⟨hu,by show _=_^^^(x^^^x);rw[Nat.xor_self,Nat.xor_zero];rfl⟩
 | cons q rows ih =>
   intro x u hu;have hq:=hc q List.mem_cons_self;have ih:=ih fun q' Ny=>hc q' (jY _ Ny)
   rw[qm]
   by_cases h:x.testBit q.1=true
   ·rw[if_pos h];obtain⟨i1,i2⟩:=ih (x^^^q.2.1) (u^^^q.2.2) (Nat.xor_lt_two_pow hu hq.1);refine⟨i1,?_⟩;rw[i2,ia,hq.2];refine Nat.eq_of_testBit_eq fun i=>?_
    simp only[Nat.testBit_xor];generalize (cB rows (x^^^q.2.1) (u^^^q.2.2)).1.testBit i=y;cases(comb B u).testBit i<;>cases q.2.1.testBit i<;>cases x.testBit i<;>cases y<;>rfl
   ·rw[if_neg h];exact ih x u hu
theorem Nz(h:Rw B rows){x:Nat}(hx:∀ b∈B,b<2^x):∀ q∈rows,q.2.1<2^x:=fun q hq=>by
 rw[<-(h.L8 q hq).2];exact(ko B _).lt hx
theorem uy{z:Nat}(b:Nat)(hz:z<2^B.length):comb (B++[b]) z=comb B z:=by
 rw[gG,Nat.testBit_lt_two_pow hz];simp
theorem Rw.skip{b:Nat}(h:Rw B rows)(hs:Sp B b):Rw (B++[b]) rows:=by
 have hl:(B++[b]).length=B.length+1:=by simp
 refine⟨h.own,h.EJ,fun q hq=>⟨?_,?_⟩,fun c hc=>?_,?_,?_⟩
 ·have:=(h.L8 q hq).1;rw[hl,Nat.pow_succ]
  lia
 ·rw[uy b (h.L8 q hq).1];exact(h.L8 q hq).2
 ·rcases List.mem_append.mp hc with hc|hc
  ·exact h.span c hc
  ·have e:c=b:=by simpa using hc
   rw[e];exact hs.mono h.span
 ·have:=h.le
  lia
 ·rw[oR];have:=h.le;exact⟨fun e=>by lia,fun z=>absurd hs z.2⟩
theorem Rw.put{b:Nat}(h:Rw B rows)(h0:(cB rows b 0).1≠0):Rw (B++[b]) (vC rows ((cB rows b 0).1.log2,(cB rows b 0).1,(cB rows b 0).2^^^2^B.length)):=by
 have hl:(B++[b]).length=B.length+1:=by simp
 have hns : ¬ Sp B b:=fun z=>h0 ((h.mz b 0).mpr z)
 have off:=h.HU b 0;obtain⟨c1,c2⟩:=xo h.L8 b 0 (Nat.two_pow_pos _);rw[jR,Nat.zero_xor]at c2;have wu:Sp (rows.map fun q=>q.2.1) (b^^^(cB rows b 0).1):=by
  rw[lO];have:=DB (rows.map two) b
  rwa [map_two]at this
 generalize cB rows b 0=lu at *;obtain⟨l,u⟩:=lu;have h0:l≠0:=h0;have top:=K2 h0;have c1:u<2^B.length:=c1;have c2:comb B u=b^^^l:=c2;have off:∀ q∈rows,l.testBit q.1=false:=off;have wu:Sp (rows.map fun q=>q.2.1) (b^^^l):=wu
 show Rw (B++[b]) (vC rows (l.log2,l,u^^^2^B.length));generalize l.log2=t at top;have p2:2^B.length<2^(B++[b]).length:=by rw[hl];exact Nat.pow_lt_pow_right (by decide) (by lia)
 have hc:comb (B++[b]) (u^^^2^B.length)=l:=by
  have h1:(u^^^2^B.length).testBit B.length=true:=by
   rw[Nat.testBit_xor,Nat.testBit_lt_two_pow c1,Nat.testBit_two_pow_self];rfl
  have h2:comb B (2^B.length)=0:=qk B fun i hi=>by
   rw[Nat.testBit_two_pow];exact cR (by lia)
  rw[gG,h1,if_pos rfl,ia,h2,c2,Nat.xor_zero];refine Nat.eq_of_testBit_eq fun i=>?_
  simp only[Nat.testBit_xor];cases b.testBit i<;>cases l.testBit i<;>rfl
 unfold vC;refine⟨fun q hq=>?_,List.pairwise_cons.mpr ⟨fun q hq=>?_,?_⟩,fun q hq=>?_,fun c hc=>?_,?_,?_⟩
 ·rcases List.mem_cons.mp hq with e|hq
  ·rw[e];exact top
  ·obtain⟨q0,Bx,rfl⟩:=List.mem_map.mp hq
   by_cases e:q0.2.1.testBit t=true
   ·rw[if_pos e];show(q0.2.1^^^l).testBit q0.1=true;rw[Nat.testBit_xor,h.own q0 Bx,off q0 Bx];rfl
   ·rw[if_neg e];exact h.own q0 Bx
 ·obtain⟨q0,Bx,rfl⟩:=List.mem_map.mp hq
  by_cases e:q0.2.1.testBit t=true
  ·rw[if_pos e];refine⟨?_,off q0 Bx⟩;show(q0.2.1^^^l).testBit t=false;rw[Nat.testBit_xor,e,top];rfl
  ·rw[if_neg e];exact⟨Bool.eq_false_iff.mpr e,off q0 Bx⟩
 ·refine List.pairwise_map.mpr (List.Pairwise.imp_of_mem (fun {q q'} hq Ny hz=>?_) h.EJ)
  obtain⟨z1,z2⟩:=hz;have o1:=off q hq;have o2:=off q' Ny;have fst:∀ q:Row3,(if q.2.1.testBit t=true then(q.1,q.2.1^^^l,q.2.2^^^(u^^^2^B.length)) else q).1=q.1:=fun q=>by
   split<;>rfl
  have snd:∀(q:Row3) (k:Nat),l.testBit k=false->(if q.2.1.testBit t=true then(q.1,q.2.1^^^l,q.2.2^^^(u^^^2^B.length)) else q).2.1.testBit k=q.2.1.testBit k:=fun q k hk=>by
   split
   ·show(q.2.1^^^l).testBit k=_;rw[Nat.testBit_xor,hk,Bool.xor_false]
   ·rfl
  refine⟨?_,?_⟩
  ·rw[snd q' _ (by rw[fst];exact o1),fst]
   exact z1
  ·rw[snd q _ (by rw[fst];exact o2),fst]
   exact z2
 ·rcases List.mem_cons.mp hq with e|hq
  ·rw[e];exact⟨Nat.xor_lt_two_pow (by lia) p2,hc⟩
  ·obtain⟨q0,Bx,rfl⟩:=List.mem_map.mp hq;obtain⟨d1,d2⟩:=h.L8 q0 Bx
   by_cases e:q0.2.1.testBit t=true
   ·rw[if_pos e];refine⟨Nat.xor_lt_two_pow (by lia) (Nat.xor_lt_two_pow (by lia) p2),?_⟩
    show comb (B++[b]) (q0.2.2^^^(u^^^2^B.length))=q0.2.1^^^l;rw[ia,hc,uy b d1,d2]
   ·rw[if_neg e];exact⟨by lia,by rw[uy b d1,d2]⟩
 ·have Vu:l∈(((t,l,u^^^2^B.length):Row3)::rows.map fun q=>if q.2.1.testBit t=true then(q.1,q.2.1^^^l,q.2.2^^^(u^^^2^B.length)) else q).map fun q=>q.2.1:=by
   rw[List.map_cons];exact List.mem_cons_self
  have old:∀ x∈rows.map (fun q=>q.2.1),Sp ((((t,l,u^^^2^B.length):Row3)::rows.map fun q=>if q.2.1.testBit t=true then(q.1,q.2.1^^^l,q.2.2^^^(u^^^2^B.length)) else q).map fun q=>q.2.1) x:=fun x hx=>by
   obtain⟨q0,Bx,rfl⟩:=List.mem_map.mp hx;have hm:(if q0.2.1.testBit t=true then(q0.1,q0.2.1^^^l,q0.2.2^^^(u^^^2^B.length)) else q0).2.1∈(((t,l,u^^^2^B.length):Row3)::rows.map fun q=>if q.2.1.testBit t=true then(q.1,q.2.1^^^l,q.2.2^^^(u^^^2^B.length)) else q).map fun q=>q.2.1 :=
    List.mem_map.mpr ⟨_,jY _ (List.mem_map.mpr ⟨q0,Bx,rfl⟩),rfl⟩
   by_cases e:q0.2.1.testBit t=true
   ·rw[if_pos e]at hm;have:=(Sp.mem hm).xor (Sp.mem Vu)
    rwa [jQ]at this
   ·rw[if_neg e]at hm;exact .mem hm
  rcases List.mem_append.mp hc with hc|hc
  ·exact(h.span c hc).mono old
  ·have e:c=b:=by simpa using hc
   rw[e];have:=(wu.mono old).xor (Sp.mem Vu)
   rwa [jQ]at this
 ·rw[List.length_cons,List.length_map,hl];have:=h.le
  lia
 ·rw[List.length_cons,List.length_map,hl,oR];have:=h.len
  constructor
  ·exact fun e=>⟨this.mp (by lia),hns⟩
  ·exact fun e=>by have:=this.mpr e.1;lia
def rx(f:Row3->Bool):List Row3->Bool
 | []=>false
 | q::rows=>f q^^rx f rows
theorem zZ{f g:Row3->Bool}:∀{rows:List Row3},(∀ q∈rows,f q=g q)->rx f rows=rx g rows
 | [],_=>rfl
 | q::rows,h=>by
   unfold rx;rw[h q List.mem_cons_self,zZ fun q' hq=>h q' (jY _ hq)]
theorem xq(i:Nat):∀{rows:List Row3},(rows.Pairwise fun q q'=>q'.2.1.testBit q.1=false/\q.2.1.testBit q'.1=false)->∀(x u:Nat),(cB rows x u).2.testBit i=(u.testBit i^^rx (fun q=>x.testBit q.1&&q.2.2.testBit i) rows)
 | [],_,x,u=>by show u.testBit i=(u.testBit i^^false);rw[Bool.xor_false]
 | q::rows,EJ,x,u=>by
   obtain⟨h1,h2⟩:=List.pairwise_cons.mp EJ;have ih:=xq i h2;rw[qm];unfold rx
   by_cases h:x.testBit q.1=true
   ·rw[if_pos h,ih,h,Bool.true_and,Nat.testBit_xor,Bool.xor_assoc]
    congr 2
    exact zZ fun q' hq=>by rw[Nat.testBit_xor,(h1 q' hq).2,Bool.xor_false]
   ·rw[if_neg h,ih,Bool.eq_false_iff.mpr h,Bool.false_and,Bool.false_xor]
def g8(rows:List Row3)(i:Nat):List Nat:=(rows.filter fun q=>q.2.2.testBit i).map fun q=>q.1
theorem z8(own:∀ q∈rows,q.2.1.testBit q.1=true)(EJ:rows.Pairwise fun q q'=>q'.2.1.testBit q.1=false/\q.2.1.testBit q'.1=false)(i:Nat):(g8 rows i).Nodup:=by
 unfold g8;refine List.pairwise_map.mpr ((List.Pairwise.imp_of_mem (fun {q q'} hq Ny hz e=>?_) EJ).filter _)
 have:=own q' Ny;rw[<-e,hz.1]at this;cases this
theorem qo(f:Nat->Bool)(n:Nat):∀{l:List Nat},l.Nodup->(∀ k∈l,k<n)->bg (fun k=>f k&&decide (k∈l)) n=l.foldr (fun k acc=>f k^^acc) false
 | [],_,_=>iP fun k _=>by simp
 | a::l,nd,h=>by
   obtain⟨n1,n2⟩:=List.nodup_cons.mp nd;have ih:=qo f n n2 fun k hk=>h k (jY _ hk)
   have:bg (fun k=>f k&&decide (k∈a::l)) n=bg (fun k=>(f k&&decide (a=k))^^(f k&&decide (k∈l))) n:=aZ fun k _=>by
    by_cases e:a=k
    ·subst e;rw[cD List.mem_cons_self,cD rfl,cR n1,Bool.and_false,Bool.xor_false]
    ·have:(k∈a::l)↔k∈l:=⟨fun z=>(List.mem_cons.mp z).resolve_left fun z=>e z.symm,jY _⟩
     rw[cR e,Bool.and_false,Bool.false_xor,decide_eq_decide.mpr this]
   rw[this,iX,gF f (h a List.mem_cons_self),ih];rfl
theorem z9(f:Nat->Bool)(i:Nat):∀ rows:List Row3,(g8 rows i).foldr (fun k acc=>f k^^acc) false=rx (fun q=>f q.1&&q.2.2.testBit i) rows
 | []=>rfl
 | q::rows=>by
   have ih:=z9 f i rows;unfold g8 at ih ⊢;unfold rx;cases h:q.2.2.testBit i with
   | true =>
     rw[List.filter_cons,if_pos h,List.map_cons,List.foldr_cons,ih,Bool.and_true]
   | false =>
     rw[List.filter_cons,if_neg (by rw[h];decide),ih,Bool.and_false,Bool.false_xor]
theorem Rw.marks{N:Net}(h:Rw B rows)(hi:rY B)(hb:∀ b∈B,b<2^N.n){i j b:Nat}(hj:B[j]?=some b):N.par b (Ring.orM (g8 rows i))=decide (i=j)/\∀ k∈g8 rows i,k<N.n:=by
 have lt:∀ k∈g8 rows i,k<N.n:=fun k hk=>by
  obtain⟨q,hq,rfl⟩:=List.mem_map.mp hk;have hq:=(List.mem_filter.mp hq).1;exact bU (Nz h hb q hq) (h.own q hq)
 refine⟨?_,lt⟩;have e1:N.par b (Ring.orM (g8 rows i))=rx (fun q=>b.testBit q.1&&q.2.2.testBit i) rows:=by
  rw[<-z9 (fun k=>b.testBit k),<-qo (fun k=>b.testBit k) N.n (z8 h.own h.EJ i) lt]
  exact aZ fun k _=>by rw[Ring.jm]
 have hz:(cB rows b 0).1=0:=(h.mz b 0).mpr (.mem (gy hj));obtain⟨c1,c2⟩:=xo h.L8 b 0 (Nat.two_pow_pos _);rw[jR,Nat.zero_xor,hz,Nat.xor_zero]at c2
 replace c2:=c2.trans (oQ hj).symm
 have HS:=(iH.mp hj).1;have e2:=ux B hi c1 (Nat.pow_lt_pow_right (by decide) HS) c2
 have e3:=xq i h.EJ b 0;rw[e2,Nat.zero_testBit,Bool.false_xor,Nat.testBit_two_pow]at e3;rw[e1,<-e3];exact decide_eq_decide.mpr eq_comm
end
end RM
namespace Ring
open PySem L2
def rM(q:RM.Row3):List V:=[.int (q.1:Int),.int (q.2.1:Int),.int (q.2.2:Int)]
def uz(H:Hp)(x:V)(q:RM.Row3):Prop:=∃ b,x = .ref b/\H b=some (.tup (rM q))
theorem uz.tups{H H' : Hp}(s:dz H H'){x:V}{q:RM.Row3}(h:uz H x q):uz H' x q:=let⟨b,e,z⟩:=h;⟨b,e,s _ _ z⟩
def jn(H:Hp)(l:Addr)(rows:List RM.Row3):Prop:=∃ xs,H l=some (.lst xs)/\Paired (uz H) xs rows
theorem jn.same{H H' : Hp}(s:au H H'){l:Addr}{rows:List RM.Row3}(h:jn H l rows):jn H' l rows:=let⟨xs,e,z⟩:=h;⟨xs,s _ _ e,Paired.imp' (fun _ _ z=>z.tups s.tups) z⟩
theorem EK(rows:List RM.Row3)(q:RM.Row3)(x u:Nat):RM.cB (rows++[q]) x u=if(RM.cB rows x u).1.testBit q.1=true then((RM.cB rows x u).1^^^q.2.1,(RM.cB rows x u).2^^^q.2.2) else RM.cB rows x u:=by
 unfold RM.cB;rw[List.foldl_append];rfl
theorem take3{α:Type}{l:List α}{i:Nat}{q:α}(h:l[i]?=some q):l.take (i+1)=l.take i++[q]:=by
 rw[List.take_add_one,h];rfl
theorem HV{m:Nat}(h:m≠0):((Builtin.Int.intBits (m:Int):Nat):Int)-1=((m.log2:Nat):Int):=by
 rw[tO,if_neg h]
 lia
end Ring
namespace L2
open PySem PySem.Spec PyProof.Rows
theorem BP{K:bX}{a:Addr}{xs:List V}{g:TG}{tt:TT}{te:TE}{n:Nat}{fr:St}{D:Addr}{Q:Hp->Prop}{H1:Hp}(Pv:Nat->List V->Hp->Prop)(h0:Pv 0 [] H1)(hl:∀ i acc H,i<=xs.length->Pv i acc H->aK K H a xs/\H D=some (.lst acc)/\acc.length<=i)(hz:xs.length<=sizeLine)
 (hs:∀ i x T acc H,xs[i]?=some x->Pv i acc H->H T=none->g (.ref T) (List.replicate n none++fr) (upd H T (.tup [.int (i:Int),x])) fun σ2 H2=>σ2.drop n=fr/\tt σ2 H2 fun b H3 =>
  if b=true then te σ2 H3 fun v H4=>H4 D=some (.lst acc)/\Pv (i+1) (acc++[v]) (upd H4 D (.lst (acc++[v]))) else Pv (i+1) acc H3)
 (hd:∀ acc H,Pv xs.length acc H->Q H):iW (Ov K a) g tt te n fr D Q H1:=by
 refine⟨fun i m acc H=>m=xs.length-i/\i<=xs.length/\Pv i acc H,⟨xs.length,by simp,Nat.zero_le _,h0⟩,?_⟩
 rintro i m acc H ⟨rfl,hi,p⟩;obtain⟨q,hD,ha⟩:=hl i acc H hi p;refine⟨hD,?_⟩
 by_cases hlt:i<xs.length
 ·refine .inr ⟨⟨xs,xs[i],q,by simp[hlt]⟩,by lia,Pv (i+1),fun acc' H' p'=>⟨xs.length-(i+1),by lia,rfl,hlt,p'⟩,fun v H' y=>?_⟩
  obtain⟨T,x,rfl,hT,rfl,y⟩:=y;exact hs i x T acc _ (y xs q) p hT
 ·have e:i=xs.length:=by lia
  subst e;exact .inl ⟨⟨xs,q,Nat.le_refl _⟩,hd acc H p⟩
end L2
namespace RM
variable {N:Net}{S:Nat->Bool}
def uA(N:Net)(S:Nat->Bool)(L:Nat->Nat)(k:Nat):Prop:=∀ x y,x<N.p->y<N.p->(L x=L y↔N.aJ S k x=N.aJ S k y)
theorem uA.start:uA N S (fun x=>x) 0:=fun _ _ _ _=>Iff.rfl
theorem uA.skip{L:Nat->Nat}{k:Nat}(h:uA N S L k)(hs:S k=false):uA N S L (k+1):=by
 intro x y hx hy;rw[fM,if_neg (by rw[hs];decide)]
 exact h x y hx hy
theorem uA.put{L:Nat->Nat}{k:Nat}(h:uA N S L k)(hk:k<N.n)(hs:S k=true):uA N S (Nc L (N.a k) (N.b k)) (k+1):=by
 intro x y hx hy;have ha:=N.al k hk;have hb:=N.bl k hk;rw[fM,if_pos hs,KD,G9,h x y hx hy,h x _ hx ha,h y _ hy hb,h x _ hx hb,h y _ hy ha]
open Classical in
theorem DH(val:Nat->Int):∀ n,(PyProof.Rows.firstMet val n).length=cnt (fun i=>!decide (∃ j,j<i/\val j=val i)) n/\∀ z,z∈PyProof.Rows.firstMet val n↔∃ j,j<n/\val j=z
 | 0=>by
   rw[PyProof.Rows.firstMet_zero];exact⟨rfl,fun z=>⟨fun h=>(nomatch h),fun⟨j,hj,_⟩=>absurd hj (Nat.not_lt_zero _)⟩⟩
 | n+1=>by
   obtain⟨h1,h2⟩:=DH val n;rw[PyProof.Rows.firstMet_succ];unfold PyProof.Rows.step_dedup;have hm:=h2 (val n);have ha:((PyProof.Rows.firstMet val n).any fun x=>x==val n)=true↔val n∈PyProof.Rows.firstMet val n:=by simp
   have mem:∀ z,(∃ j,j<n+1/\val j=z)↔(∃ j,j<n/\val j=z)\/val n=z:=fun z=>by
    constructor
    ·rintro⟨j,hj,e⟩
     by_cases ej:j=n
     ·subst ej;exact .inr e
     ·exact .inl ⟨j,by lia,e⟩
    ·rintro(⟨j,hj,e⟩|e)
     ·exact⟨j,by lia,e⟩
     ·exact⟨n,by lia,e⟩
   by_cases hin:val n∈PyProof.Rows.firstMet val n
   ·rw[if_pos (ha.mpr hin)];refine⟨?_,fun z=>?_⟩
    ·show _=cnt _ n+(if(!decide (∃ j,j<n/\val j=val n))=true then 1 else 0)
     rw[h1,cD (hm.mp hin)];rfl
    ·rw[mem,h2];exact⟨.inl,fun h=>h.elim id fun e=>e▸hm.mp hin⟩
   ·rw[if_neg (fun z=>hin (ha.mp z))]
    refine⟨?_,fun z=>?_⟩
    ·show _=cnt _ n+(if(!decide (∃ j,j<n/\val j=val n))=true then 1 else 0)
     rw[List.length_append,h1,cR (fun z=>hin (hm.mpr z))]
     rfl
    ·rw[mem,List.mem_append,h2];exact⟨fun h=>h.elim .inl fun e=>.inr (List.mem_singleton.mp e).symm,fun h=>h.elim .inl fun e=>.inr (by simp[e])⟩
theorem K6{L:Nat->Nat}(h:uA N S L N.n):(PyProof.Rows.firstMet (fun i=>((L i:Nat):Int)) N.p).length=cnt (N.root S N.n) N.p:=by
 rw[(DH _ N.p).1];refine fL fun x hx=>?_
 unfold Net.root;rw[Bool.eq_iff_iff,Bool.not_eq_true',decide_eq_false_iff_not,decide_eq_true_iff]
 constructor
 ·intro hn;apply Classical.byContradiction;intro hne;have hle:=oz (N:=N) (S:=S) N.n x;have hlt:N.aJ S N.n x<x:=by lia
  exact hn ⟨N.aJ S N.n x,hlt,by
   have:=(h (N.aJ S N.n x) x (by lia) hx).mpr (bY N.n x)
   rw[this]⟩
 ·rintro hr ⟨j,hj,e⟩;have e:L j=L x:=by lia
  have e2:=(h j x (by lia) hx).mp e
  have:=oz (N:=N) (S:=S) N.n j
  lia
theorem HW{m:Nat}(hm:m<2^N.n)(h0:m≠0)(d2:N.D2 m):N.Ring m↔cnt (N.root (fun k=>m.testBit k) N.n) N.p+cnt (fun x=>decide (N.dg m x=2)) N.p=N.p+1:=by
 have hR:∀ x,x<N.p->N.dg m x=0->N.root (fun k=>m.testBit k) N.n x=true:=fun x hx hd=>by
  unfold Net.root;rw[decide_eq_true_iff];exact alone hd (bB _ _ _ (bY N.n x).symm)
 have split:cnt (N.root (fun k=>m.testBit k) N.n) N.p=cnt (fun x=>!decide (N.dg m x=2)) N.p+cnt (fun x=>decide (N.dg m x=2)&&N.root (fun k=>m.testBit k) N.n x) N.p:=by
  rw[<-ua (fun x hx=>by cases decide (N.dg m x=2)<;>simp)]
  refine fL fun x hx=>?_
  rcases d2 x hx with h|h
  ·rw[hR x hx h,cR (by lia)]
   rfl
  ·rw[cD h];simp
 have cn:=kg (fun x=>decide (N.dg m x=2)) N.p
 obtain⟨k0,hk0⟩:∃ k,m.testBit k=true:=by
  apply Classical.byContradiction;intro h;exact h0 (Nat.eq_of_testBit_eq fun i=>by
   rw[Nat.zero_testBit];cases e:m.testBit i with
   | false=>rfl
   | true=>exact absurd ⟨i,e⟩ h)
 have hkn:=bU hm hk0;have JF:=N.al k0 hkn;have hd0:N.dg m (N.a k0)=2:=by
  have:=uc hkn hk0 (.inl rfl:N.a k0=N.a k0\/N.b k0=N.a k0);rcases d2 _ JF with h|h<;>lia
 rw[Nt hm d2 JF hd0];generalize hx:N.a k0=x0 at JF hd0;have up:∀ x,x<N.p->N.dg m x=2->N.dg m (N.aJ (fun k=>m.testBit k) N.n x)=2:=fun x hx hd=>by
  have hl:=jh (N:=N) (S:=fun k=>m.testBit k) (k:=N.n) hx
  rcases d2 _ hl with h|h
  ·have e:x=N.aJ (fun k=>m.testBit k) N.n x:=alone h (bB _ _ _ (bY N.n x))
   rw[<-e]at h
   lia
  ·exact h
 have r0:N.aJ (fun k=>m.testBit k) N.n x0<N.p:=jh JF
 constructor
 ·intro h;have one:cnt (fun x=>decide (N.dg m x=2)&&N.root (fun k=>m.testBit k) N.n x) N.p=1:=by
   have:cnt (fun x=>decide (N.dg m x=2)&&N.root (fun k=>m.testBit k) N.n x) N.p=cnt (fun x=>decide (N.aJ (fun k=>m.testBit k) N.n x0=x)) N.p:=fL fun x hx=>by
    rw[Bool.eq_iff_iff,Bool.and_eq_true,decide_eq_true_iff,decide_eq_true_iff];unfold Net.root;rw[decide_eq_true_iff]
    constructor
    ·rintro⟨h1,h2⟩;rw[<-(h x hx).mpr h1];exact h2
    ·rintro rfl;exact⟨up x0 JF hd0,bY N.n x0⟩
   rw[this,t8,if_pos r0]
  lia
 ·intro h x hx;have one:cnt (fun x=>decide (N.dg m x=2)&&N.root (fun k=>m.testBit k) N.n x) N.p=1:=by lia
  have Yk:(decide (N.dg m (N.aJ (fun k=>m.testBit k) N.n x0)=2)&&N.root (fun k=>m.testBit k) N.n (N.aJ (fun k=>m.testBit k) N.n x0))=true:=by
   rw[Bool.and_eq_true,decide_eq_true_iff];unfold Net.root;rw[decide_eq_true_iff];exact⟨up x0 JF hd0,bY N.n x0⟩
  constructor
  ·intro e;rcases d2 x hx with h|h
   ·have e2:x0=x:=alone h (bB _ _ _ e);rw[<-e2]at h
    lia
   ·exact h
  ·intro hd;have Yl:(decide (N.dg m (N.aJ (fun k=>m.testBit k) N.n x)=2)&&N.root (fun k=>m.testBit k) N.n (N.aJ (fun k=>m.testBit k) N.n x))=true:=by
    rw[Bool.and_eq_true,decide_eq_true_iff];unfold Net.root;rw[decide_eq_true_iff];exact⟨up x hx hd,bY N.n x⟩
   apply Classical.byContradiction;intro hne;have:=sL (f:=fun x=>decide (N.dg m x=2)&&N.root (fun k=>m.testBit k) N.n x) Yl Yk hne (jh hx) r0
   lia
variable {N:Net}{s u:Nat}
structure BF(N:Net)(s u:Nat)(l:List Nat)(c:Nat->Nat):Prop where
 nd:l.Nodup
 mem:u∈l
 lt:∀ x∈l,x<N.p
 sub:∀ x∈l,∀ k,(c x).testBit k=true->s.testBit k=true
 bd:∀ x∈l,∀ y,N.bd (c x) y=(decide (u=y)^^decide (x=y))
 ends:∀ x∈l,∀ k,(c x).testBit k=true->N.a k∈l/\N.b k∈l
def Ma(N:Net)(s:Nat)(l:List Nat)(x j:Nat):Prop:=∀ k,k<j->s.testBit k=true->∀ y,Jn N k x y->y∈l
theorem BF.start(hu:u<N.p):BF N s u [u] (fun _=>0):=by
 refine⟨by simp,by simp,fun x hx=>?_,fun x _ k hk=>?_,fun x hx y=>?_,fun x _ k hk=>?_⟩
 ·have e:x=u:=by simpa using hx
  rw[e];exact hu
 ·rw[Nat.zero_testBit]at hk;cases hk
 ·have e:x=u:=by simpa using hx
  rw[j9,e,Bool.xor_self]
 ·rw[Nat.zero_testBit]at hk;cases hk
theorem BF.put{l:List Nat}{c:Nat->Nat}(h:BF N s u l c)(hs:s<2^N.n){x y k:Nat}(hx:x∈l)(hk:k<N.n)(hb:s.testBit k=true)(hj:Jn N k x y)(hy:y∉l):BF N s u (l++[y]) (fun z=>if z=y then c x ||| 2^k else c z):=by
 have hyp:=hj.lt hk;have off:(c x).testBit k=false:=by
  cases e:(c x).testBit k with
  | false=>rfl
  | true =>
    obtain⟨e1,e2⟩:=h.ends x hx k e;rcases hj with⟨_,rfl⟩|⟨_,rfl⟩
    ·exact absurd e2 hy
    ·exact absurd e1 hy
 have ne:∀ z∈l,z≠y:=fun z hz e=>hy (e▸hz)
 have TX:c x ||| 2^k=c x^^^2^k:=Nat.eq_of_testBit_eq fun j=>by
  rw[Nat.testBit_or,Nat.testBit_xor,Nat.testBit_two_pow]
  by_cases e:k=j
  ·subst e;rw[off];simp
  ·rw[cR e,Bool.or_false,Bool.xor_false]
 have bits:∀ j,(c x ||| 2^k).testBit j=true->(c x).testBit j=true\/j=k:=fun j hj=>by
  rw[Nat.testBit_or,Nat.testBit_two_pow]at hj
  by_cases e:k=j
  ·exact .inr e.symm
  ·rw[cR e,Bool.or_false]at hj;exact .inl hj
 refine⟨?_,vV _ h.mem,fun z hz=>?_,fun z hz j hj'=>?_,fun z hz w=>?_,fun z hz j hj'=>?_⟩
 ·exact List.nodup_append.mpr ⟨h.nd,by simp,fun a ha b hb'=>by
   have e:b=y:=by simpa using hb'
   rw[e];exact ne a ha⟩
 ·rcases List.mem_append.mp hz with hz|hz
  ·exact h.lt z hz
  ·have e:z=y:=by simpa using hz
   rw[e];exact hyp
 ·rcases List.mem_append.mp hz with hz|hz
  ·rw[if_neg (ne z hz)]at hj';exact h.sub z hz j hj'
  ·have e:z=y:=by simpa using hz
   rw[if_pos e]at hj';rcases bits j hj' with h1|h1
   ·exact h.sub x hx j h1
   ·rw[h1];exact hb
 ·rcases List.mem_append.mp hz with hz|hz
  ·rw[if_neg (ne z hz)];exact h.bd z hz w
  ·have e:z=y:=by simpa using hz
   rw[if_pos e,e,TX,eX,h.bd x hx,iY hk];unfold Net.inc;rcases hj with⟨rfl,rfl⟩|⟨rfl,rfl⟩
   ·cases decide (u=w)<;>cases decide (N.a k=w)<;>cases decide (N.b k=w)<;>rfl
   ·cases decide (u=w)<;>cases decide (N.a k=w)<;>cases decide (N.b k=w)<;>rfl
 ·rcases List.mem_append.mp hz with hz|hz
  ·rw[if_neg (ne z hz)]at hj';obtain⟨e1,e2⟩:=h.ends z hz j hj';exact⟨vV _ e1,vV _ e2⟩
  ·have e:z=y:=by simpa using hz
   rw[if_pos e]at hj';rcases bits j hj' with h1|h1
   ·obtain⟨e1,e2⟩:=h.ends x hx j h1;exact⟨vV _ e1,vV _ e2⟩
   ·subst h1;have hy' : y∈l++[y]:=gZ _ (by simp)
    rcases hj with⟨e1,e2⟩|⟨e1,e2⟩
    ·rw[e1,e2];exact⟨vV _ hx,hy'⟩
    ·rw[e1,e2];exact⟨hy',vV _ hx⟩
theorem BF.conn{l:List Nat}{c:Nat->Nat}(h:BF N s u l c)(hs:s<2^N.n)(all:∀ x∈l,Ma N s l x N.n){v:Nat}(hv:v<N.p):v∈l↔N.fG (fun k=>s.testBit k) N.n u v:=by
 constructor
 ·intro hm;exact DG hs (h.sub v hm) (h.lt u h.mem) hv (h.bd v hm)
 ·intro hc;have key:∀ v,N.fG (fun k=>s.testBit k) N.n u v->v∈l:=by
   intro v hc
   induction hc with
   | refl=>exact h.mem
   | fwd _ hk hb ih=>exact all _ ih _ hk hb _ (.inl ⟨rfl,rfl⟩)
   | bwd _ hk hb ih=>exact all _ ih _ hk hb _ (.inr ⟨rfl,rfl⟩)
  exact key v hc
end RM
namespace Ring
open PySem L2
def iJ(l:List Nat)(c:Nat->Nat):List (Key×V):=l.map fun x=>((Sum.inl ((x:Nat):Int):Key),V.int ((c x:Nat):Int))
theorem oU(l:List Nat)(c:Nat->Nat)(x:Nat):dB (iJ l c) (Sum.inl ((x:Nat):Int))=if x∈l then some (.int ((c x:Nat):Int)) else none:=by
 induction l with
 | nil=>rfl
 | cons y l ih =>
   by_cases e:y=x
   ·subst e;rw[if_pos List.mem_cons_self];exact cj rfl
   ·have ne : ¬(Sum.inl ((y:Nat):Int):Key)=Sum.inl ((x:Nat):Int):=fun z=>e (by have:=Sum.inl.inj z;lia)
    show dB (((Sum.inl ((y:Nat):Int):Key),V.int ((c y:Nat):Int))::iJ l c) _=_;rw[b9 ne,ih]
    by_cases hm:x∈l
    ·rw[if_pos hm,if_pos (jY _ hm)]
    ·rw[if_neg hm,if_neg (fun z=>(List.mem_cons.mp z).elim (fun z=>e z.symm) hm)]
theorem HX{l:List Nat}{c:Nat->Nat}{x v:Nat}(h:x∉l):putK (iJ l c) (Sum.inl ((x:Nat):Int)) (.int ((v:Nat):Int))=iJ (l++[x]) (fun y=>if y=x then v else c y):=by
 unfold putK;rw[gb,oU,if_neg h,if_neg (by decide)]
 unfold iJ;rw[List.map_append]
 congr 1
 ·refine List.map_congr_left fun y hy=>?_
  show _=((Sum.inl ((y:Nat):Int):Key),V.int (((if y=x then v else c y):Nat):Int))
  rw[if_neg (fun e:y=x=>h (e▸hy))]
 ·show _=[((Sum.inl ((x:Nat):Int):Key),V.int (((if x=x then v else c x):Nat):Int))]
  rw[if_pos rfl]
end Ring
namespace L2
open PySem PySem.Spec PySem.Calls PyProof.Rows PySem.W
end L2
namespace RM
theorem jS{b:Nat}{B:List Nat}:rY (b::B)↔rY B/\¬ Sp B b:=by
 have dbl:∀ z,(2*z).testBit 0=false:=fun z=>by rw[Nat.testBit_zero];exact cR (by lia)
 have TY:∀ z,(2*z+1).testBit 0=true:=fun z=>by rw[Nat.testBit_zero];exact cD (by lia)
 constructor
 ·intro h;refine⟨fun z hz e=>?_,fun hs=>?_⟩
  ·have:=h (2*z) (by rw[List.length_cons,Nat.pow_succ];lia) (by
    unfold comb;rw[dbl,if_neg (by decide),Nat.zero_xor,show 2*z/2=z by lia]
    exact e)
   lia
  ·obtain⟨y,hy,e⟩:=sP hs;have:=h (2*y+1) (by rw[List.length_cons,Nat.pow_succ];lia) (by
    unfold comb;rw[TY,if_pos rfl,show(2*y+1)/2=y by lia,e,Nat.xor_self])
   lia
 ·rintro⟨h,hs⟩ z hz e;unfold comb at e;rw[List.length_cons,Nat.pow_succ]at hz
  by_cases hb:z.testBit 0=true
  ·rw[if_pos hb]at e;have e2:=dZ e;exact absurd (e2▸ko B (z/2)) hs
  ·rw[if_neg hb,Nat.zero_xor]at e;have h0:=h (z/2) (by lia) e
   rw[Nat.testBit_zero,decide_eq_true_iff]at hb
   lia
theorem K7{B C:List Nat}(h:B.Perm C)(x:Nat):Sp B x↔Sp C x :=
 ⟨fun z=>z.mono fun b hb=>.mem (h.mem_iff.mp hb),fun z=>z.mono fun b hb=>.mem (h.mem_iff.mpr hb)⟩
theorem HY{B C:List Nat}(h:B.Perm C):rY B↔rY C:=by
 induction h with
 | nil=>exact Iff.rfl
 | cons x h ih=>rw[jS,jS,ih,K7 h]
 | swap x y l =>
   rw[jS,jS,jS,jS,Sp.lN,Sp.lN,Nat.xor_comm y x]
   constructor
   ·rintro⟨⟨h1,h2⟩,h3⟩;exact⟨⟨h1,fun z=>h3 (.inl z)⟩,fun z=>z.elim h2 fun z=>h3 (.inr z)⟩
   ·rintro⟨⟨h1,h2⟩,h3⟩;exact⟨⟨h1,fun z=>h3 (.inl z)⟩,fun z=>z.elim h2 fun z=>h3 (.inr z)⟩
 | trans _ _ i1 i2=>exact i1.trans i2
theorem Base.perm{N:Net}{rs rs' : List Nat}(b:Base N rs)(h:rs'.Perm rs):Base N rs' :=
 ⟨by rw[h.length_eq];exact b.len,fun r hr=>b.ring r (h.mem_iff.mp hr),(HY h).mpr b.ind⟩
end RM
namespace L2
open PySem PySem.Spec PyProof.Rows
def fc(q:Str)(pos:Pos):Array Value:=#[.str q 0,rawInt pos.line,rawInt pos.col]
def mW(pos:Pos)(c:Addr):Array Value:=#[rawInt pos.line,rawInt pos.col,.ref c]
def fH(H:Hp)(P c:Addr)(oc:Obj)(q:Str)(pos:Pos):Hp:=upd (upd H c (.k9 oc (.own P))) P (.jJ (fc q pos++mW pos c))
def given(H:Hp)(P c:Addr)(q:Str)(pos:Pos):Hp:=upd (upd H c (.own P)) P (.jJ (fc q pos))
def CodeObj(oc:Obj)(q:Str):Prop:=∃ vs t,oc.data = .fields vs/\vs[1]?=some (.str q t)
theorem CodeObj.rec{h:Heap}{c:Addr}{oc:Obj}{q:Str}(x:CodeObj oc q)(e:h.get? c=some oc):h.CodeRec (.ref c) q :=
 let⟨vs,t,e1,e2⟩:=x
 ⟨c,oc,vs,t,rfl,e,e1,e2⟩
theorem NB{P:Program}{w:World}{H:Hp}{h:Heap}{a:Addr}{q:Str}{pos:Pos}(x:bz P w H h a (.jJ (fc q pos))):
 h.get? a=some (PySem.W.tabObj #[])\/∃ c oc,h.get? a=some (PySem.W.tabObj (mW pos c))/\H c=some (.own a)/\h.get? c=some oc/\CodeObj oc q:=by
 obtain⟨ps,e,f⟩:=x;rcases f with⟨_,f|⟨c,e1,e2,c',oc,vs,tq,hc,ho,hd,hv⟩⟩|⟨q',l,k,f,z⟩
 ·subst f;exact .inl e
 ·cases hc;subst e1;exact .inr ⟨c,oc,e,e2,ho,vs,tq,hd,hv⟩
 ·have:=congrArg Array.size f;rw[Array.size_append,z]at this;exact absurd this (by simp[fc])
theorem HZ{P:Program}{w:World}{H:Hp}{h:Heap}{a c:Addr}{q:Str}{pos:Pos}(x:bz P w H h a (.jJ (fc q pos++mW pos c))):h.get? a=some (PySem.W.tabObj (mW pos c)):=by
 obtain⟨ps,e,f⟩:=x;rcases f with⟨f,_⟩|⟨q',l,k,f,z⟩
 ·rw[Array.size_append]at f;exact absurd f (by simp[fc,mW])
 ·have e2:=congrArg (fun a=>a.toList.drop 3) f
  simp only[Array.toList_append,fc,mW,List.cons_append,List.nil_append,List.drop_succ_cons,List.drop_zero]at e2;have e3:ps=mW pos c:=by
   apply Array.toList_inj.mp;exact e2.symm
  rw[<-e3];exact e
abbrev Aa(X:Cx)(params:Arguments)(body:Expr)(scope:Scope)(c:Addr)(ctv:Value):FuncData :=
 PySem.W.kla_fn "<lambda>" (X.env.qual ++ "<lambda>") params body scope (cY X.env.cells scope.names []) ((X.mg "__name__").getD .none) (.ref c) ctv
abbrev dO(X:Cx)(params:Arguments)(body:Expr)(scope:Scope)(c:Addr)(ctv:Value):Obj :=
 { cls:=.type "function",data:=.func (Aa X params body scope c ctv)}
section
variable {X:Cx}{pq:aR}{σ:St}{H H2:Hp}{s:Shared}{params:Arguments}{body:Expr}{scope:Scope}{pos:Pos}{own fq:List Str}{js:List Nat}{c P:Addr}
theorem Ab{Q:di}{E:di}
 (I:Inv X pq σ H s) (T:dw X scope own fq js) (hcode:X.env.code = .ref c) (hK:PySem.W.codeHdIn X.K c P=true) (hP:H P=some (.jJ (fc (X.env.qual ++ "<lambda>") pos)))
 (hdef:defaultsOf params X.env=([],[]))
 (h:∀ f c' oc ctv s',(H c' = none\/H c' = some (.own P))->c'≠P->CodeObj oc (X.env.qual ++ "<lambda>")->Inv X ((f,dO X params body scope c' ctv)::pq) σ (fH H P c' oc (X.env.qual ++ "<lambda>") pos) s'->Q (.ref f) s') :
 wpAny (model X.prog X.w) X.A (eval (.Lambda params body scope pos) X.env) Q E s:=by
 have JF:=NB (show bz X.prog X.w H s.heap P (.jJ (fc (X.env.qual ++ "<lambda>") pos)) from I.hok P _ hP)
 have C:PySem.W.CodeHd s.heap c P:=PySem.W.codeHd_of_K I.My hK;have hg:=I.mod.glob.keeps I.bk;have Vv:∀ b o,X.base.get? b=some o->b≠P:=fun b o q z=>by
  have:=(I.bs b o q).2;rw[z,hP]at this;cases this
 have hgP:mainGlobals≠P:=by
  obtain⟨o,es,ep,q,_⟩:=I.mod.glob;exact Vv _ o q
 have hb:s.heap.BuiltinsAt X.mg P:=by
  obtain⟨bm,ob,b1,b2,b3,b4,b5,b6⟩:=I.mod.bmain;refine⟨bm,ob,b1,b2,fun z=>?_,Vv _ _ b3,I.bk _ _ b3,b4,b5,b6⟩
  obtain⟨o,es,ep,q,hd,_⟩:=I.mod.glob;rw[z,q]at b3;cases b3;rw[hd]at b6;cases b6
 have hcl:=nu (gD I T);have fin:∀(f c' : Addr) (oc:Obj) (ctv:Value) (h2:Heap) (tk:Nat),(H c' = none\/H c' = some (.own P))->c'≠P->(H c' = none->s.heap.objs.size<=c')->CodeObj oc (X.env.qual ++ "<lambda>")->(∀ b o,b≠P->s.heap.get? b=some o->h2.get? b=some o)->
  h2.get? P=some (PySem.W.tabObj (mW pos c'))->h2.get? c' = some oc->s.heap.objs.size<=f->f≠c'->h2.get? f=some (dO X params body scope c' ctv)->
  Inv X ((f,dO X params body scope c' ctv)::pq) σ (fH H P c' oc (X.env.qual ++ "<lambda>") pos) { s with heap:=h2,toks:=tk}:=by
  intro f c' oc ctv h2 tk hc Ac hnew hoc hx RX hct hf hfc Ym;have nP:∀ b,H b=none->b≠P:=fun b n z=>by rw[z,hP]at n;cases n
  have K8:∀ b u,H b=some u->(∀ y,u≠.own y)->(∀ qs,u≠.jJ qs)->fH H P c' oc (X.env.qual ++ "<lambda>") pos b=some u:=fun b u e n1 n2=>by
   unfold fH;rw[ao (fun z=>by rw[z,hP]at e;exact n2 _ (Option.some.inj e).symm),ao (fun z=>by
    rw[z]at e;rcases hc with q|q
    ·rw[q]at e;cases e
    ·rw[q]at e;exact n1 _ (Option.some.inj e).symm)]
   exact e
  have NC:∀ b,H b=none->(b<s.heap.objs.size\/b≠c')->fH H P c' oc (X.env.qual ++ "<lambda>") pos b=none:=fun b n hb=>by
   unfold fH;rw[ao (nP b n),ao (fun z=>by
    rcases hb with q|q
    ·rw[z]at q n;exact absurd (hnew n) (Nat.not_le.mpr q)
    ·exact q z)]
   exact n
  have un:Un X.fs [] H (fH H P c' oc (X.env.qual ++ "<lambda>") pos) s.heap h2:=by
   refine⟨fun b o q n _ _=>hx b o (nP b n) q,fun b o q n _ _=>⟨o.slots,hx b o (nP b n) q⟩,fun b o q n _=>NC b n (.inl (Heap.lt_size q)),fun b o q _=>?_,fun b xs q=>K8 b _ q (by intro y z;cases z) (by intro y z;cases z),fun b o u q=>K8 b _ q (by intro y z;cases z) (by intro y z;cases z),fun b ps q=>?_⟩
   ·by_cases hb:b=P
    ·exact⟨_,by rw[hb];exact RX⟩
    ·exact⟨o,hx b o hb q⟩
   ·by_cases hb:b=P
    ·subst hb;rw[hP]at q;cases q;exact⟨mW pos c',ae⟩
    ·refine⟨#[],?_⟩;unfold fH;rw[ao hb,ao (fun z=>by
      rw[z]at q;rcases hc with r|r<;>(rw[r]at q;cases q)),q]
     simp
  have hok:l8 X.prog X.w (fH H P c' oc (X.env.qual ++ "<lambda>") pos) h2:=fun b u q=>by
   by_cases EL:b=P
   ·subst EL;unfold fH at q;rw[ae]at q;cases q;exact⟨_,RX,.inr ⟨_,_,_,rfl,rfl⟩⟩
   ·by_cases hbc:b=c'
    ·subst hbc;unfold fH at q;rw[ao EL,ae]at q;cases q;exact⟨hct,oc,hct⟩
    ·have q' : H b=some u:=by
      unfold fH at q;rw[ao EL,ao hbc]at q;exact q
     have ow:∀ d,H d=some (.own b)->d≠P/\d≠c':=fun d qd=>⟨aS qd hP (by intro z;cases z),fun z=>by
      rw[z]at qd;rcases hc with r|r
      ·rw[r]at qd;cases qd
      ·rw[r]at qd;cases qd;exact EL rfl⟩
     refine(I.hok b u q').stay (fun d v hd qd=>hx d v ?_ qd) (fun d qd=>?_) fun d xs qd=>K8 d _ qd (by intro y z;cases z) (by intro y z;cases z)
     ·rcases hd with rfl|hd
      ·exact EL
      ·exact(ow d hd).1
     ·unfold fH;rw[ao (ow d qd).1,ao (ow d qd).2];exact qd
  have J:=I.un (t':=tk) un hok;have Yn:H f=none:=I.hok.fresh hf;refine J.fR fun p hp=>?_
  rcases List.mem_cons.mp hp with rfl|hp
  ·exact⟨Ym,NC _ Yn (.inr hfc),Nat.ne_of_gt (Nat.lt_of_lt_of_le I.lt hf),I.O0 hf,fun v z=>by cases z⟩
  ·exact J.pin p (gZ _ hp)
 refine PySem.W.kla_eval hdef ?_;rcases JF with e|⟨c',oc,e,ho,hct,hoc⟩
 ·refine PySem.W.kla_makeFunction (mg:=X.mg) hcl I.ok.glob hg hcode C e trivial rfl hgP hb fun c' ctv h' tk hx hge hlt hrec htb=>?_
  obtain⟨c2,oc,vs,t,e2,hct,hd,hv⟩:=hrec;cases e2;have hf:s.heap.objs.size<=h'.objs.size:=Nat.le_trans hge (Nat.le_of_lt hlt);have Ac:c'≠P:=Nat.ne_of_gt (Nat.lt_of_lt_of_le (Heap.lt_size e) hge);exact h _ c' oc ctv _ (.inl (I.hok.fresh hge)) Ac ⟨vs,t,hd,hv⟩ (fin _ c' oc ctv _ tk (.inl (I.hok.fresh hge)) Ac (fun _=>hge) ⟨vs,t,hd,hv⟩ (fun b o hb q=>Heap.get?_push_of_some _ (hx b o hb q)) (Heap.get?_push_of_some _ htb) (Heap.get?_push_of_some _ hct) hf (Nat.ne_of_gt hlt) (Heap.get?_push_size _ rfl))
 ·have hf:codeAmong pos (mW pos c').toList=some (.ref c'):=codeAmong_snoc [] trivial rfl;have tr:TriplesOk (mW pos c').toList:=TriplesOk_snoc pos.line pos.col (.ref c') [] trivial;refine PySem.W.kla_makeFunctionHit (mg:=X.mg) hcl I.ok.glob hg hcode C e tr hf hb fun ctv h' tk hk hsz=>?_
  have Ac:c'≠P:=aS ho hP (by intro z;cases z)
  have hk' : ∀ b o,s.heap.get? b=some o->(h'.push (dO X params body scope c' ctv)).get? b=some o:=fun b o q=>Heap.get?_push_of_some _ (hk b o q)
  exact h _ c' oc ctv _ (.inr ho) Ac hoc (fin _ c' oc ctv _ tk (.inr ho) Ac (fun z=>by rw[ho]at z;cases z) hoc (fun b o _ q=>hk' b o q) (hk' _ _ e) (hk' _ _ hct) hsz (Nat.ne_of_gt (Nat.lt_of_lt_of_le (Heap.lt_size hct) hsz)) (Heap.get?_push_size _ rfl))
theorem Ad{uB:aR}{σ0:St}{s0:Shared}{q:Str}{oc:Obj}(I0:Inv X uB σ0 H s0)(hP:H P=some (.jJ (fc q pos)))(hc:H c=none\/H c=some (.own P))(Ac:c≠P)(hoc:CodeObj oc q)
 (I:Inv X pq σ H2 s) (e1:H2 P=some (.jJ (fc q pos++mW pos c))) (e2:H2 c=some (.k9 oc (.own P))):Inv X pq σ (given H2 P c q pos) s:=by
 have RX:=HZ (show bz X.prog X.w H2 s.heap P (.jJ (fc q pos++mW pos c)) from I.hok P _ e1)
 obtain⟨hct,_⟩:=(show bz X.prog X.w H2 s.heap c (.k9 oc (.own P)) from I.hok c _ e2)
 have NC:∀ b,H2 b=none->given H2 P c q pos b=none:=fun b n=>by
  unfold given;rw[ao (fun z=>by rw[z,e1]at n;cases n),ao (fun z=>by rw[z,e2]at n;cases n)]
  exact n
 have K8:∀ b u,b≠P->b≠c->H2 b=some u->given H2 P c q pos b=some u:=fun b u n1 n2 e=>by
  unfold given;rw[ao n1,ao n2];exact e
 refine⟨I.ok,I.os,I.bare,⟨I.base.keep,I.base.slot,fun b o z n hx=>NC b (I.base.free b o z n hx),I.base.there,fun b xs z=>?_,fun b o u z=>?_,fun b ps z=>?_⟩,I.loc,I.cell,NC _ I.free,fun x c' z=>NC _ (I.eZ x c' z),fun p hp=>?_,fun b u z=>?_,I.len⟩
 ·have r:=I.base.tups b xs z;exact K8 b _ (aS r e1 (by intro z;cases z)) (aS r e2 (by intro z;cases z)) r
 ·have r:=I.base.jZ b o u z;refine K8 b _ (aS r e1 (by intro z;cases z)) (fun y=>?_) r
  have r0:=I0.base.jZ b o u z;rw[y]at r0;rcases hc with hc|hc<;>(rw[hc]at r0;cases r0)
 ·by_cases hb:b=P
  ·subst hb;obtain⟨more,r0⟩:=I0.base.lg b ps z;rw[hP]at r0;exact⟨more,by unfold given;rw[ae];exact r0⟩
  ·obtain⟨more,r⟩:=I.base.lg b ps z;exact⟨more,K8 b _ hb (aS r e2 (by intro z;cases z)) r⟩
 ·obtain⟨a1,a2,a3⟩:=I.pin p hp;exact⟨a1,NC _ a2,a3⟩
 ·by_cases EL:b=P
  ·subst EL;unfold given at z;rw[ae]at z;cases z;refine⟨_,RX,.inl ⟨rfl,.inr ⟨c,rfl,?_,hoc.rec hct⟩⟩⟩;unfold given;rw[ao Ac,ae]
  ·by_cases hbc:b=c
   ·subst hbc;unfold given at z;rw[ao EL,ae]at z;cases z;exact⟨oc,hct⟩
   ·have z' : H2 b=some u:=by
     unfold given at z;rw[ao EL,ao hbc]at z;exact z
    refine(I.hok b u z').stay (fun _ _ _ r=>r) (fun d r=>K8 d _ (aS r e1 (by intro z;cases z)) (aS r e2 (by intro z;cases z)) r) fun d xs r=>K8 d _ (aS r e1 (by intro z;cases z)) (aS r e2 (by intro z;cases z)) r
theorem Ae{q:Str}{oc:Obj}(hP:H P=some (.jJ (fc q pos)))(hc:H c=none\/H c=some (.own P))(Ac:c≠P)(S:au (fH H P c oc q pos) H2):au H (given H2 P c q pos):=fun b u e=>by
 unfold given
 by_cases EL:b=P
 ·subst EL;rw[ae,<-hP];exact e
 ·rw[ao EL]
  by_cases hbc:b=c
  ·subst hbc;rw[ae];rcases hc with hc|hc
   ·rw[hc]at e;cases e
   ·rw[<-hc];exact e
  ·rw[ao hbc];refine S b u ?_;unfold fH;rw[ao EL,ao hbc];exact e
theorem sQ{q:Str}{oc:Obj}{b:Addr}{u:HO}(hP:H P=some (.jJ (fc q pos)))(hc:H c=none\/H c=some (.own P))(e:H b=some u)(n1:∀ y,u≠.own y)(n2:∀ qs,u≠.jJ qs):fH H P c oc q pos b=some u:=by
 unfold fH;rw[ao (fun z=>by rw[z,hP]at e;exact n2 _ (Option.some.inj e).symm),ao (fun z=>by
  rw[z]at e;rcases hc with q|q
  ·rw[q]at e;cases e
  ·rw[q]at e;exact n1 _ (Option.some.inj e).symm)]
 exact e
def uC(X:Cx)(N:List Str)(scope:Scope)(f c:Addr)(A:Around)(s:Shared)(H:Hp):Cx where
 prog:=X.prog
 w:=X.w
 K:=X.K
 mg:=X.mg
 base:=X.base
 A:=A.deeper (PySem.W.envX (X.env.qual ++ "<lambda>") scope s.heap.objs.size f (.ref c) (cY X.env.cells scope.names []))
 N:=N
 s₀:=s
 H₀:=H
 env:=PySem.W.envX (X.env.qual ++ "<lambda>") scope s.heap.objs.size f (.ref c) (cY X.env.cells scope.names [])
 outer:=X.stack
 stack:=PySem.W.envX (X.env.qual ++ "<lambda>") scope s.heap.objs.size f (.ref c) (cY X.env.cells scope.names [])::X.stack
 ex:=[]
 fn:=fun _=>false
 calm:=X.calm
 pn:=[]
 xe:=fun _ _=>False
theorem K9{f:Addr}{A:Around}{x:Str}{v:V}{u:Value}{h1:Heap}{t1:Nat}(I:Inv X pq σ H s)(T:dw X scope [x] fq js)(hx:scope.names.lookup x=some .local)
 (hfr:A.frames=some X.stack) (hh:A.handled=X.A.handled) (r:RelV v u) (old:∀ b o,s.heap.get? b=some o->h1.get? b=some o) (hn:h1.Ns s.heap.objs.size (fun y=>[(x,u)].reverse.lookup y)) :
 Inv (uC X ([x]++fq) scope f c A s H) [] (some v::eW σ js) H { s with heap:=h1,toks:=t1}:=by
 have cells:∀ x c,(cY X.env.cells scope.names []).lookup x=some c->X.env.cells.lookup x=some c:=fun x c h=>by
  rcases jg h with q|⟨q1,q2⟩
  ·cases q
  ·obtain⟨c',hc'⟩:=gD I T x .free q1 rfl;rw[hc']at q2;rw[hc'];exact congrArg some q2
 refine⟨⟨I.ok.mod,T.kind,rfl,rfl,Nat.le_refl _,fun x y c a b=>I.ok.inj x y c (cells x c a) (cells y c b),fun y hy=>?_,fun x c z _=>(nomatch z),fun hc=>hh.trans (I.ok.hd hc),Around.frames_deeper hfr,.inr ⟨rfl,rfl⟩,fun b hb=>absurd (show b∈([]:List Addr) from hb) (by simp),
  fun b o e=>I.bs b o e,Nat.le_trans I.ok.JS I.sz,fun b o _ hb=>absurd (show b∈([]:List Addr) from hb) (by simp),fun b hb=>absurd (show b∈([]:List Addr) from hb) (by simp),I.stack,I.xH⟩,
  rfl,I.bare,Un.kept old,⟨_,hn,fun i y v' e1 e2 e3=>?_⟩,fun y c e=>?_,I.hok.fresh (Nat.le_refl _),fun y c e=>I.eZ y c (cells y c e),fun p hp=>absurd (show p∈([]:aR) from hp) (by simp),I.hok.kept old,?_⟩
 ·have hy:scope.names.lookup y=some .cell\/scope.names.lookup y=some .free:=hy;rcases hy with hy|hy
  ·exact absurd rfl (T.xS _ (PySem.mem_of_lookup hy))
  ·exact iV (.inl (PySem.mem_of_lookup hy))
 ·replace e1:([x]++fq)[i]?=some y:=e1
  cases i with
  | zero =>
    have e1:x=y:=by simpa using e1
    have e2:v=v':=by simpa using e2
    subst e1 e2;exact⟨u,r,.inl ⟨hx,by simp⟩⟩
  | succ i =>
    have e1:fq[i]?=some y:=by simpa using e1
    have e2:(eW σ js)[i]?=some (some v'):=by simpa using e2
    obtain⟨j,hj,hσ⟩:=tJ e2;have hN:X.N[j]?=some y:=by
     have q:=congrArg (fun l=>l[i]?) T.at_
     simp only[List.getElem?_map,hj,e1,Option.map_some]at q;exact Option.some.inj q
    have hfx:=T.fr y (gy e1);have hm:=PySem.mem_of_lookup hfx;have hk:=T.free (y,.free) hm rfl;obtain⟨m0,hn0,C6⟩:=I.loc;obtain⟨u',r',l⟩:=C6 j y v' hN hσ (by rcases hk with k|k;exact .inr (.inl k);exact .inr (.inr k))
    refine⟨u',r',.inr ⟨.inr hfx,?_⟩⟩;rcases l with⟨jK,_⟩|⟨_,c1,hc,hcell⟩
    ·have jK:X.env.scope.names.lookup y=some .local:=jK;rcases hk with k|k<;>(rw[jK]at k;cases k)
    ·obtain⟨c',hc'⟩:=iV (cells:=X.env.cells) (names:=scope.names) (cs:=[]) (x:=y) (.inl hm);have q:=cells y c' hc';rw[hc]at q;cases q;exact⟨c1,hc',hcell.keeps old⟩
 ·obtain⟨v',q⟩:=I.cell y c (cells y c e);exact⟨v',q.keeps old⟩
 ·show _=([x]++fq).length;have q:=congrArg List.length T.at_;rw[List.length_map,List.length_map]at q;simp only[List.length_cons,List.length_append,List.length_nil];unfold eW;rw[List.length_map]
  lia
theorem Af{f:Addr}{ctv:Value}{A:Around}{te:TE}{x:Str}{v:V}{u:Value}{Q:VK}{E:di}(I:Inv X pq σ H s)(T:dw X scope [x] fq js)(hx:scope.names.lookup x=some .local)
 (hfr:A.frames=some X.stack) (hh:A.handled=X.A.handled) (hroom:A.depth<recursionLimit) (hp:(f,dO X params body scope c ctv)∈pq) (hcd:s.heap.CodeRec (.ref c) (X.env.qual ++ "<lambda>"))
 (hb:bindArgs (Aa X params body scope c ctv) ⟨[u],[]⟩=pure [(x,u)]) (hco:scope.isCoroutine=false) (hgen:scope.isGenerator=false)
 (he:PE (uC X ([x]++fq) scope f c A s H) body te) (r:RelV v u) (h:te (some v::eW σ js) H Q) :
 wpAny (model X.prog X.w) A (call (.ref f) [u]) (fun u' s'=>∃ v' H',Inv X pq σ H' s'/\RelV v' u'/\Q v' H') E s:=by
 have hf:=I.pin _ (gZ _ hp);refine wpAny_call (PySem.W.kla_callFunE hroom hf.1 rfl hco hgen rfl hcd ?_);rw[hb];refine wpAny_pure (wpAny_newFunctionEnv (fun y hy=>T.xS y hy) (by intro y hy;have:=List.mem_singleton.mp hy;subst this;exact hx) (fun h₁ hns Qm=>⟨I.nolimit.fresh _ Qm,?_⟩) T.kind)
 show codeAny _ _ (.expr body (PySem.W.envX (X.env.qual ++ "<lambda>") scope s.heap.objs.size f (.ref c) (cY X.env.cells scope.names []))) _ _;have old:∀ b o,s.heap.get? b=some o->h₁.get? b=some o:=fun b o e=>Qm.extBut b o (Nat.ne_of_lt (Heap.lt_size e)) (Heap.get?_push_of_some _ e)
 have J:=K9 (f:=f) (c:=c) (A:=A) (t1:=s.toks+[(x,u)].length) I T hx hfr hh r old hns;refine PySem.W.kla_codeExpr (wpAny_mono (he [] _ _ H Q J h) (fun u' s' hq=>?_) fun _ _ z=>z.elim)
 obtain⟨v',H',J',r',q'⟩:=hq;exact⟨v',H',I.Gg (ch:=[]) J'.os J'.base J'.hok J'.bare (fun b z=>absurd z (by simp)),r',q'⟩
end
end L2
namespace HT
theorem gi:∀ a:List Int,lexLt a a=false
 | []=>rfl
 | x::xs=>by rw[gB,if_pos rfl];exact gi xs
theorem rN:∀{a b c:List Int},lexLt a b=true->lexLt b c=true->lexLt a c=true
 | [],[],_,h,_=>by rw[m3]at h;cases h
 | [],_::_,[],_,h=>by rw[fV]at h;cases h
 | [],_::_,_::_,_,_=>rfl
 | _::_,[],_,h,_=>by rw[fV]at h;cases h
 | _::_,_::_,[],_,h=>by rw[fV]at h;cases h
 | x::xs,y::ys,z::zs,h1,h2=>by
   rw[gB]at h1 h2 ⊢
   by_cases e1:x=y
   ·rw[if_pos e1]at h1
    by_cases e2:y=z
    ·rw[if_pos e2]at h2;rw[if_pos (e1.trans e2)];exact rN h1 h2
    ·rw[if_neg e2]at h2;rw[if_neg (fun q=>e2 (e1.symm.trans q)),e1]
     exact h2
   ·rw[if_neg e1]at h1;have h1:=iG h1
    by_cases e2:y=z
    ·subst e2;rw[if_neg e1];exact cD h1
    ·rw[if_neg e2]at h2;have h2:=iG h2;rw[if_neg (by lia)]
     exact cD (by lia)
theorem uD{a b c:List Int}(h1:lexLt c b=false)(h2:lexLt a b=true):lexLt c a=false:=by
 cases q:lexLt c a with
 | false=>rfl
 | true=>rw[rN q h2]at h1;cases h1
end HT
namespace L2
open PySem PySem.Spec PyProof.Rows
def RY(h:Heap)(a:Addr)(es:Array DictEntry)(ep:Nat):Prop:=∃ o,h.get? a=some o/\o.ExactDict/\o.data = .dict es ep
def RZ(o:Obj)(a:Addr)(i n ep:Nat):Prop:=o.cls = .type "dict_keyiterator"/\o.data = .fields #[.ref a,.int i 0,.int n 0,.int ep 0]
section
variable {P:Program}{w:World}{A:Around}{E:di}{s:Shared}{a it:Addr}{es:Array DictEntry}{ep i:Nat}{oi:Obj}
theorem Ia{Q:di}(hs:(a==sysModules)=false)(g:RY s.heap a es ep)
 (q:Q (.ref s.heap.objs.size) { s with heap:=s.heap.push { cls:=.type "dict_keyiterator",data:=.fields #[.ref a,.int 0 0,.int es.size 0,.int ep 0]}}):wpAny (model P w) A (pyIter (.ref a)) Q E s:=by
 obtain⟨o,ho,hc,hd⟩:=g;have hT:s.TypeIs (.ref a) "dict":=⟨o,ho,hc.1⟩;refine wpAny_pyIter_slot hT PySem.F.slot_dict_iter (wpAny_call_entry PySem.F.slot_dict_iter hT PySem.F.entry_dict_iter ?_ (PySem.F.args_dict_iter_1 _));unfold Builtin.«dict.__iter__» Builtin.Dict.dictSlotNone;refine aP (aP (wpAny_notOrdered_dict hT ?_));show wpAny _ _ (pure (Value.ref a)) _ _ s;refine wpAny_pure ?_;show wpAny _ _ (Builtin.Dict.showsAll a >>= _) _ _ s;unfold Builtin.Dict.showsAll;rw[hs];refine aP (wpAny_pure (aP (wpAny_dictEntries ho hd (aP (wpAny_dictEpoch ho hd ?_)))));exact aP (wpAny_newObj_type (wpAny_pure ⟨_,rfl,"dict_keyiterator",_,⟨_,Heap.get?_push_size _ rfl,rfl⟩,PySem.F.slot_dict_keyiterator_next.lookup,q⟩))
theorem uE{Q:Option Value->Shared->Prop}(hi:s.heap.get? it=some oi)(g:RZ oi a i es.size ep)(gd:RY s.heap a es ep)
 (q:match (es[i]?:Option DictEntry) with
  | some e=>∀ h' oi',h'.get? it=some oi'->RZ oi' a (i+1) es.size ep->Heap.SameBut it s.heap h'->Q (some e.key) { s with heap:=h'}
  | none=>A.handled=none/\∀ h',Heap.ExtBut it s.heap h'->Q none { s with heap:=h'}):wpAny (model P w) A (pyNext (.ref it)) Q E s:=by
 obtain⟨hc,hd⟩:=g;obtain⟨o,ho,hx,Vw⟩:=gd;have hT:s.TypeIs (.ref it) "dict_keyiterator":=⟨oi,hi,hc⟩;unfold pyNext;refine aP (wpAny_attempt (wpAny_callSpecial?_slot (name:=Str.ofString "__next__") hT PySem.F.slot_dict_keyiterator_next (wpAny_call_entry PySem.F.slot_dict_keyiterator_next hT PySem.F.entry_dict_keyiterator_next ?_ (PySem.F.args_dict_keyiterator_next_1 _))));refine aP (wpAny_pure (aP (aP ?_)))
 first | refine aP (wpAny_typeNameOfWhole_keyiter hT (wpAny_pure ?_)) | refine aP (wpAny_typeNameOf_keyiter hT (wpAny_pure ?_))
 refine aP (wpAny_fieldsOf hi hd ?_);have hown:Builtin.Dict_items.ownsTuple "dict_keyiterator"=false:=by decide
 simp only[hown,Bool.false_eq_true,if_false];show wpAny _ _ (if(Value.ref a==Value.none)=true then _ else _) _ _ s
 rw[if_neg (show ¬((Value.ref a==Value.none)=true) from Bool.false_ne_true)]
 refine aP (wpAny_pure (aP (wpAny_dictEntries ho Vw ?_)));rw[if_neg (by simp)]
 refine aP (wpAny_pure (aP (wpAny_dictEpoch ho Vw ?_)));rw[if_neg (by simp)]
 refine wpAny_pure ?_;simp only[show ¬((i:Int)<0) from by lia,if_false,Int.toNat_natCast]
 cases hei:(es[i]?:Option DictEntry) with
 | some e =>
   rw[hei]at q;refine aP ?_
   first | refine aP (wpAny_typeNameOfWhole_keyiter hT (wpAny_pure ?_)) | refine aP (wpAny_typeNameOf_keyiter hT (wpAny_pure ?_))
   refine aP (wpAny_isOneOf_keyiter hT ?_);show wpAny _ _ (setField (.ref it) 1 (rawInt ((i:Int)+1)) >>= _) _ _ s;refine aP (wpAny_setField hi hd (by simp) ?_)
   have d1:=Obj.data_mapFields hd (·.setIfInBounds 1 (rawInt ((i:Int)+1)));have g1:=Heap.get?_update_self (Obj.mapFields (·.setIfInBounds 1 (rawInt ((i:Int)+1)))) hi (Obj.isFreed_of_fields d1);have c1:(Obj.mapFields (·.setIfInBounds 1 (rawInt ((i:Int)+1))) oi).cls = .type "dict_keyiterator":=(Obj.cls_mapFields ..).trans hc;refine aP (wpAny_holding ?_);refine aP (wpAny_isOneOf_keyiter (s:={ s with heap:=s.heap.update it (Obj.mapFields (·.setIfInBounds 1 (rawInt ((i:Int)+1))))}) ⟨_,g1,c1⟩ ?_)
   show wpAny _ _ (pure e.key) _ _ _;exact wpAny_pure (wpAny_pure ⟨_,rfl,wpAny_pure (q _ _ g1 ⟨c1,by rw[d1];simp[rawInt]⟩ (Heap.SameBut.update ..))⟩)
 | none =>
   rw[hei]at q;obtain⟨hh,q⟩:=q;refine aP ?_
   first | refine aP (wpAny_typeNameOfWhole_keyiter hT (wpAny_pure ?_)) | refine aP (wpAny_typeNameOf_keyiter hT (wpAny_pure ?_))
   show wpAny _ _ (setField (.ref it) 0 .none >>= _) _ _ s;refine aP (wpAny_setField hi hd (by simp) ?_)
   show wpAny _ _ (newExc (.type "StopIteration") [] >>= _) _ _ _;refine aP ?_;simp only[newExc,newTuple];refine aP (wpAny_newObj_type (aP (m:=firstArgMember _ _) (wpAny_of_eq (a:=Value.none) (by first | rfl | (simp only[firstArgMember];rfl)) (wpAny_newObj_type ?_ (by size_fits)))) (by size_fits))
   simp only[raiseNew];refine aP (wpAny_handled ?_);rw[show A.in1.handled=none from hh]
   refine aP (wpAny_pure (wpAny_throw ?_));refine aP (wpAny_isInstance (T:="StopIteration") (b:=true) ⟨_,Heap.get?_push_size _ rfl,rfl⟩ isSubtype_stop (wpAny_pure ?_));exact q _ (((Heap.SameBut.update ..).extBut.push _).push _)
end
section
variable {X:Cx}{pq:aR}{σ:St}{H H2:Hp}{s:Shared}
theorem Inv.La{a:Addr}{kvs:List (List Key×V)}{ob:Obj}(I:Inv X pq σ H s)(e:H a=some (.dT kvs))(ho:s.heap.get? a=some ob):Inv X pq σ (upd H a (.k9 ob (.dT kvs))) s:=by
 have ne:∀ b,H b=none->b≠a:=fun b h z=>by rw[z,e]at h;cases h
 refine⟨I.ok,I.os,I.bare,⟨I.base.keep,I.base.slot,fun b o q n hx=>?_,I.base.there,fun b xs q=>?_,fun b o u q=>?_,fun b ps q=>?_⟩,I.loc,I.cell,?_,fun x c q=>?_,fun p hp=>?_,fun b u q=>?_,I.len⟩
 ·have z:=I.base.free b o q n hx;rw[ao (ne b z)];exact z
 ·have z:=I.base.tups b xs q;rw[ao (aS z e (by intro z;cases z))]
  exact z
 ·have z:=I.base.jZ b o u q;rw[ao (aS z e (by intro z;cases z))]
  exact z
 ·obtain⟨more,z⟩:=I.base.lg b ps q;exact⟨more,by rw[ao (aS z e (by intro z;cases z))];exact z⟩
 ·rw[ao (ne _ I.free)];exact I.free
 ·rw[ao (ne _ (I.eZ x c q))];exact I.eZ x c q
 ·obtain⟨a1,a2,a3⟩:=I.pin p hp;exact⟨a1,by rw[ao (ne _ a2)];exact a2,a3⟩
 ·by_cases hb:b=a
  ·subst hb;rw[ae]at q;cases q;exact⟨ho,(I.hok b _ e).stay (fun _ _ _ q=>q) (fun c q=>by rw[ao (aS q e (by intro z;cases z))];exact q) fun c xs q=>by rw[ao (aS q e (by intro z;cases z))];exact q⟩
  ·rw[ao hb]at q;exact(I.hok b u q).stay (fun _ _ _ q=>q) (fun c q=>by rw[ao (aS q e (by intro z;cases z))];exact q) fun c xs q=>by rw[ao (aS q e (by intro z;cases z))];exact q
theorem Inv.Qn{uB:aR}{σ0:St}{s0:Shared}{a:Addr}{kvs:List (List Key×V)}{ob:Obj}(I0:Inv X uB σ0 H s0)(e0:H a=some (.dT kvs))(I:Inv X pq σ H2 s)(e:H2 a=some (.k9 ob (.dT kvs))):
 Inv X pq σ (upd H2 a (.dT kvs)) s:=by
 have ne:∀ b,H2 b=none->b≠a:=fun b h z=>by rw[z,e]at h;cases h
 obtain⟨ho,hd⟩:=(show bz X.prog X.w H2 s.heap a (.k9 ob (.dT kvs)) from I.hok a _ e)
 refine⟨I.ok,I.os,I.bare,⟨I.base.keep,I.base.slot,fun b o q n hx=>?_,I.base.there,fun b xs q=>?_,fun b o u q=>?_,fun b ps q=>?_⟩,I.loc,I.cell,?_,fun x c q=>?_,fun p hp=>?_,fun b u q=>?_,I.len⟩
 ·have z:=I.base.free b o q n hx;rw[ao (ne b z)];exact z
 ·have z:=I.base.tups b xs q;rw[ao (aS z e (by intro z;cases z))]
  exact z
 ·have z:=I.base.jZ b o u q;rw[ao (fun y=>by
   have z0:=I0.base.jZ b o u q;rw[y,e0]at z0;cases z0)]
  exact z
 ·obtain⟨more,z⟩:=I.base.lg b ps q;exact⟨more,by rw[ao (aS z e (by intro z;cases z))];exact z⟩
 ·rw[ao (ne _ I.free)];exact I.free
 ·rw[ao (ne _ (I.eZ x c q))];exact I.eZ x c q
 ·obtain⟨a1,a2,a3⟩:=I.pin p hp;exact⟨a1,by rw[ao (ne _ a2)];exact a2,a3⟩
 ·by_cases hb:b=a
  ·subst hb;rw[ae]at q;cases q;exact hd.stay (fun _ _ _ q=>q) (fun c q=>by rw[ao (aS q e (by intro z;cases z))];exact q) fun c xs q=>by rw[ao (aS q e (by intro z;cases z))];exact q
  ·rw[ao hb]at q;exact(I.hok b u q).stay (fun _ _ _ q=>q) (fun c q=>by rw[ao (aS q e (by intro z;cases z))];exact q) fun c xs q=>by rw[ao (aS q e (by intro z;cases z))];exact q
def BQ(X:Cx)(b:Addr):Prop:=X.s₀.heap.objs.size<=b/\b≠X.env.locals/\b∉X.fs/\(∀ x c,X.env.cells.lookup x=some c->c≠b)/\∀ p∈X.pn,p.1≠b
theorem Inv.Ib(I:Inv X pq σ H s){b:Addr}(hb:s.heap.objs.size<=b):BQ X b :=
 let⟨_,f1,f2,_,f4,f5⟩:=I.DZ hb (I.hok.fresh hb)
 ⟨Nat.le_trans I.sz hb,f1,f2,f4,fun p hp=>f5 p (vV _ hp)⟩
theorem Inv.jo{pa pb:aR}{b:Addr}{o:Obj}{h' : Heap}{t' : Nat}(I:Inv X pa σ H s)(hb:BQ X b)(hin:(b,o)∈pa)(k:∀ c u,c≠b->s.heap.get? c=some u->h'.get? c=some u)
 (hp:∀ p∈pb,(p.1=b/\h'.get? b=some p.2/\∀ v,p.2.data≠.cell v)\/(p∈pa/\p.1≠b)):Inv X pb σ H { s with heap:=h',toks:=t'}:=by
 obtain⟨b1,b2,b3,b4,b5⟩:=hb;have n:=(I.pin (b,o) (gZ _ hin)).2.1;have J:=(I.fR (RE:=pa.filter fun p=>decide (p.1≠b)) fun p hp=>I.pin p (gZ _ (List.mem_filter.mp hp).1)).turned (t':=t') k n b2 (.inr b1) b4 (fun p hp=>by
  rcases List.mem_append.mp hp with hp|hp
  ·exact b5 p hp
  ·exact iG (List.mem_filter.mp hp).2)
 refine J.fR fun p h=>?_
 rcases hp p h with⟨e,g,d⟩|⟨m,ne⟩
 ·refine⟨by rw[e];exact g,by rw[e];exact n,by rw[e];exact b2,by rw[e];exact b3,d⟩
 ·exact J.pin p (gZ _ (List.mem_filter.mpr ⟨m,cD ne⟩))
end
section
variable {X:Cx}{pq:aR}{σ:St}{H2:Hp}{params:Arguments}{body:Expr}{scope:Scope}{fq:List Str}{js:List Nat}{x:Str}{te:TE}{f c a It S:Addr}{oc ob:Obj}{ctv:Value}{q:Str}{kvs:List (List Key×V)}
 {es:Array DictEntry} {ep:Nat} {ka:Nat->Addr} {ks:Nat->List Int} {PZ:Addr} {R:Result->Shared->Prop}
structure BR(X:Cx)(σ:St)(H2:Hp)(params:Arguments)(body:Expr)(scope:Scope)(fq:List Str)(js:List Nat)(x:Str)(te:TE)(f c a It S:Addr)(oc ob:Obj)(ctv:Value)(kvs:List (List Key×V))(es:Array DictEntry)(ep:Nat)(ka:Nat->Addr)(ks:Nat->List Int)(PZ:Addr):Prop where
 T:dw X scope [x] fq js
 hx:scope.names.lookup x=some .local
 hh:X.A.handled=none
 dp:X.A.in1.depth<recursionLimit
 un:X.A.in1.units<cLine
 hb:∀ u,bindArgs (Aa X params body scope c ctv) ⟨[u],[]⟩=pure [(x,u)]
 co:scope.isCoroutine=false
 gen:scope.isGenerator=false
 he:∀ s H,PE (uC X ([x]++fq) scope f c X.A.in1 s H) body te
 code:CodeObj oc (X.env.qual ++ "<lambda>")
 hc:H2 c=some (.k9 oc (.own PZ))
 ha:H2 a=some (.k9 ob (.dT kvs))
 hob:ob.ExactDict/\ob.data = .dict es ep
 key:∀(i:Nat) (e:DictEntry),(es[i]?:Option DictEntry)=some e->e.key = .ref (ka i)
 turn:∀ i H3,i<es.size->au H2 H3->te (some (.ref (ka i))::eW σ js) H3 fun v H4=>au H3 H4/\∃ d,v = .ref d/\aQ X.K H4 d ((ks i).map V.int)
 oS:BQ X S
 oI:BQ X It
 SI:S≠It
 fS:f≠S
 fI:f≠It
theorem Ag{pa:aR}{s:Shared}{H3:Hp}{i:Nat}{E:di}(F:BR X σ H2 params body scope fq js x te f c a It S oc ob ctv kvs es ep ka ks PZ)(hi:i<es.size)(hs:au H2 H3)(I:Inv X pa σ H3 s)
 (hf:(f,dO X params body scope c ctv)∈pa) :
 wpAny (model X.prog X.w) X.A.in1 (call (.ref f) [.ref (ka i)]) (fun u s'=>∃ d H4,u = .ref d/\Inv X pa σ H4 s'/\au H2 H4/\au H3 H4/\aQ X.K H4 d ((ks i).map V.int)) E s:=by
 obtain⟨hct,_⟩:=(show bz X.prog X.w H3 s.heap c (.k9 oc (.own PZ)) from I.hok c _ (hs _ _ F.hc))
 refine wpAny_mono (Af (v:=.ref (ka i)) I F.T F.hx I.ok.frames rfl F.dp hf (F.code.rec hct) (F.hb _) F.co F.gen (F.he s H3) rfl (F.turn i H3 hi hs)) (fun u s' ⟨v,H4,J,r,q1,d,e,q2⟩=>?_) fun _ _ z=>z
 subst e;cases r;exact⟨d,H4,rfl,J,fun b o z=>q1 _ _ (hs _ _ z),q1,q2⟩
theorem Ic{pa:aR}{s:Shared}{H3:Hp}{d d' : Addr}{ns ms:List Int}{A:Around}{E:di}{Q:di}(I:Inv X pa σ H3 s)(h1:aQ X.K H3 d (ns.map V.int))(h2:aQ X.K H3 d' (ms.map V.int))(hu:A.units<cLine)
 (q:Q (.bool (HT.lexLt ns ms)) s):wpAny (model X.prog X.w) A (richCompare .Lt (.ref d) (.ref d')) Q E s:=by
 obtain⟨its,r1,p1,_⟩:=I.tuple h1;obtain⟨its2,r2,p2,_⟩:=I.tuple h2;exact(HT.Bf p1 p2 (intsAre_of r1) (intsAre_of r2) hu q:wpAny (model X.prog X.w) A (compareOp .Lt (.ref d) (.ref d')) Q E s)
abbrev mC(pq:aR)(S It f:Addr)(oS oI lo:Obj):aR:=(S,oS)::(It,oI)::(f,lo)::pq
theorem Ie(F:BR X σ H2 params body scope fq js x te f c a It S oc ob ctv kvs es ep ka ks PZ)(pI:∀ p∈pq,p.1≠It)(pS:∀ p∈pq,p.1≠S)
 (hR:∀ i s' H3,i<es.size->(∀ j,j<es.size->HT.lexLt (ks j) (ks i)=false)->au H2 H3->Inv X pq σ H3 s'->R (.ok (.ret (.ref (ka i)))) s') :
 ∀(r j i:Nat) (s:Shared) (H3:Hp) (d:Addr) (n:Nat) (oI:Obj),es.size-j=r->j<=es.size->i<j->au H2 H3->Inv X (mC pq S It f (seqObj "list" #[.ref (ka i),.ref d] n) oI (dO X params body scope c ctv)) σ H3 s->RZ oI a j es.size ep->
  aQ X.K H3 d ((ks i).map V.int)->(∀ j',j'<j->HT.lexLt (ks j') (ks i)=false)->codeAny (model X.prog X.w) X.A (.builtin "min.loop" ⟨[.ref It,.ref f,.ref S],[]⟩) R s:=by
 have hname:(toString "min" ++ toString ".loop":String)="min.loop":=by decide
 intro r
 induction r with
 | zero =>
   intro j i s H3 d n oI hr hj hij hs I hk hd oW;have yT:j=es.size:=by lia
   have uF:=I.pin (S,_) (gZ _ (.head _));have Ig:=I.pin (It,oI) (gZ _ (.tail _ (.head _)));obtain⟨hob,_⟩:=(show bz X.prog X.w H3 s.heap a (.k9 ob (.dT kvs)) from I.hok a _ (hs _ _ F.ha))
   refine codeAny_builtin PySem.F.entry_min_loop ?_;rw[Around.under_plainId PySem.F.plain_min_loop _];show wpAny _ X.A.in1 (seqItems? (.ref S) >>= _) _ _ _;refine aP (wpAny_seqItems uF.1 rfl ?_);show wpAny _ X.A.in1 (tryCatch (pyNext (.ref It)) _ >>= _) _ _ _;refine aP (wpAny_tryCatch (uE Ig.1 hk ⟨ob,hob,F.hob⟩ ?_));rw[yT,Array.getElem?_eq_none (Nat.le_refl _)];refine⟨F.hh,fun h' eb=>?_⟩
   have I1:=I.jo (t':=s.toks) (h':=h') (pb:=(S,seqObj "list" #[.ref (ka i),.ref d] n)::pq) F.oI (List.Mem.tail _ (.head _)) (fun b u hb e=>eb b u hb e) (fun p hp=>by
    rcases List.mem_cons.mp hp with rfl|hp
    ·exact .inr ⟨.head _,F.SI⟩
    ·exact .inr ⟨.tail _ (.tail _ (.tail _ hp)),pI p hp⟩)
   have Ih:=I1.pin (S,_) (gZ _ (.head _));show wpAny _ X.A.in1 (updateSeq S (fun _=>#[]) >>= _) _ _ _
   refine aP (wpAny_updateSeq Ih.1 rfl (aP (wpAny_letGo (wpAny_pure ?_))));have s1:=Heap.SameBut.update h' S (Obj.mapSeq fun _=>(#[]:Array Value))
   exact hR i _ H3 (by lia) (fun j' hj'=>oW j' (by lia)) hs (I1.jo (t':=s.toks) (pb:=pq) F.oS (.head _) (fun b u hb e=>(s1.2 b hb).trans e) fun p hp=>.inr ⟨.tail _ hp,pS p hp⟩)
 | succ r ih =>
   intro j i s H3 d n oI hr hj hij hs I hk hd oW;have yT:j<es.size:=by lia
   have uF:=I.pin (S,_) (gZ _ (.head _));have Ig:=I.pin (It,oI) (gZ _ (.tail _ (.head _)));obtain⟨hob,_⟩:=(show bz X.prog X.w H3 s.heap a (.k9 ob (.dT kvs)) from I.hok a _ (hs _ _ F.ha))
   refine codeAny_builtin PySem.F.entry_min_loop ?_;rw[Around.under_plainId PySem.F.plain_min_loop _];show wpAny _ X.A.in1 (seqItems? (.ref S) >>= _) _ _ _;refine aP (wpAny_seqItems uF.1 rfl ?_);show wpAny _ X.A.in1 (tryCatch (pyNext (.ref It)) _ >>= _) _ _ _;refine aP (wpAny_tryCatch (uE Ig.1 hk ⟨ob,hob,F.hob⟩ ?_));have hget:(es[j]?:Option DictEntry)=some es[j]:=Array.getElem?_eq_getElem yT;rw[hget];intro h' F6 TZ hk' sb;have I1:=I.jo (t':=s.toks) (h':=h') (pb:=mC pq S It f (seqObj "list" #[.ref (ka i),.ref d] n) F6 (dO X params body scope c ctv)) F.oI (List.Mem.tail _ (.head _)) (fun b u hb e=>(sb.2 b hb).trans e) (fun p hp=>by
    rcases List.mem_cons.mp hp with rfl|hp
    ·exact .inr ⟨.head _,F.SI⟩
    ·rcases List.mem_cons.mp hp with rfl|hp
     ·exact .inl ⟨rfl,TZ,fun v z=>by rw[hk'.2]at z;cases z⟩
     ·rcases List.mem_cons.mp hp with rfl|hp
      ·exact .inr ⟨.tail _ (.tail _ (.head _)),F.fI⟩
      ·exact .inr ⟨.tail _ (.tail _ (.tail _ hp)),pI p hp⟩)
   rw[F.key j _ hget];show wpAny _ X.A.in1 (tryCatch (holding [.ref (ka j)] (call (.ref f) [.ref (ka j)])) _ >>= _) _ _ _;refine aP (wpAny_tryCatch (wpAny_holding (wpAny_mono (Ag F yT hs I1 (List.Mem.tail _ (.tail _ (.head _)))) (fun u s2 hu=>?_) fun _ _ z=>z)))
   obtain⟨d2,H4,rfl,I2,GS,Yo,hd2⟩:=hu;have hdo:aQ X.K H4 d ((ks i).map V.int):=Yo.XR hd;show wpAny _ X.A.in1 (tryCatch (holding [.ref (ka j),.ref d2] (richCompare .Lt (.ref d2) (.ref d) >>= _)) _ >>= _) _ _ _;refine aP (wpAny_tryCatch (wpAny_holding (aP (Ic I2 hd2 hdo F.un ?_))));refine aP (wpAny_holding (wpAny_truthy_bool (aP (wpAny_letGo (wpAny_pure ?_)))));have lP:=I2.pin (S,_) (gZ _ (.head _));cases hl:HT.lexLt (ks j) (ks i) with
   | true =>
     have s1:=Heap.SameBut.update s2.heap S (Obj.mapSeq fun _=>(#[.ref (ka j),.ref d2]:Array Value))
     obtain⟨n2,hn2⟩:∃ n2,(s2.heap.update S (Obj.mapSeq fun _=>(#[.ref (ka j),.ref d2]:Array Value))).get? S=some (seqObj "list" #[.ref (ka j),.ref d2] n2):=⟨_,get?_update_seq lP.1 fun _=>#[.ref (ka j),.ref d2]⟩
     simp only[if_true];refine aP (wpAny_updateSeq lP.1 rfl (aP (wpAny_letGo ?_)));rw[hname];have I3:=I2.jo (t':=s2.toks) (pb:=mC pq S It f (seqObj "list" #[.ref (ka j),.ref d2] n2) F6 (dO X params body scope c ctv)) F.oS (.head _) (fun b u hb e=>(s1.2 b hb).trans e) (fun p hp=>by
      rcases List.mem_cons.mp hp with rfl|hp
      ·exact .inl ⟨rfl,hn2,fun v z=>by cases z⟩
      ·rcases List.mem_cons.mp hp with rfl|hp
       ·exact .inr ⟨.tail _ (.head _),F.SI.symm⟩
       ·rcases List.mem_cons.mp hp with rfl|hp
        ·exact .inr ⟨.tail _ (.tail _ (.head _)),F.fS⟩
        ·exact .inr ⟨.tail _ (.tail _ (.tail _ hp)),pS p hp⟩)
     refine wpAny_pure ⟨plainId_quiet PySem.F.plain_min_loop _,ih (j+1) j _ H4 d2 n2 F6 (by lia) (by lia) (by lia) GS I3 hk' hd2 fun j' hj'=>?_⟩
     by_cases e:j' = j
     ·rw[e];exact HT.gi _
     ·exact HT.uD (oW j' (by lia)) hl
   | false =>
     simp only[Bool.false_eq_true,if_false];refine aP (wpAny_letGo ?_);rw[hname];refine wpAny_pure ⟨plainId_quiet PySem.F.plain_min_loop _,ih (j+1) i _ H4 d n F6 (by lia) (by lia) (by lia) GS I2 hk' hdo fun j' hj'=>?_⟩
     by_cases e:j' = j
     ·rw[e];exact hl
     ·exact oW j' (by lia)
end
theorem boot_min:bootBuiltins "min"=some (.builtin "min"):=by kernel_rfl
def Qo(K:bX)(P:Addr)(q:Str)(lp:Pos)(ta:TA)(te:TE)(js:List Nat):TE:=fun σ H Q=>ta σ H fun vs H1=>∃ a kvs,∃ ks:Nat->List Int,vs=[.ref a]/\H1 a=some (.dT kvs)/\0<kvs.length/\H1 P=some (.jJ (fc q lp))/\
 (∀ ob H3,(∀ b u,H1 b=some u->b≠a->(∀ y,u≠.own y)->(∀ qs,u≠.jJ qs)->H3 b=some u)->H3 a=some (.k9 ob (.dT kvs))->
  ∀(i:Nat) kv b,kvs[i]?=some kv->H3 b=some (.tup (kv.1.map kV))->te (some (.ref b)::eW σ js) H3 fun v H4=>au H3 H4/\∃ d,v = .ref d/\aQ K H4 d ((ks i).map V.int))/\
 ∀(i:Nat) kv b H4,kvs[i]?=some kv->(∀ j,j<kvs.length->HT.lexLt (ks j) (ks i)=false)->au H1 H4->H4 b=some (.tup (kv.1.map kV))->Q (.ref b) H4
theorem qp{α β:Type}{R:α->β->Prop}:∀{l₁:List α} {l₂:List β},Paired R l₁ l₂->∀{i:Nat} {a:α} {b:β},l₁[i]?=some a->l₂[i]?=some b->R a b
 | _,_,.nil,i,_,_,h,_=>by simp at h
 | _,_,.cons r t,0,_,_,h1,h2=>by
   simp at h1 h2;subst h1 h2;exact r
 | _,_,.cons r t,i+1,_,_,h1,h2=>qp t (by simpa using h1) (by simpa using h2)
section
variable {X:Cx}{params:Arguments}{body e:Expr}{scope:Scope}{lp p pos kp:Pos}{fq:List Str}{js:List Nat}{x:Str}{ta:TA}{te:TE}{c0 P:Addr}{k:Nat}
theorem Lb(hr:eV (k+2) X.A)(T:dw X scope [x] fq js)(hx:scope.names.lookup x=some .local)(hg:Gl X "min")(hm:X.mg "min"=none)(hcode:X.env.code = .ref c0)(hK:PySem.W.codeHdIn X.K c0 P=true)(ha:PA X [e] ta)
 (he:∀ f c s H,eV k (uC X ([x]++fq) scope f c X.A.in1 s H).A->PE (uC X ([x]++fq) scope f c X.A.in1 s H) body te)
 (hb:∀ c ctv u,bindArgs (Aa X params body scope c ctv) ⟨[u],[]⟩=pure [(x,u)]:=by intro _ _ _;rfl) (hco:scope.isCoroutine=false:=by rfl) (hgen:scope.isGenerator=false:=by rfl)
 (hdef:defaultsOf params X.env=([],[]):=by rfl)
 (hs:backTo pos (starEach [e] X.env)=(false,eval e X.env)::backTo pos (starEach [] X.env):=by rfl) (hs2:(backTo pos (starEach [e] X.env)).any (·.1)=false:=by rfl) :
 PE X (.Call (.Name "min" p) [e] [⟨some (Str.ofString "key"),.Lambda params body scope lp,kp⟩] pos) (Qo X.K P (X.env.qual ++ "<lambda>") lp ta te js):=by
 intro pq s σ H Q I h;refine wpAny_Call_Name_kw (lq I hg hm boot_min (callWith_kw (cK (ha pos pq s σ H _ I h) fun us s1 hq=>?_) hs hs2 rfl rfl))
 obtain⟨vs,H1,I1,r1,a,kvs,ks,rfl,hda,hne,hP,hturn,ND⟩:=hq;obtain⟨u,rfl,rx⟩:=vals1 r1;cases rx;refine kws_cons (Ab I1 T hcode hK hP hdef fun f c oc ctv s2 hc Ac hoc J=>kws_nil ?_)
 show wpAny _ X.A (call (.builtin "min") [.ref a] [(Str.ofString "key",.ref f)]) _ _ s2;have hname:(toString "min" ++ toString ".loop":String)="min.loop":=by decide
 have hla:=sQ (oc:=oc) hP hc hda (by intro y z;cases z) (by intro y z;cases z)
 obtain⟨hz,hsys,xs,pr,ob,es,ep,hgo,hex,hdat,hes,hnd⟩:=(show bz X.prog X.w (fH H1 P c oc (X.env.qual ++ "<lambda>") lp) s2.heap a (.dT kvs) from J.hok a _ hla)
 have J2:=J.La hla hgo;have hsz:es.size=kvs.length:=by
  have:=congrArg List.length hes;rw[List.length_map,<-pr.length]at this
  simpa using this
 have hxs:xs.length=kvs.length:=pr.length.symm;have hka:∀ i,i<kvs.length->∃ kv y,kvs[i]?=some kv/\xs[i]?=some y/\fH H1 P c oc (X.env.qual ++ "<lambda>") lp y.2.1=some (.tup (kv.1.map kV)):=fun i hi=>by
  have e1:kvs[i]?=some kvs[i]:=List.getElem?_eq_getElem hi;have e2:xs[i]?=some (xs[i]'(by lia)):=List.getElem?_eq_getElem _
  exact⟨_,_,e1,e2,(qp pr e1 e2).2.1⟩
 have NF:fH H1 P c oc (X.env.qual ++ "<lambda>") lp P=some (.jJ (fc (X.env.qual ++ "<lambda>") lp++mW lp c)):=ae;have Lc:fH H1 P c oc (X.env.qual ++ "<lambda>") lp c=some (.k9 oc (.own P)):=by unfold fH;rw[ao Ac,ae]
 have ca:c≠a:=aS Lc hla (by intro z;cases z)
 have pa:P≠a:=aS NF hla (by intro z;cases z)
 generalize Kn:upd (fH H1 P c oc (X.env.qual ++ "<lambda>") lp) a (.k9 ob (.dT kvs))=H2 at J2;have at2:∀ b u,b≠a->fH H1 P c oc (X.env.qual ++ "<lambda>") lp b=some u->H2 b=some u:=fun b u n e=>by rw[<-Kn,ao n];exact e
 have a2:H2 a=some (.k9 ob (.dT kvs)):=by rw[<-Kn,ae]
 let ka:Nat->Addr:=fun i=>((xs[i]?).map (·.2.1)).getD 0
 have NG:∀{i:Nat} {y:List Key×Addr×Value},xs[i]?=some y->ka i=y.2.1:=fun {i y} e=>by show((xs[i]?).map (·.2.1)).getD 0=_;rw[e];rfl
 refine kmk_tree PySem.F.kind_min PySem.F.plain_min PySem.F.entry_min (kmk_min_key _ _) ?_;show wpAny _ X.A.in1 (Builtin.Builtins.bindParams "min" ["key","default"] 0 ⟨[],[(Str.ofString "key",.ref f)]⟩ >>= _) _ _ s2;refine aP (wpAny_of_eq (show Builtin.Builtins.bindParams "min" ["key","default"] 0 ⟨[],[(Str.ofString "key",.ref f)]⟩=pure [some (.ref f),none] from rfl) ?_)
 refine aP (wpAny_pure (aP (Ia hsys ⟨ob,hgo,hex,hdat⟩ (aP (wpAny_newList ?_ (Nat.zero_le _))))));rw[hname];refine wpAny_pure ⟨plainId_quiet PySem.F.plain_min_loop _,?_⟩;generalize NH:({ cls:=.type "dict_keyiterator",data:=.fields #[.ref a,.int 0 0,.int es.size 0,.int ep 0]}:Obj)=oI;have Vx:RZ oI a 0 es.size ep:=by rw[<-NH];exact⟨rfl,rfl⟩
 have hS:(s2.heap.push oI).objs.size=s2.heap.objs.size+1:=size_push' ..;have hk2:∀ b o,s2.heap.get? b=some o->((s2.heap.push oI).push (seqObj "list" #[] 0)).get? b=some o:=fun b o e=>Heap.get?_push_of_some _ (Heap.get?_push_of_some _ e)
 have gI:((s2.heap.push oI).push (seqObj "list" #[] 0)).get? s2.heap.objs.size=some oI:=Heap.get?_push_of_some _ (Heap.get?_push_size _ (by rw[<-NH];rfl))
 have gS:((s2.heap.push oI).push (seqObj "list" #[] 0)).get? (s2.heap.push oI).objs.size=some (seqObj "list" #[] 0):=Heap.get?_push_size _ rfl;have Ld:∀ p∈(f,dO X params body scope c ctv)::pq,p.1<s2.heap.objs.size:=fun p hp=>Heap.lt_size (J2.pin p (gZ _ hp)).1
 have Mb:=J2.Ib (Nat.le_refl s2.heap.objs.size);have oS:=J2.Ib (b:=(s2.heap.push oI).objs.size) (by rw[hS];exact Nat.le_succ _)
 have F:BR X σ H2 params body scope fq js x te f c a s2.heap.objs.size (s2.heap.push oI).objs.size oc ob ctv kvs es ep ka ks P:=by
  refine⟨T,hx,hr.hd,(hr.in1).depth,(hr.in1).Be,fun u=>hb c ctv u,hco,hgen,fun s H=>he f c s H ((hr.in1).deeper _),hoc,at2 c _ ca Lc,a2,⟨hex,hdat⟩,fun i e hi=>?_,fun i H3 hi A3=>?_,oS,Mb,by rw[hS];exact Nat.succ_ne_self _,?_,Nat.ne_of_lt (Ld _ (.head _))⟩
  ·have hi' : i<kvs.length:=by rw[<-hsz];exact(Array.getElem?_eq_some_iff.mp hi).1
   obtain⟨kv,y,e1,e2,_⟩:=hka i hi';have e3:=congrArg (fun l=>l[i]?) hes
   simp only[List.getElem?_map,e2,Option.map_some,Array.getElem?_toList]at e3;rw[hi]at e3;have e4:=Option.some.inj e3;rw[e4,NG e2];rfl
  ·obtain⟨kv,y,e1,e2,e3⟩:=hka i (by lia)
   refine hturn ob H3 (fun b u eb nb n1 n2=>A3 _ _ (at2 b u nb (sQ hP hc eb n1 n2))) (A3 _ _ a2) i kv (ka i) e1 ?_
   rw[NG e2];exact A3 _ _ (at2 _ _ (aS e3 hla (by intro z;cases z)) e3)
  ·rw[hS];exact Nat.ne_of_lt (Nat.lt_succ_of_lt (Ld _ (.head _)))
 have pI:∀ p∈pq,p.1≠s2.heap.objs.size:=fun p hp=>Nat.ne_of_lt (Ld p (.tail _ hp))
 have pS:∀ p∈pq,p.1≠(s2.heap.push oI).objs.size:=fun p hp=>by rw[hS];exact Nat.ne_of_lt (Nat.lt_succ_of_lt (Ld p (.tail _ hp)))
 have J3:Inv X (mC pq (s2.heap.push oI).objs.size s2.heap.objs.size f (seqObj "list" #[] 0) oI (dO X params body scope c ctv)) σ H2 { s2 with heap:=(s2.heap.push oI).push (seqObj "list" #[] 0)}:=by
  have K:=J2.kept (t':=s2.toks) hk2;refine K.fR fun p hp=>?_
  rcases List.mem_cons.mp hp with rfl|hp
  ·exact⟨gS,J2.hok.fresh (by rw[hS];exact Nat.le_succ _),oS.2.1,oS.2.2.1,fun v z=>by cases z⟩
  ·rcases List.mem_cons.mp hp with rfl|hp
   ·exact⟨gI,J2.hok.fresh (Nat.le_refl _),Mb.2.1,Mb.2.2.1,fun v z=>by rw[Vx.2]at z;cases z⟩
   ·exact K.pin p (gZ _ hp)
 have h0:0<es.size:=by lia
 have hget:(es[0]?:Option DictEntry)=some es[0]:=Array.getElem?_eq_getElem h0;have uF:=J3.pin ((s2.heap.push oI).objs.size,seqObj "list" #[] 0) (gZ _ (.head _));have Ig:=J3.pin (s2.heap.objs.size,oI) (gZ _ (.tail _ (.head _)));refine codeAny_builtin PySem.F.entry_min_loop ?_;rw[Around.under_plainId PySem.F.plain_min_loop _];show wpAny _ X.A.in1 (seqItems? (.ref _) >>= _) _ _ _;refine aP (wpAny_seqItems uF.1 rfl ?_);show wpAny _ X.A.in1 (tryCatch (pyNext (.ref s2.heap.objs.size)) _ >>= _) _ _ _;refine aP (wpAny_tryCatch (uE Ig.1 Vx ⟨ob,hk2 _ _ hgo,hex,hdat⟩ ?_));rw[hget];intro h' F6 TZ hk' sb;have I4:=J3.jo (t':=s2.toks) (h':=h') (pb:=mC pq (s2.heap.push oI).objs.size s2.heap.objs.size f (seqObj "list" #[] 0) F6 (dO X params body scope c ctv)) F.oI (List.Mem.tail _ (.head _)) (fun b u hb e=>(sb.2 b hb).trans e) (fun p hp=>by
  rcases List.mem_cons.mp hp with rfl|hp
  ·exact .inr ⟨.head _,F.SI⟩
  ·rcases List.mem_cons.mp hp with rfl|hp
   ·exact .inl ⟨rfl,TZ,fun v z=>by rw[hk'.2]at z;cases z⟩
   ·rcases List.mem_cons.mp hp with rfl|hp
    ·exact .inr ⟨.tail _ (.tail _ (.head _)),F.fI⟩
    ·exact .inr ⟨.tail _ (.tail _ (.tail _ hp)),pI p hp⟩)
 rw[F.key 0 _ hget];show wpAny _ X.A.in1 (tryCatch (holding [.ref (ka 0)] (call (.ref f) [.ref (ka 0)])) _ >>= _) _ _ _;refine aP (wpAny_tryCatch (wpAny_holding (wpAny_mono (Ag F h0 (au.refl _) I4 (List.Mem.tail _ (.tail _ (.head _)))) (fun u s3 hu=>?_) fun _ _ z=>z)))
 obtain⟨d2,H4,rfl,I5,GS,_,hd2⟩:=hu;have lP:=I5.pin ((s2.heap.push oI).objs.size,_) (gZ _ (.head _));have s1':=Heap.SameBut.update s3.heap (s2.heap.push oI).objs.size (Obj.mapSeq fun _=>(#[.ref (ka 0),.ref d2]:Array Value))
 obtain⟨n2,hn2⟩:∃ n2,(s3.heap.update (s2.heap.push oI).objs.size (Obj.mapSeq fun _=>(#[.ref (ka 0),.ref d2]:Array Value))).get? (s2.heap.push oI).objs.size=some (seqObj "list" #[.ref (ka 0),.ref d2] n2):=⟨_,get?_update_seq lP.1 fun _=>#[.ref (ka 0),.ref d2]⟩
 show wpAny _ X.A.in1 (updateSeq (s2.heap.push oI).objs.size (fun _=>#[.ref (ka 0),.ref d2]) >>= _) _ _ _
 refine aP (wpAny_updateSeq lP.1 rfl ?_);rw[hname];have I6:=I5.jo (t':=s3.toks) (pb:=mC pq (s2.heap.push oI).objs.size s2.heap.objs.size f (seqObj "list" #[.ref (ka 0),.ref d2] n2) F6 (dO X params body scope c ctv)) F.oS (.head _) (fun b u hb e=>(s1'.2 b hb).trans e) (fun p hp=>by
  rcases List.mem_cons.mp hp with rfl|hp
  ·exact .inl ⟨rfl,hn2,fun v z=>by cases z⟩
  ·rcases List.mem_cons.mp hp with rfl|hp
   ·exact .inr ⟨.tail _ (.head _),F.SI.symm⟩
   ·rcases List.mem_cons.mp hp with rfl|hp
    ·exact .inr ⟨.tail _ (.tail _ (.head _)),F.fS⟩
    ·exact .inr ⟨.tail _ (.tail _ (.tail _ hp)),pS p hp⟩)
 refine wpAny_pure ⟨plainId_quiet PySem.F.plain_min_loop _,Ie F pI pS (fun i s' H3 hi best A3 I7=>?_) _ 1 0 _ H4 d2 n2 F6 rfl h0 (Nat.lt_succ_self _) GS I6 hk' hd2 fun j hj=>?_⟩
 ·obtain⟨kv,y,e1,e2,e3⟩:=hka i (by lia)
  have i3:=A3 _ _ a2;have I8:=Inv.Qn J hla I7 i3;have p3:upd H3 a (.dT kvs) P=some (.jJ (fc (X.env.qual ++ "<lambda>") lp++mW lp c)):=by rw[ao pa];exact A3 _ _ (at2 _ _ pa NF)
  have c3:upd H3 a (.dT kvs) c=some (.k9 oc (.own P)):=by rw[ao ca];exact A3 _ _ (at2 _ _ ca Lc)
  have I9:=Ad I1 hP hc Ac hoc I8 p3 c3;have ya:y.2.1≠a:=aS e3 hla (by intro z;cases z)
  have y3:upd H3 a (.dT kvs) y.2.1=some (.tup (kv.1.map kV)):=by rw[ao ya];exact A3 _ _ (at2 _ _ ya e3)
  refine⟨.ref (ka i),_,I9,rfl,ND i kv (ka i) _ e1 (fun j hj=>best j (by lia)) (Ae hP hc Ac (oc:=oc) fun b u eb=>?_) ?_⟩
  ·by_cases hb:b=a
   ·subst hb;rw[hla]at eb;rw[ae];exact eb
   ·rw[ao hb];exact A3 _ _ (at2 _ _ hb eb)
  ·rw[NG e2];unfold given;rw[ao (aS y3 p3 (by intro z;cases z)),ao (aS y3 c3 (by intro z;cases z))]
   exact y3
 ·have e:j=0:=by lia
  rw[e];exact HT.gi _
end
section
variable {P:Program}{w:World}{A:Around}{E:di}{s:Shared}{a:Addr}{es:Array DictEntry}{ep:Nat}
theorem NI(hd:(a==sysModules)=false):MeetsIn P w (Builtin.«dict.__len__» ⟨[.ref a],[]⟩) (fun _ R s=>∃ es ep,RY s.heap a es ep/\R (.ok (.ret (.int es.size s.toks))) { s with toks:=s.toks+1}) :=
 .of_wp fun A R s ⟨es,ep,⟨o,ho,_,hdat⟩,h⟩=>by
  show wpAny _ _ (dictSize a >>= _) _ _ s;unfold dictSize;refine aP (aP (wpAny_dictEntries ho hdat (wpAny_pure ?_)));show wpAny _ _ (Builtin.Dict.pendingCount a >>= _) _ _ s;refine aP (wpAny_pendingCount_other hd (wpAny_ret_mkInt ?_));rw[Nat.add_zero];exact h
theorem EM{Q:di}(hd:(a==sysModules)=false)(g:RY s.heap a es ep)(hfit:(es.size:Int)<2^63)(h:Q (.int es.size (s.toks+1)) { s with toks:=s.toks+1+1}):
 wpAny (model P w) A (call (.builtin "len") [.ref a]) Q E s:=by
 have hT:s.TypeIs (.ref a) "dict":=let⟨o,ho,hc,_⟩:=g;⟨o,ho,hc.1⟩;refine Calls.call_function_entry kind_len plain_len entry_len (args_len1 _) ?_;unfold Builtin.«len»;refine aP (m:=oneArg "len" _) (wpAny_pure ?_);refine aP (m:=callSpecial? (.ref a) (Str.ofString "__len__")) (wpAny_callSpecial?_slot (name:=Str.ofString "__len__") hT PySem.F.slot_dict_len
  (call_meetsIn PySem.F.slot_dict_len hT PySem.F.entry_dict_len (PySem.F.args_dict_len_1 _) (NI hd) ⟨es,ep,g,?_⟩))
 show wpAny _ _ _ _ _ { s with toks:=s.toks+1}
 refine aP (wpAny_holding (wpAny_pure (aP (wpAny_letGo ?_))));show wpAny _ _ (if((es.size:Nat):Int)<0 then _ else _) _ _ _
 rw[if_neg (by lia)]
 show wpAny _ _ (if((es.size:Nat):Int) ≥ 2^63 then _ else _) _ _ _
 rw[if_neg (by lia)]
 exact aP (wpAny_mkInt (wpAny_pure ⟨_,rfl,h⟩))
end
theorem erase_filter{K α:Type}[DecidableEq K]{k:K}{p:α}:∀{xs:List (K×α)} {j:Nat},(xs.map (·.1)).Nodup->xs[j]?=some (k,p)->xs.eraseIdx j=xs.filter fun x=>decide (x.1≠k)
 | [],j,_,h=>by simp at h
 | x::r,0,nd,h=>by
   simp at h;subst h;rw[List.map_cons,List.nodup_cons]at nd;rw[List.eraseIdx_cons_zero,List.filter_cons,if_neg (by simp)]
   refine(List.filter_eq_self.mpr fun y hy=>?_).symm
   have z:y.1≠k:=fun z=>nd.1 (List.mem_map.mpr ⟨y,hy,z⟩)
   simp[z]
 | x::r,j+1,nd,h=>by
   rw[List.map_cons,List.nodup_cons]at nd;have h:r[j]?=some (k,p):=by simpa using h
   have hx:x.1≠k:=fun z=>nd.1 (by rw[z];exact List.mem_map_of_mem (f:=(·.1)) (gy h))
   rw[List.eraseIdx_cons_succ,List.filter_cons,if_pos (cD hx),erase_filter nd.2 h]
theorem m7{α β:Type}(f:α->β):∀(l:List α) (i:Nat),(l.map f).eraseIdx i=(l.eraseIdx i).map f
 | [],_=>rfl
 | _::_,0=>rfl
 | x::r,i+1=>by rw[List.map_cons,List.eraseIdx_cons_succ,List.eraseIdx_cons_succ,List.map_cons,m7 f r i]
theorem KT.drop{H:Hp}{kvs:List (List Key×V)}{xs:List (List Key×Addr×Value)}(r:KT H kvs xs)(k:List Key):KT H (dD kvs k) (xs.filter fun x=>decide (x.1≠k)):=by
 unfold dD
 induction r with
 | nil=>exact .nil
 | @cons p q ps qs h t ih =>
   rw[List.filter_cons,List.filter_cons]
   by_cases e:p.1=k
   ·rw[if_neg (by simp[e]),if_neg (by simp[h.1.symm.trans e])];exact ih
   ·have e' : ¬ q.1=k:=fun z=>e (h.1.trans z)
    rw[if_pos (by simp[e]),if_pos (by simp[e'])];exact .cons h ih
section
variable {P:Program}{w:World}{A:Around}{E:di}{s:Shared}{K:Type}[DecidableEq K]{knd:HeapKind P w K}{d b:Addr}{xs:List (K×Addr×Value)}{k:K}{j:Nat}{p:Addr×Value}
theorem NJ{Q:Option DictEntry->Shared->Prop}(hu:knd.room A)(hkey:knd.is s.heap k b)(hm:s.heap.DictOfH knd d xs)(hj:xs[j]?=some (k,p))(hsz:xs.length<=sizeLine)
 (h:∀ e h' o' es' CN,e.val=p.2->h'.get? d=some o'->o'.ExactDict->o'.data = .dict es' CN->es'.toList=(xs.eraseIdx j).map (entryOfKey knd)->Heap.SameBut d s.heap h'->Q (some e) { s with heap:=h',toks:=s.toks+knd.draws k}) :
 wpAny (model P w) A (Builtin.Dict.takeOut d (.ref b)) Q E s:=by
 obtain⟨o,es,ep,ho,hc,hd,he,his,hn⟩:=hm;unfold Builtin.Dict.takeOut
 try with_reducible refine wpAny_holding ?_
 refine aP (knd.pyHash hu hkey (aP (wpAny_dictFind_heap (s:={ s with toks:=s.toks+knd.draws k}) hu hkey ho hd he his hn (fun hno=>absurd hj (hno j p)) fun j' p' hj'=>?_)))
 have Yp:j' = j:=idxH_unique hn hj' hj;subst Yp;refine aP (wpAny_dictEntries (s:={ s with toks:=s.toks+knd.draws k}) ho hd ?_)
 rw[entry_at he j',hj];refine aP (wpAny_updateDictKeys (hz:=by have e:=size_of_entries he;lia) (s:={ s with toks:=s.toks+knd.draws k}) ho hd (wpAny_pure (h _ _ _ _ (ep+1) rfl (Heap.get?_update_self _ ho (Obj.isFreed_of_dict (Obj.data_mapDictKeys hd _))) (hc.mapDictKeys _) (Obj.data_mapDictKeys hd _) ?_ (Heap.SameBut.update ..))))
 rw[<-m7,<-he];obtain⟨l⟩:=es;simp
theorem Qp{Q:di}(hu:knd.room A.in1)(hkey:knd.is s.heap k b)(hm:s.heap.DictOfH knd d xs)(hj:xs[j]?=some (k,p))(hsz:xs.length<=sizeLine)
 (h:∀ h' o' es' CN,h'.get? d=some o'->o'.ExactDict->o'.data = .dict es' CN->es'.toList=(xs.eraseIdx j).map (entryOfKey knd)->Heap.SameBut d s.heap h'->Q p.2 { s with heap:=h',toks:=s.toks+knd.draws k}) :
 wpAny (model P w) A (call (.builtin "dict.pop") [.ref d,.ref b]) Q E s:=by
 have hT:=hm.typeIs;refine wpAny_call_entry PySem.F.slot_dict_pop hT PySem.F.entry_dict_pop ?_ (PySem.F.args_dict_pop_2 _ _);unfold Builtin.«dict.pop» Builtin.Dict.keyAndDefault;refine aP (aP (wpAny_notOrdered_dict hT ?_));show wpAny _ _ (pure (d,Value.ref b,(none:Option Value))) _ _ s;refine wpAny_pure ?_;obtain⟨o,es,ep,ho,hc,hd,he,his,hn⟩:=id hm;have hne:es.isEmpty=false:=by
  have e:=size_of_entries he;have hl:=(iH.mp hj).1;rw[Array.isEmpty_eq_false_iff_exists_mem];exact⟨es[j]'(by lia),Array.getElem_mem _⟩
 have hkp:(keyPart (Value.ref b)).isSome=false:=rfl;simp only[hkp,Bool.false_eq_true,if_false];refine aP (wpAny_dictEntries ho hd (aP (wpAny_pure ?_)));rw[hne];simp only[Bool.false_eq_true,if_false];refine aP (NJ hu hkey hm hj hsz fun e h' o' es' CN e1 e2 e3 e4 e5 e6=>?_)
 simp only[Option.isNone_some,Bool.false_eq_true,if_false];refine aP (wpAny_letGo (wpAny_pure ⟨e.val,rfl,?_⟩));rw[e1];exact h h' o' es' CN e2 e3 e4 e5 e6
end
section
variable {X:Cx}{pq:aR}{σ:St}{H:Hp}{s:Shared}
theorem T3:e7 X (.builtin "len") (fun xs H Q=>∃ a kvs,xs=[.ref a]/\Rd H a (.dT kvs)/\Q (.int kvs.length) H):=by
 intro pq s σ H xs us Q I r h;obtain⟨a,kvs,rfl,e,q⟩:=h;obtain⟨u,rfl,rx⟩:=vals1 r;cases rx;obtain⟨z,hsys,ys,pr,ob,es,ep,hgo,hex,hdat,hes,hnd⟩:=(show bz X.prog X.w H s.heap a (.dT kvs) from e.ok I.hok)
 have hsz:es.size=kvs.length:=by
  have:=congrArg List.length hes;rw[List.length_map,<-pr.length]at this
  simpa using this
 refine EM hsys ⟨ob,hgo,hex,hdat⟩ (by rw[hsz];rw[sizeLine_eq]at z;lia) ?_
 rw[hsz];exact⟨.int kvs.length,H,I.tok _,⟨_,rfl⟩,q⟩
def NK(td ty:TE):TE:=fun σ H Q=>td σ H fun x H1=>∃ a,x = .ref a/\RT H1 a/\ty σ H1 fun y H2=>∃ kvs k b v,H2 a=some (.dT kvs)/\y = .ref b/\H2 b=some (.tup (k.map kV))/\dB kvs k=some v/\Q v (upd H2 a (.dT (dD kvs k)))
theorem NL{A:Around}{E:di}{a b:Addr}{kvs:List (List Key×V)}{k:List Key}{v:V}{Q:di}(hu:A.units+1<cLine)(I:Inv X pq σ H s)(e:H a=some (.dT kvs))(eb:H b=some (.tup (k.map kV)))(l:dB kvs k=some v)
 (h:∀ w' s',Inv X pq σ (upd H a (.dT (dD kvs k))) s'->RelV v w'->Q w' s'):wpAny (model X.prog X.w) A (call (.builtin "dict.pop") [.ref a,.ref b]) Q E s:=by
 obtain⟨z,hd,xs,rel,dd⟩:=Ho I.hok e;have hv:=rel.val k;rw[l]at hv;obtain⟨w',hw,rw'⟩:=pN.some_of hv;obtain⟨p,Vy,Ou⟩:=vn.mp hw;obtain⟨j,hj⟩:∃ j,xs[j]?=some (k,p):=by
  unfold atKey at Vy;obtain⟨y,Vz,Yq⟩:=vn.mp Vy;have hk:=List.find?_some Vz;have hm:=List.mem_of_find?_eq_some Vz;obtain⟨j,hj⟩:=List.getElem?_of_mem hm;have hk' : y.1=k:=iG hk;exact⟨j,by rw[hj,<-hk',<-Yq]⟩
 have hnd:(xs.map (·.1)).Nodup:=let⟨_,_,_,_,_,_,_,_,hn⟩:=dd;hn;refine Qp (tupleKind_room_in1 hu) (lH I.hok eb) dd hj (by rw[<-rel.length];exact z) fun h' o' es' CN g1 g2 g3 g4 sb=>?_
 rw[Ou];refine h w' _ ?_ rw';have hne:∀ b ys,H b=some (.tup ys)->upd H a (.dT (dD kvs k)) b=some (.tup ys):=fun b ys q=>by rw[ao (aS q e (by intro z;cases z))];exact q
 rw[erase_filter hnd hj]at g4;refine oM I (by rw[e];exact True.intro) sb ⟨o',g1⟩ ⟨Nat.le_trans (Hl kvs k) z,hd,_,(rel.drop k).keeps hne,o',es',CN,g1,g2,g3,g4,?_⟩
 exact hnd.sublist (List.filter_sublist.map _)
variable {o e:Expr}{apos cpos:Pos}{td ty:TE}
theorem Ii(hu:X.A.units+1<cLine)(ho:PE X o td)(he:PE X e ty)(m:M1 X o "pop" apos e cpos):PE X (.Call (.Attribute o "pop" apos) [e] [] cpos) (NK td ty):=by
 intro pq s σ H Q I h;refine wpAny_Call_method m.base m.few m.line PySem.F.plainAttrs_dict PySem.F.slot_dict_pop PySem.F.type_dict_pop (cK (ho pq s σ H _ I h) fun u s1 ⟨x,H1,I1,rx,a,ex,d,q1⟩=>?_)
 subst ex;obtain rfl:u=Value.ref a:=rx;obtain⟨t1,t2,_⟩:=BH I1 d;refine⟨t1,t2,?_⟩;rw[m.trees];refine Calls.callWith_builtin rfl (Calls.evalArgs_plain (Calls.spliced_cons (cK (he pq s1 σ H1 _ I1 q1) fun iv s2 ⟨y,H2,I2,ry,kvs,k,b,v,ea,ey,eb,l,q2⟩=>Calls.spliced_nil ?_)))
 subst ey;obtain rfl:iv=Value.ref b:=ry;exact NL hu I2 ea eb l fun w' s3 I3 rw'=>⟨v,_,I3,rw',q2⟩
def NO(tk tv:TE):TE:=fun σ H Q=>∀ p,H p=none->tk σ (upd H p (.dT [])) fun y H1=>tv σ H1 fun v H2=>∃ b k,y = .ref b/\H2 b=some (.tup (k.map kV))/\H2 p=some (.dT [])/\Q (.ref p) (upd H2 p (.dT [(k,v)]))
end
section
variable {X:Cx}{k v:Expr}{pos:Pos}{tk tv:TE}
theorem Ij(hu:X.A.units+1<cLine)(hk:PE X k tk)(hv:PE X v tv):PE X (.Dict [some k] [v] pos) (NO tk tv):=by
 intro pq s σ H Q I q;have hn:=I.hok.fresh (Nat.le_refl s.heap.objs.size);have I1:=I.laid (a:=s.heap.objs.size) (o:=.dT []) (h':=s.heap.push { cls:=.type "dict",data:=.dict #[]}) (t':=s.toks) (fun _ _ q=>Heap.get?_push_of_some _ q) (Nat.le_refl _) (Hs s.heap I.big)
 rw[arm_eval_Dict,zip_pairTrees [some k] [v] X.env pos rfl rfl,dictDisplay_pairs (pairTrees [some k] [v] X.env pos) (by intro z;cases z) (show 1<17 by decide)]
 refine aP (wpAny_standAt (aP ?_));unfold subDict;refine aP (wpAny_alloc (aP (wpAny_holding ?_)));rw[if_pos (show(pairTrees [some k] [v] X.env pos).length<=15 from(show 1<=15 by decide))]
 refine aP (pairTrees_cons_walk (cK (hk pq _ σ _ _ I1 (q _ hn)) fun u s1 ⟨y,H1,I2,ry,q1⟩=>cK (hv pq s1 σ H1 _ I2 q1) fun u2 s2 ⟨vv,H2,I3,rv,b,ks,ey,eb,ep,q2⟩=>pairTrees_nil_walk ?_))
 subst ey;obtain rfl:u=Value.ref b:=ry;obtain⟨z,hd,xs,rel,dd⟩:=Ho I3.hok ep;cases rel;refine wpAny_holding (aP ?_);rw[List.forIn_cons];refine aP (aP (wpAny_dictSet_heap (hsz:=Nat.zero_le _) (show X.A.units<cLine from Nat.lt_of_succ_lt hu) (lH I3.hok eb) dd fun h' KN hs=>wpAny_pure ?_))
 show wpAny _ _ (forIn [] PUnit.unit _) _ _ _;rw[List.forIn_nil];refine wpAny_pure (wpAny_pure (wpAny_pure (wpAny_pure ?_)));obtain⟨o',es',CN,g1,g2,g3,g4,g5,g6⟩:=KN;have hb:upd H2 s.heap.objs.size (.dT [(ks,vv)]) b=some (.tup (ks.map kV)):=by
  rw[ao (aS eb ep (by intro z;cases z))]
  exact eb
 have new:bz X.prog X.w (upd H2 s.heap.objs.size (.dT [(ks,vv)])) h' s.heap.objs.size (.dT [(ks,vv)]):=⟨(show 1<=sizeLine by decide),hd,[(ks,b,u2)],.cons ⟨rfl,hb,rv⟩ .nil,o',es',CN,g1,g2,g3,g4,g6⟩
 exact⟨.ref s.heap.objs.size,_,oM I3 (by rw[ep];exact True.intro) hs ⟨o',g1⟩ new,rfl,q2⟩
end
end L2
namespace HT
open PySem PyProof.Rows
def Le(a b c d:Int):Bool:=if a=c then(if b=d then true else decide (b<=d)) else decide (a<=c)
theorem yc(a b c d:Int):Le a b c d=true↔a<c\/(a=c/\b<=d):=by
 unfold Le
 by_cases h:a=c
 ·rw[if_pos h]
  by_cases h2:b=d
  ·rw[if_pos h2];simp[h,h2]
  ·rw[if_neg h2];simp only[decide_eq_true_eq];lia
 ·rw[if_neg h];simp only[decide_eq_true_eq];lia
theorem Ik(A:Around)(s:Shared)(a:Int)(t:Tok)(c:Int)(u:Tok)(prog:Program)(w:World)(E:di)(Q:di)(h:Q (.bool (decide (a<=c))) s):
 wpAny (model prog w) A (richCompare .LtE (.int a t) (.int c u)) Q E s :=
 (PyProof.Rows.le_int h:wpAny (model prog w) A (compareOp .LtE (.int a t) (.int c u)) Q E s)
section
open PySem.SeqAt
open PySem.AutoSeq1 (wpAny_loadPart')
open PySem.MeetsSeq PySem.MeetsSeq2 PySem.MeetsSeq3
theorem EN(l b:Addr)(items items2:Array Value)(n n2:Nat)(dd dd2:Option Addr)(sl sl2:Array (Option Value))(x1 y1 x2 y2:Int)(t1 u1 t2 u2:Tok)(hi:items.toList=[.int x1 t1,.int y1 u1])(hj:items2.toList=[.int x2 t2,.int y2 u2]):
 Meets (Builtin.«tuple.__le__» ⟨[.ref l,.ref b],[]⟩)
  (fun _ R s=>s.heap.get? l=some { cls:=.type "tuple",dict:=dd,data:=.seq items n,slots:=sl}/\s.heap.get? b=some { cls:=.type "tuple",dict:=dd2,data:=.seq items2 n2,slots:=sl2}/\
   R (.ok (.ret (.bool (Le x1 y1 x2 y2)))) s) :=
 .of_wp fun prog w A R s h=>by
  obtain⟨hp,g,d,tk,os⟩:=s;obtain⟨hl,hb,h⟩:=h;have f2:=AutoSeq1.sub_tuple_tuple;have z1:items.size=2:=by rw[<-Array.length_toList,hi];rfl
  have z2:items2.size=2:=by rw[<-Array.length_toList,hj];rfl
  wp_walk using wpAny_loadPart' hl,wpAny_loadPart' hb,wpAny_forIn_list _ (fun rest b s'=>b.1=none/\s' = ⟨hp,g,d,tk,os⟩/\
   ((rest=[((Value.int x1 t1:Value),(Value.int x2 t2:Value)),(.int y1 u1,.int y2 u2)]/\R (.ok (.ret (.bool (Le x1 y1 x2 y2)))) ⟨hp,g,d,tk,os⟩)\/
    (rest=[((Value.int y1 u1:Value),(Value.int y2 u2:Value))]/\R (.ok (.ret (.bool (if y1=y2 then true else decide (y1<=y2))))) ⟨hp,g,d,tk,os⟩)\/(rest=[]/\R (.ok (.ret (.bool true))) ⟨hp,g,d,tk,os⟩))) _
  case turn =>
   rintro⟨y,x⟩ rest b s' ⟨hb',rfl,hh⟩;obtain⟨a,c,t,u,vv,hy,hx,hR,hN⟩:∃(a c:Int) (t u:Tok) (vv:Bool),y = .int a t/\x = .int c u/\R (.ok (.ret (.bool (if a=c then vv else decide (a<=c))))) ⟨hp,g,d,tk,os⟩/\
    (R (.ok (.ret (.bool vv))) ⟨hp,g,d,tk,os⟩->(rest=[((Value.int y1 u1:Value),(Value.int y2 u2:Value))]/\R (.ok (.ret (.bool (if y1=y2 then true else decide (y1<=y2))))) ⟨hp,g,d,tk,os⟩)\/(rest=[]/\R (.ok (.ret (.bool true))) ⟨hp,g,d,tk,os⟩)):=by
    rcases hh with⟨hz,hR⟩|⟨hz,hR⟩|⟨hz,_⟩
    ·injection hz with ha hr
     obtain⟨hy,hx⟩:=Prod.mk.inj ha;exact⟨x1,x2,t1,t2,_,hy,hx,hR,fun T4=>.inl ⟨hr,T4⟩⟩
    ·injection hz with ha hr
     obtain⟨hy,hx⟩:=Prod.mk.inj ha;exact⟨y1,y2,u1,u2,true,hy,hx,hR,fun T4=>.inr ⟨hr,T4⟩⟩
    ·cases hz
   subst hy hx;obtain⟨e,he,Gw⟩:=zb A.in1 ⟨hp,g,d,tk,os⟩ a t c u;refine wpAny_bind (he prog w _ _ ?_);cases e with
   | true =>
     rw[if_pos (Gw.mp rfl)]at hR
     wp_walk
     exact⟨rfl,rfl,.inr (hN hR)⟩
   | false =>
     rw[if_neg (fun q=>absurd (Gw.mpr q) Bool.false_ne_true)]at hR
     have J8:=Ik A.in1 ⟨hp,g,d,tk,os⟩ a t c u prog w
     wp_walk using J8
     exact⟨_,rfl,by simpa using hR⟩
  case fin =>
   rintro⟨b1,b2⟩ s' ⟨hb',rfl,hh⟩;simp only at hb';subst hb';rcases hh with⟨hz,_⟩|⟨hz,_⟩|⟨_,hR⟩
   ·cases hz
   ·cases hz
   ·wp_walk
    refine⟨_,rfl,?_⟩
    simpa[Builtin.Tuple.tupleCompareSizes,z1,z2]using hR
  case h =>
   refine⟨rfl,rfl,.inl ⟨?_,h⟩⟩;rw[hi,hj];rfl
end
section
variable {prog:Program}{w:World}{A:Around}{E:di}{s:Shared}
theorem Il{l b:Addr}{items items2:Array Value}{x1 y1 x2 y2:Int}{Q:di}(hl:IsTup s.heap l items)(hb:IsTup s.heap b items2)(hi:IntsAre items.toList [x1,y1])(hj:IntsAre items2.toList [x2,y2])
 (hu:A.units<cLine) (h:Q (.bool (Le x1 y1 x2 y2)) s):wpAny (model prog w) A (compareOp .LtE (.ref l) (.ref b)) Q E s:=by
 obtain⟨⟨cls,dd,data,sl⟩,ho,hc,n,hd⟩:=id hl;obtain⟨⟨SW,dd2,data2,sl2⟩,ho2,hc2,n2,hd2⟩:=id hb;simp only at hc hd hc2 hd2;subst hc hd hc2 hd2;have two:∀{vs:List Value} {a c:Int},IntsAre vs [a,c]->∃ t u,vs=[.int a t,.int c u]:=fun {vs a c} q=>by
  cases q with
  | cons n t r=>cases r with
    | cons n' t' r'=>cases r';exact⟨t,t',rfl⟩
 obtain⟨t1,u1,e1⟩:=two hi;obtain⟨t2,u2,e2⟩:=two hj;exact richCompare_meets_room (op:=.LtE) ⟨_,ho,rfl⟩ ⟨_,ho2,rfl⟩ PySem.F.slot_tuple_le PySem.F.entry_tuple_le (PySem.F.args_tuple_le_2 _ _) (EN l b items items2 n n2 dd dd2 sl sl2 x1 y1 x2 y2 t1 u1 t2 u2 e1 e2)
  ⟨ho,ho2,show Value.bool (Le x1 y1 x2 y2)≠Value.notImplemented/\Q (.bool (Le x1 y1 x2 y2)) s from⟨(fun x=>nomatch x),h⟩⟩ hu
end
end HT
namespace L2
open PySem PySem.Spec PyProof.Rows
section
variable {X:Cx}
def T5(K:bX):R2:=fun x y H Q=>∃ a b x1 y1 x2 y2,x = .ref a/\y = .ref b/\aQ K H a [.int x1,.int y1]/\aQ K H b [.int x2,.int y2]/\Q (.bl (HT.Le x1 y1 x2 y2)) H
theorem NP(hu:X.A.units<cLine):k6 X (compareOp .LtE) (T5 X.K):=by
 intro pq s σ H x y v u Q I rx ry h;obtain⟨a,b,x1,y1,x2,y2,rfl,rfl,ha,hb,q⟩:=h;cases rx;cases ry;obtain⟨its,r1,p1,_⟩:=I.tuple ha;obtain⟨its2,r2,p2,_⟩:=I.tuple hb;exact HT.Il p1 p2 (intsAre_of (ns:=[x1,y1]) r1) (intsAre_of (ns:=[x2,y2]) r2) hu ⟨.bl (HT.Le x1 y1 x2 y2),H,I,rfl,q⟩
end
abbrev rZ:=List (Addr×Str×Pos)
structure TabsOk(K:bX)(h:Heap)(tb:rZ):Prop where
 nd:(tb.map (·.1)).Nodup
 mt:∀ p∈tb,h.get? p.1=some (PySem.W.tabObj #[])
 code:∀ p∈tb,∃ c,PySem.W.CodeHd h c p.1
 out:∀ p∈tb,K.lookup p.1=none
def TabsAt(tb:rZ)(H:Hp):Prop:=∀ p∈tb,H p.1=some (.jJ (fc p.2.1 p.2.2))
def Ah(tb:rZ):Hp:=fun b=>(tb.find? fun p=>p.1==b).map fun p=>.jJ (fc p.2.1 p.2.2)
theorem mD{tb:rZ}{b:Addr}{u:HO}(e:Ah tb b=some u):∃ p∈tb,p.1=b/\u = .jJ (fc p.2.1 p.2.2):=by
 unfold Ah at e;obtain⟨p,h1,h2⟩:=vn.mp e;have h3:(p.1==b)=true:=List.find?_some (p:=fun p:Addr×Str×Pos=>p.1==b) h1
 exact⟨p,List.mem_of_find?_eq_some h1,eq_of_beq h3,h2.symm⟩
theorem yd:∀{tb:rZ},(tb.map (·.1)).Nodup->TabsAt tb (Ah tb)
 | [],_=>fun p hp=>nomatch hp
 | q::r,nd=>fun p hp=>by
   rw[List.map_cons,List.nodup_cons]at nd;rcases List.mem_cons.mp hp with rfl|hp
   ·unfold Ah;rw[List.find?_cons_of_pos (by simp)];rfl
   ·have ne:(q.1==p.1)=false:=beq_eq_false_iff_ne.mpr fun z=>nd.1 (by rw[z];exact List.mem_map_of_mem hp)
    unfold Ah;rw[List.find?_cons_of_neg (by rw[ne];exact Bool.false_ne_true)]
    exact yd nd.2 p hp
theorem EO{P:Program}{w:World}{K:bX}{mg mb:mZ}{CX:F3}{k:Nat}{fa a:Addr}{fd:FuncData}{x:Str}{sp:Sp}{s₁:Shared}{vs:List Value}{ns:List Int}{tb:rZ}
 (KX:K.In s₁.heap) (TB:TabsOk K s₁.heap tb) (hns:s₁.heap.Ns mainGlobals mg) (hb:s₁.heap.Ns builtinsNs mb) (Yr:∀ x:Str,x≠"__name__"->mb x=bootBuiltins x) (hlim:s₁.heap.NoLimit)
 (hbm:∃ bm ob,mg "__builtins__"=some (.ref bm)/\bm≠builtinsNs/\s₁.heap.get? bm=some ob/\ob.cls = .type "module"/\ob.dict=some builtinsNs/\ob.data = .plain) (hg:s₁.gens = #[])
 (ha:s₁.heap.get? a=some { cls:=.type "list",data:=.seq vs.toArray}) (hi:IntsAre vs ns) (hl:ns.length<=sizeLine) (hr:eV k callerA)
 (F:∀ base:Heap,K.In base->base.Ns mainGlobals mg->lz P w K mg base CX k fa fd [x] sp) (hbind:∀(s:Shared) (u:Value),BindsTo s fd ⟨[u],[]⟩ [(x,u)])
 (wu:∀ H:Hp,TabsAt tb H->aK K H a (ns.map V.int)->sp [.ref a] H (fun v _=>v = .bl true) fun _ _ _=>False)
 (T6:∀ H e s',CX [] H s₁ (fun _ _ _=>False) e s'->False) :
 codeAny (model P w) callerA (.call (.ref fa) ⟨[.ref a],[]⟩) (fun r s'=>r = .ok (.ret (.bool true))/\OldK s₁.heap s'.heap/\s'.os=s₁.os/\AllBare s'.gens) s₁:=by
 have rv:=wA hi;have T7:=hi.length;have aT:∀ p∈tb,p.1≠a:=fun p hp z=>by
  have:=TB.mt p hp;rw[z,ha]at this;cases this
 let fz:HO:=.k9 { cls:=.type "list",data:=.seq vs.toArray} (.lst (ns.map V.int))
 have core:∀ H:Hp,aK K H a (ns.map V.int)->TabsAt tb H->l8 P w H s₁.heap->(∀ b u,H b=some u->(b=a/\K.lookup a=none/\u=fz)\/∃ p∈tb,p.1=b/\u = .jJ (fc p.2.1 p.2.2))->
  codeAny (model P w) callerA (.call (.ref fa) ⟨[.ref a],[]⟩) (fun r s'=>r = .ok (.ret (.bool true))/\OldK s₁.heap s'.heap/\s'.os=s₁.os/\AllBare s'.gens) s₁:=by
  intro H hS hT hok hA;have free:∀{b:Addr} {o:Obj},s₁.heap.get? b=some o->(∀ xs n,o.data≠.seq xs n)->(∀ xs,o.data≠.fields xs)->H b=none:=fun {b o} e n1 n2=>by
   cases q:H b with
   | none=>rfl
   | some u =>
     rcases hA b u q with⟨z,_⟩|⟨p,hp,z,_⟩
     ·rw[z,ha]at e;cases e;exact absurd rfl (n1 _ _)
     ·rw[<-z,TB.mt p hp]at e;cases e;exact absurd rfl (n2 _)
  have R0:∀{b:Addr} {m:mZ},s₁.heap.Ns b m->(yW s₁.heap H).Ns b m:=fun {b m} ⟨o,es,ep,e,d,r⟩=>⟨o,es,ep,sW e (free e (by intro _ _ z;rw[d]at z;cases z) (by intro _ z;rw[d]at z;cases z)),d,r⟩
  have VA:K.In (yW s₁.heap H):=fun b o e=>sW (KX b o e) (by
   cases q:H b with
   | none=>rfl
   | some u =>
     rcases hA b u q with⟨z,n,_⟩|⟨p,hp,z,_⟩
     ·rw[z,n]at e;cases e
     ·rw[<-z,TB.out p hp]at e;cases e)
  have hM:Mod K mg (yW s₁.heap H):=⟨VA,R0 hns,⟨mb,R0 hb,Yr⟩,(let⟨mc,h1,h2⟩:=hlim;⟨mc,R0 h1,h2⟩),
   let⟨bm,ob,b1,b2,b3,b4,b5,b6⟩:=hbm;⟨bm,ob,b1,b2,sW b3 (free b3 (by intro _ _ z;rw[b6]at z;cases z) (by intro _ z;rw[b6]at z;cases z)),b4,b5,b6⟩⟩
  have e0:J0 P w K mg (yW s₁.heap H) callerA [] s₁ H:=⟨rfl,hM,fun b o e=>JQ e,Nat.le_of_eq (DW _ _),trivial,fun b hb=>absurd (show b∈([]:List Addr) from hb) (by simp),hok,.of_eq hg⟩
  refine codeAny_mono ((F _ VA (R0 hns)).run callerA [] s₁ H ⟨[.ref a],[]⟩ [.ref a] [.ref a] _ _ hr e0 (hbind s₁ (.ref a)) (.cons rfl .nil) (wu H hT hS)) fun r s' h=>?_
  cases r with
  | error e=>exact(T6 H e s' h).elim
  | ok fl =>
    cases fl with
    | next=>exact False.elim h
    | brk=>exact False.elim h
    | cont=>exact False.elim h
    | ret u =>
      obtain⟨v,H',os,bare,un,Qq,r',q⟩:=h;have q' : v = .bl true:=q;subst q';obtain rfl:u=Value.bool true:=r';have all:∀ b o,s₁.heap.get? b=some o->s'.heap.get? b=some o\/∃ p∈tb,p.1=b/\∃ ps,s'.heap.get? b=some (PySem.W.tabObj ps):=fun b o e=>by
       cases q:H b with
       | none=>exact .inl (un.keep b o e q (by intro z;exact absurd (show b∈([]:List Addr) from z) (by simp)) (by simp))
       | some u =>
         rcases hA b u q with⟨z,_,z2⟩|⟨p,hp,z,z2⟩
         ·rw[z2]at q;obtain⟨e1,_⟩:=hok b _ q;obtain⟨e2,_⟩:=Qq b _ (un.jZ b _ _ q);rw[e]at e1;cases e1;exact .inl e2
         ·rw[z2]at q;obtain⟨more,q2⟩:=un.lg b _ q;obtain⟨ps,e2,_⟩:=Qq b _ q2;exact .inr ⟨p,hp,z,ps,e2⟩
      refine⟨rfl,⟨fun b o e=>?_,fun b o e=>?_⟩,os,bare⟩
      ·rcases all b o e with z|⟨p,hp,z,ps,e2⟩
       ·exact .inl z
       ·obtain⟨c,hc⟩:=TB.code p hp;have e1:=TB.mt p hp;subst z;rw[e]at e1;cases e1;exact .inr (.inl ⟨(hc.tab e).isCodeTable,rfl,#[],ps,rfl,by rw[e2,Array.empty_append]⟩)
      ·rcases all b o e with z|⟨p,hp,z,ps,e2⟩
       ·exact⟨o,z⟩
       ·exact⟨_,e2⟩
 have tok:∀{H:Hp} {b:Addr} {p},p∈tb->p.1=b->bz P w H s₁.heap b (.jJ (fc p.2.1 p.2.2)):=fun {H b p} hp z=>⟨#[],by rw[<-z];exact TB.mt p hp,.inl ⟨rfl,.inl rfl⟩⟩
 cases hk:K.lookup a with
 | some o =>
   have e:=KX a o hk;rw[ha]at e;cases e;refine core (Ah tb) (.inr ⟨_,vs.toArray,_,hk,rfl,rfl,rfl,by rw[List.size_toArray,T7];exact hl,by simpa using rv⟩) (yd TB.nd) (fun b u e=>?_) fun b u e=>.inr (mD e)
   obtain⟨p,hp,z,rfl⟩:=mD e;exact tok hp z
 | none =>
   refine core (fun b=>if b=a then some fz else Ah tb b) (.inl (.inr ⟨{ cls:=.type "list",data:=.seq vs.toArray},if_pos rfl⟩)) (fun p hp=>?_) (fun b u e=>?_) fun b u e=>?_
   ·show(if p.1=a then some fz else Ah tb p.1)=_
    rw[if_neg (aT p hp)];exact yd TB.nd p hp
   ·by_cases hb:b=a
    ·have z:=(if_pos hb).symm.trans e;cases z;subst hb;exact⟨ha,by rw[List.length_map];exact hl,vs,_,rv,ha⟩
    ·have z:=(if_neg hb).symm.trans e;obtain⟨p,hp,z2,rfl⟩:=mD z;exact tok hp z2
   ·by_cases hb:b=a
    ·have z:=(if_pos hb).symm.trans e;exact .inl ⟨hb,hk,(Option.some.inj z).symm⟩
    ·exact .inr (mD ((if_neg hb).symm.trans e))
theorem Im{l:PySem.W.OpenLaw}{n k:Nat}{q:Program}{loose:List Str}{XP:(Str->Option Value)->Heap->Prop}{YP:World->Heap->Prop}{d:DefRec}{K:Params->bX}{CX:World->F3}{sp:World->rZ->Sp}{x:Str}{ts:List Addr}
 (hn:l.most=some n) (hn2:n<=sizeLine) (LR:d.params.defaults=[]) (hr:eV k callerA)
 (hY:∀(w:World) (h:Heap),YP w h->(K w.params).In h/\∀ P∈ts,h.get? P=some (PySem.W.tabObj #[]))
 (F:∀(w:World) (mg:mZ) (fa:Addr) (h:Heap),(K w.params).In h->h.Ns mainGlobals mg->mg d.name=some (.ref fa)->
  ∃(fd:FuncData) (tb:rZ),((tb.map (·.1)).Nodup/\PySem.W.noTabs (K w.params)=true/\∀ p∈tb,p.1∈ts/\∃ c,PySem.W.codeHdIn (K w.params) c p.1=true)/\(∀(s:Shared) (u:Value),BindsTo s fd ⟨[u],[]⟩ [(x,u)])/\
   ∀ base:Heap,(K w.params).In base->base.Ns mainGlobals mg->lz l.prog w (K w.params) mg base (CX w) k fa fd [x] (sp w tb))
 (wu:∀(w:World) (H:Hp) (a:Addr) (ns:List Int) (tb:rZ),ns.length<=n->TabsAt tb H->aK (K w.params) H a (ns.map V.int)->sp w tb [.ref a] H (fun v _=>v = .bl true) fun _ _ _=>False)
 (T6:∀(w:World) (H:Hp) (s:Shared) (e:Value) (s' : Shared),CX w [] H s (fun _ _ _=>False) e s'->False) :
 PySem.W.WalkO q loose XP YP l.row.toRowW d [] (fun f vs=>PySem.call f vs):=by
 refine Att.zd hn LR fun w s₀ s₁ mg mb fa o pm cd doc a vs ns G Y ho hd hcd hmg hobj hints hlen hg=>?_
 obtain⟨KX,hts⟩:=hY w _ Y;obtain⟨fd,tb,⟨nd,nt,ht⟩,hb,hF⟩:=F w mg fa _ KX G.T.g hmg;have TB:TabsOk (K w.params) s₁.heap tb:=⟨nd,fun p hp=>hts _ (ht p hp).1,fun p hp=>let⟨_,c,e⟩:=ht p hp;⟨c,PySem.W.codeHd_of_K KX e⟩,fun p hp=>by
  cases e:(K w.params).lookup p.1 with
  | none=>rfl
  | some ob =>
    have e1:=KX _ _ e;rw[hts _ (ht p hp).1]at e1;cases e1;have z:=List.all_eq_true.mp nt (p.1,PySem.W.tabObj #[]) (PySem.W.mem_of_lookupK e);exact absurd (show false=true from z) Bool.false_ne_true⟩
 exact EO KX TB G.T.g G.T.b G.T.builtins G.T.nolimit G.T.bmain hg hobj hints (Nat.le_trans hlen hn2) hr hF hb (fun H hT hS=>wu w H a ns tb hlen hT hS) fun H e s'=>T6 w H s₁ e s'
def r6(f:Str):Str:=f ++ ".<locals>." ++ "<lambda>"
structure BS(K:bX)(x qual:Str)(st:Stmt)(f:Addr)(fd:FuncData)(c0 P:Addr):Prop where
 ex:∃(oc:Value) (od:Option Addr) (kV doc pm:Value) (an:Option Addr) (ct:Value) (osl:Array (Option Value)),
  fd=PySem.W.fnOf x qual (dP st) (cf st) (ak st) .none kV doc pm an (.ref c0) ct/\K.lookup f=some ⟨oc,od,.func fd,osl⟩/\PySem.W.codeIn K (.ref c0) qual=true
 kp:PySem.W.keepIn K (.ref f)=true
 hd:PySem.W.codeHdIn K c0 P=true
section
variable {P:Program}{w:World}{K:bX}{mg:mZ}{base:Heap}{x qual:Str}{st:Stmt}{f c0 p0:Addr}{fd:FuncData}
theorem BS.ok{N ps:List Str}{k:Nat}{sp:Sp}(F:BS K x qual st f fd c0 p0)(S:aE N ps (ak st))(len:∀ vs H Q E,sp vs H Q E->vs.length=ps.length)
 (hbody:∀(A:Around) (outer:List Env) (s:Shared) (H:Hp) (vs:List V) (Q:VK) (E:XK),eV k (A.deeper (envOfC qual (ak st) s.heap.objs.size f (.ref c0)))->sp vs H Q E->
  ∃ t,vX (rS C5 P w K mg base N qual (ak st) f (.ref c0) A outer s H E).A2 (cf st) t/\t { nx:=fun _ H'=>Q .dU H',rt:=Q} (start N vs) H):lz P w K mg base C5 (k+1) f fd ps sp:=by
 obtain⟨oc,od,kV,doc,pm,an,ct,osl,rfl,lk,hcd⟩:=F.ex;refine Gu lk hcd S len fun A outer s H vs Q E hr wu=>?_
 obtain⟨t,h,q⟩:=hbody A outer s H vs Q E hr wu;exact⟨t,h.A2,q⟩
theorem BS.binds{ps:List Str}(F:BS K x qual st f fd c0 p0)
 (h:∀(kV doc pm:Value) (an:Option Addr) (cdv ct:Value) (us:List Value),us.length=ps.length->bindArgs (PySem.W.fnOf x qual (dP st) (cf st) (ak st) .none kV doc pm an cdv ct) ⟨us,[]⟩=pure (ps.zip us)):Binds K fd ps []:=by
 obtain⟨oc,od,kV,doc,pm,an,ct,osl,rfl,lk,hcd⟩:=F.ex;exact .all (h kV doc pm an (.ref c0) ct)
theorem Lf{oc:Value}{od an:Option Addr}{osl:Array (Option Value)}{kV doc pm ct:Value}(l:K.lookup f=some ⟨oc,od,.func (PySem.W.fnOf x qual (dP st) (cf st) (ak st) .none kV doc pm an (.ref c0) ct),osl⟩)
 (c:PySem.W.codeIn K (.ref c0) qual=true) (k:PySem.W.keepIn K (.ref f)=true) (hd:PySem.W.codeHdIn K c0 p0=true):BS K x qual st f (PySem.W.fnOf x qual (dP st) (cf st) (ak st) .none kV doc pm an (.ref c0) ct) c0 p0 :=
 ⟨⟨oc,od,kV,doc,pm,an,ct,osl,rfl,l,c⟩,k,hd⟩
end
end L2
namespace RM
abbrev OW:=Nat->Bool->Option (Int×Nat)
def i8(F:OW)(x:Nat)(s:Bool)(d:Int×Nat):OW:=fun y t=>if y=x/\t=s then some d else F y t
def ye(F:OW)(x:Nat)(s:Bool):OW:=fun y t=>if y=x/\t=s then none else F y t
theorem bV(F:OW)(x:Nat)(s:Bool)(d:Int×Nat):i8 F x s d x s=some d:=if_pos ⟨rfl,rfl⟩
theorem br{F:OW}{x y:Nat}{s t:Bool}{d:Int×Nat}(h : ¬(y=x/\t=s)):i8 F x s d y t=F y t:=if_neg h
theorem sR(F:OW)(x:Nat)(s:Bool):ye F x s x s=none:=if_pos ⟨rfl,rfl⟩
theorem mE{F:OW}{x y:Nat}{s t:Bool}(h : ¬(y=x/\t=s)):ye F x s y t=F y t:=if_neg h
def Wz(N:Net)(L:Nat->Int)(m u v:Nat)(s:Bool)(z:Int)(e:Nat):Prop:=∃ pre,Wl N L m u pre v s z e
structure Dj(N:Net)(L:Nat->Int)(m u:Nat)(F W:OW)(now:Option (Nat×Bool))(done:Nat->Nat->Prop):Prop where
 fw:∀ x s d,F x s=some d->Wz N L m u x s d.1 d.2
 ww:∀ x s d,W x s=some d->Wz N L m u x s d.1 d.2
 dj:∀ x s d,W x s=some d->F x s=none
 le:∀ x s d y t d',F x s=some d->W y t=some d'->d.1<=d'.1
 mx:∀ x s d y t d',now=some (x,s)->F x s=some d->F y t=some d'->d'.1<=d.1
 cl:∀ x s d k y,F x s=some d->k<N.n->Jn N k x y->(now=some (x,s)->done k y)->∃ d',(F y (s^^m.testBit k)=some d'\/W y (s^^m.testBit k)=some d')/\d'.1<=d.1+L k
 st:∃ d,(F u false=some d\/W u false=some d)/\d.1<=0
section
variable {N:Net}{L:Nat->Int}{m u:Nat}{F W:OW}
theorem Dj.start:Dj N L m u (fun _ _=>none) (i8 (fun _ _=>none) u false (0,0)) none (fun _ _=>False):=by
 refine⟨fun _ _ _ h=>(nomatch h),fun x s d h=>?_,fun _ _ _ _=>rfl,fun _ _ _ _ _ _ h=>(nomatch h),fun _ _ _ _ _ _ h=>(nomatch h),fun _ _ _ _ _ h=>(nomatch h),⟨(0,0),.inr (bV _ _ _ _),Int.le_refl _⟩⟩
 by_cases e:x=u/\s=false
 ·obtain⟨rfl,rfl⟩:=e;rw[bV]at h;cases h;exact⟨[],.nil⟩
 ·rw[br e]at h;cases h
theorem Dj.pop(h:Dj N L m u F W none (fun _ _=>False)){x:Nat}{s:Bool}{d:Int×Nat}(e:W x s=some d)(hmin:∀ y t d',W y t=some d'->d.1<=d'.1):Dj N L m u (i8 F x s d) (ye W x s) (some (x,s)) (fun _ _=>False):=by
 have hF:=h.dj x s d e;have of:∀ y t d',i8 F x s d y t=some d'->(y=x/\t=s/\d' = d)\/F y t=some d':=fun y t d' q=>by
  by_cases z:y=x/\t=s
  ·obtain⟨rfl,rfl⟩:=z;rw[bV]at q;exact .inl ⟨rfl,rfl,(Option.some.inj q).symm⟩
  ·rw[br z]at q;exact .inr q
 have ow:∀ y t d',ye W x s y t=some d'->¬(y=x/\t=s)/\W y t=some d':=fun y t d' q=>by
  by_cases z:y=x/\t=s
  ·obtain⟨rfl,rfl⟩:=z;rw[sR]at q;cases q
  ·rw[mE z]at q;exact⟨z,q⟩
 have moved:∀ y t d',F y t=some d'\/W y t=some d'->i8 F x s d y t=some d'\/ye W x s y t=some d':=fun y t d' q=>by
  by_cases z:y=x/\t=s
  ·obtain⟨rfl,rfl⟩:=z;rcases q with q|q
   ·rw[hF]at q;cases q
   ·rw[e]at q;cases q;exact .inl (bV _ _ _ _)
  ·rw[br z,mE z];exact q
 refine⟨fun y t d' q=>?_,fun y t d' q=>h.ww y t d' (ow y t d' q).2,fun y t d' q=>?_,fun y t d' y2 t2 d2 q q2=>?_,fun y t d' y2 t2 d2 hn q q2=>?_,fun y t d' k y2 q hk hj hd=>?_,?_⟩
 ·rcases of y t d' q with⟨rfl,rfl,rfl⟩|q
  ·exact h.ww _ _ _ e
  ·exact h.fw y t d' q
 ·obtain⟨z,q⟩:=ow y t d' q;rw[br z];exact h.dj y t d' q
 ·obtain⟨_,q2⟩:=ow y2 t2 d2 q2;rcases of y t d' q with⟨_,_,rfl⟩|q
  ·exact hmin _ _ _ q2
  ·exact h.le _ _ _ _ _ _ q q2
 ·cases hn;rw[bV]at q;cases q;rcases of y2 t2 d2 q2 with⟨_,_,rfl⟩|q2
  ·exact Int.le_refl _
  ·exact h.le _ _ _ _ _ _ q2 e
 ·rcases of y t d' q with⟨rfl,rfl,rfl⟩|q
  ·exact(hd rfl).elim
  ·obtain⟨d2,q2,l2⟩:=h.cl y t d' k y2 q hk hj (fun z=>nomatch z)
   exact⟨d2,moved _ _ _ q2,l2⟩
 ·obtain⟨d2,q2,l2⟩:=h.st;exact⟨d2,moved _ _ _ q2,l2⟩
theorem Dj.put{done:Nat->Nat->Prop}{x:Nat}{s:Bool}(h:Dj N L m u F W (some (x,s)) done){d:Int×Nat}{k y:Nat}(e:F x s=some d)(hk:k<N.n)(hL:0<=L k)(hj:Jn N k x y)(hF:F y (s^^m.testBit k)=none)
 (hW:∀ d',W y (s^^m.testBit k)=some d'->d.1+L k<=d'.1):Dj N L m u F (i8 W y (s^^m.testBit k) (d.1+L k,d.2^^^2^k)) (some (x,s)) (fun k' y'=>done k' y'\/(k' = k/\y' = y)):=by
 have ow:∀ v t d',i8 W y (s^^m.testBit k) (d.1+L k,d.2^^^2^k) v t=some d'->(v=y/\t=(s^^m.testBit k)/\d' = (d.1+L k,d.2^^^2^k))\/W v t=some d':=fun v t d' q=>by
  by_cases z:v=y/\t=(s^^m.testBit k)
  ·obtain⟨rfl,rfl⟩:=z;rw[bV]at q;exact .inl ⟨rfl,rfl,(Option.some.inj q).symm⟩
  ·rw[br z]at q;exact .inr q
 have moved:∀ v t d',F v t=some d'\/W v t=some d'->∃ d2,(F v t=some d2\/i8 W y (s^^m.testBit k) (d.1+L k,d.2^^^2^k) v t=some d2)/\d2.1<=d'.1:=fun v t d' q=>by
  rcases q with q|q
  ·exact⟨d',.inl q,Int.le_refl _⟩
  ·by_cases z:v=y/\t=(s^^m.testBit k)
   ·obtain⟨rfl,rfl⟩:=z;exact⟨_,.inr (bV _ _ _ _),hW d' q⟩
   ·exact⟨d',.inr (by rw[br z];exact q),Int.le_refl _⟩
 refine⟨h.fw,fun v t d' q=>?_,fun v t d' q=>?_,fun v t d' v2 t2 d2 q q2=>?_,h.mx,fun v t d' k2 y2 q hk2 Io hd=>?_,?_⟩
 ·rcases ow v t d' q with⟨rfl,rfl,rfl⟩|q
  ·obtain⟨pre,w⟩:=h.fw x s d e;exact⟨_,w.go hk hj⟩
  ·exact h.ww v t d' q
 ·rcases ow v t d' q with⟨rfl,rfl,rfl⟩|q
  ·exact hF
  ·exact h.dj v t d' q
 ·rcases ow v2 t2 d2 q2 with⟨rfl,rfl,rfl⟩|q2
  ·have:=h.mx x s d v t d' rfl e q;show d'.1<=d.1+L k
   lia
  ·exact h.le _ _ _ _ _ _ q q2
 ·by_cases hd2:some (x,s)=some (v,t)->done k2 y2
  ·obtain⟨d2,q2,l2⟩:=h.cl v t d' k2 y2 q hk2 Io hd2;obtain⟨d3,q3,l3⟩:=moved _ _ _ q2;exact⟨d3,q3,Int.le_trans l3 l2⟩
  ·have hn:some (x,s)=some (v,t):=Classical.byContradiction fun z=>hd2 fun z2=>absurd z2 z
   rcases hd hn with z|⟨rfl,rfl⟩
   ·exact absurd (fun _=>z) hd2
   ·cases hn;rw[e]at q;cases q;exact⟨_,.inr (bV _ _ _ _),Int.le_refl _⟩
 ·obtain⟨d2,q2,l2⟩:=h.st;obtain⟨d3,q3,l3⟩:=moved _ _ _ q2;exact⟨d3,q3,Int.le_trans l3 l2⟩
theorem Dj.skip{done:Nat->Nat->Prop}{x:Nat}{s:Bool}(h:Dj N L m u F W (some (x,s)) done){d d2:Int×Nat}{k y:Nat}(e:F x s=some d)(hL:0<=L k)(q2:F y (s^^m.testBit k)=some d2\/(W y (s^^m.testBit k)=some d2/\d2.1<=d.1+L k)):
 Dj N L m u F W (some (x,s)) (fun k' y'=>done k' y'\/(k' = k/\y' = y)):=by
 refine⟨h.fw,h.ww,h.dj,h.le,h.mx,fun v t d' k2 y2 q hk2 Io hd=>?_,h.st⟩
 by_cases hd2:some (x,s)=some (v,t)->done k2 y2
 ·exact h.cl v t d' k2 y2 q hk2 Io hd2
 ·have hn:some (x,s)=some (v,t):=Classical.byContradiction fun z=>hd2 fun z2=>absurd z2 z
  rcases hd hn with z|⟨rfl,rfl⟩
  ·exact absurd (fun _=>z) hd2
  ·cases hn;rw[e]at q;cases q;rcases q2 with q2|⟨q2,l2⟩
   ·have:=h.mx x s d _ _ d2 rfl e q2;exact⟨d2,.inl q2,by lia⟩
   ·exact⟨d2,.inr q2,l2⟩
theorem Dj.all{done:Nat->Nat->Prop}{x:Nat}{s:Bool}(h:Dj N L m u F W (some (x,s)) done)(ha:∀ k y,k<N.n->Jn N k x y->done k y):Dj N L m u F W none (fun _ _=>False) :=
 ⟨h.fw,h.ww,h.dj,h.le,fun _ _ _ _ _ _ z=>(nomatch z),fun v t d k y q hk hj _=>h.cl v t d k y q hk hj fun z=>by cases z;exact ha k y hk hj,h.st⟩
theorem Dj.best(h:Dj N L m u F W none (fun _ _=>False))(hW:∀ x s,W x s=none)(x:Nat)(s:Bool):HH N L m u x s ((F x s).map (·.1)):=by
 have low:∀{pre:List Nat} {v e:Nat} {t:Bool} {z:Int},Wl N L m u pre v t z e->∃ d,F v t=some d/\d.1<=z:=fun {pre v e t z} w=>by
  induction w with
  | nil =>
    obtain⟨d,q,l⟩:=h.st;rcases q with q|q
    ·exact⟨d,q,l⟩
    ·rw[hW]at q;cases q
  | @go pre v w k e s z _ hk hj ih =>
    obtain⟨d,q,l⟩:=ih;obtain⟨d2,q2,l2⟩:=h.cl _ _ d k _ q hk hj (fun z=>nomatch z)
    rcases q2 with q2|q2
    ·exact⟨d2,q2,by lia⟩
    ·rw[hW]at q2;cases q2
 cases q:F x s with
 | none =>
   intro z ⟨_,_,w⟩;obtain⟨d,q2,_⟩:=low w;rw[q]at q2;cases q2
 | some d =>
   obtain⟨pre,w⟩:=h.fw x s d q;refine⟨⟨_,_,w⟩,fun z ⟨_,_,w2⟩=>?_⟩
   obtain⟨d2,q2,l2⟩:=low w2;rw[q]at q2;cases q2;exact l2
end
end RM
namespace L2
open PySem Ring
abbrev ky(x:Nat)(s:Bool):List Key:=[.inl (x:Int),.inl (s.toNat:Int)]
theorem BU{x y:Nat}{s t:Bool}(h:ky x s=ky y t):x=y/\s=t:=by
 injection h with h1 h2
 injection h2 with h2 _
 injection h1 with h1
 injection h2 with h2
 refine⟨by lia,?_⟩
 cases s<;>cases t<;>first | rfl | (simp at h2)
def wV(H:Hp):Option (Int×Nat)->V->Prop
 | none,v=>v = .dU
 | some d,v=>∃ c,v = .ref c/\H c=some (.tup [.int d.1,.int (d.2:Int)])
theorem wV.tups{H H' : Hp}{o:Option (Int×Nat)}{v:V}(h:wV H o v)(s:dz H H'):wV H' o v:=by
 cases o with
 | none=>exact h
 | some d=>obtain⟨c,e,q⟩:=h;exact⟨c,e,s _ _ q⟩
structure uG(p:Nat)(H0:Hp)(D wd:Addr)(es:List Addr)(kvs:List (List Key×V))(F W:RM.OW)(H:Hp):Prop where
 same:au H0 H
 nd:es.Nodup
 ne:D∉es
 fr:∀ b∈es,H0 b=none
 Dn:H0 D=none
 wn:H0 wd=none
 wD:wd≠D
 wE:wd∉es
 lst:H D=some (.lst (es.map V.ref))
 at_:∀ i b,es[i]?=some b->∃ v0 v1,H b=some (.lst [v0,v1])/\wV H (F i false) v0/\wV H (F i true) v1
 dt:H wd=some (.dT kvs)
 kn:(kvs.map (·.1)).Nodup
 keys:∀ kv∈kvs,∃ x s,x<p/\kv.1=ky x s
 out:∀ x s d,W x s=some d->x<p
 val:∀ x s,(W x s=none/\dB kvs (ky x s)=none)\/∃ d c,W x s=some d/\dB kvs (ky x s)=some (.ref c)/\H c=some (.tup [.int d.1,.int (d.2:Int)])
section
variable {p:Nat}{H0 H H' : Hp}{D wd:Addr}{es:List Addr}{kvs:List (List Key×V)}{F W:RM.OW}
theorem uG.go(h:uG p H0 D wd es kvs F W H)(s:au H H'):uG p H0 D wd es kvs F W H' :=
 ⟨h.same.trans s,h.nd,h.ne,h.fr,h.Dn,h.wn,h.wD,h.wE,s _ _ h.lst,fun i b e=>let⟨v0,v1,a,b1,c⟩:=h.at_ i b e;⟨v0,v1,s _ _ a,b1.tups s.tups,c.tups s.tups⟩,s _ _ h.dt,h.kn,h.keys,h.out,
  fun x t=>(h.val x t).imp (fun z=>z) fun⟨d,c,a,b,e⟩=>⟨d,c,a,b,s _ _ e⟩⟩
theorem uG.len(h:uG p H0 D wd es kvs F W H):kvs.length<=2*p:=by
 have hn:=h.kn;have hk:=h.keys
 let code:List Key->Nat:=fun k=>match k with | [.inl x,.inl s]=>2*x.toNat+s.toNat | _=>0
 have inj:∀ a∈kvs.map (·.1),∀ b∈kvs.map (·.1),code a=code b->a=b:=fun a ha b hb e=>by
  obtain⟨u,hu,rfl⟩:=List.mem_map.mp ha;obtain⟨v,hv,rfl⟩:=List.mem_map.mp hb;obtain⟨x,s,_,ex⟩:=hk u hu;obtain⟨y,t,_,ey⟩:=hk v hv;rw[ex,ey]at e ⊢;have e:2*((x:Int)).toNat+((s.toNat:Int)).toNat=2*((y:Int)).toNat+((t.toNat:Int)).toNat:=e;rw[Int.toNat_natCast,Int.toNat_natCast,Int.toNat_natCast,Int.toNat_natCast]at e;have hs:s.toNat<2:=by cases s<;>decide
  have ht:t.toNat<2:=by cases t<;>decide
  have e1:x=y:=by lia
  have e2:s.toNat=t.toNat:=by lia
  have e3:s=t:=by cases s<;>cases t<;>first | rfl | (simp at e2)
  rw[e1,e3]
 have nd:((kvs.map (·.1)).map code).Nodup:=by
  revert inj
  generalize kvs.map (·.1)=l at hn;intro inj
  induction hn with
  | nil=>exact List.nodup_nil
  | @cons a l h1 h2 ih =>
    rw[List.map_cons,List.nodup_cons];refine⟨fun hm=>?_,ih fun a ha b hb e=>inj a (jY _ ha) b (jY _ hb) e⟩
    obtain⟨b,hb,e⟩:=List.mem_map.mp hm;exact h1 b hb (inj a List.mem_cons_self b (jY _ hb) e.symm)
 have sub:∀ c∈(kvs.map (·.1)).map code,c∈List.range (2*p):=fun c hc=>by
  obtain⟨a,ha,rfl⟩:=List.mem_map.mp hc;obtain⟨u,hu,rfl⟩:=List.mem_map.mp ha;obtain⟨x,s,hx,ex⟩:=hk u hu;rw[ex,List.mem_range];show 2*((x:Int)).toNat+((s.toNat:Int)).toNat<2*p;rw[Int.toNat_natCast,Int.toNat_natCast];have hs:s.toNat<2:=by cases s<;>decide
  lia
 have:=nd.length_le_of_subset sub
 simpa using this
theorem uG.row(h:uG p H0 D wd es kvs F W H){i:Nat}(hi:i<es.length):∃ b v0 v1,(es.map V.ref)[i]?=some (.ref b)/\es[i]?=some b/\H b=some (.lst [v0,v1])/\wV H (F i false) v0/\wV H (F i true) v1:=by
 have e:es[i]?=some es[i]:=List.getElem?_eq_getElem hi;obtain⟨v0,v1,a,b,c⟩:=h.at_ i _ e;exact⟨es[i],v0,v1,by rw[List.getElem?_map,e];rfl,e,a,b,c⟩
theorem qt{κ:Type}[DecidableEq κ](k j:κ):∀ kvs:List (κ×V),dB (dD kvs k) j=if j=k then none else dB kvs j
 | []=>by rw[show dD ([]:List (κ×V)) k=[] from rfl,uf];split<;>rfl
 | q::r=>by
   by_cases e:q.1=k
   ·rw[wW e,qt k j r]
    by_cases e2:j=k
    ·rw[if_pos e2,if_pos e2]
    ·rw[if_neg e2,if_neg e2,b9 (fun z=>e2 (z.symm.trans e))]
   ·rw[wX e]
    by_cases e3:q.1=j
    ·rw[cj e3,if_neg (fun z=>e (e3.trans z)),cj e3]
    ·rw[b9 e3,qt k j r,b9 e3]
theorem uG.take(h:uG p H0 D wd es kvs F W H){x:Nat}{s:Bool}{d:Int×Nat}{b c:Addr}{v0 v1:V}(e:W x s=some d)(hc:H c=some (.tup [.int d.1,.int (d.2:Int)]))(hb:es[x]?=some b)(hv:H b=some (.lst [v0,v1])):
 uG p H0 D wd es (dD kvs (ky x s)) (RM.i8 F x s d) (RM.ye W x s) (upd (upd H wd (.dT (dD kvs (ky x s)))) b (.lst (([v0,v1]:List V).set s.toNat (.ref c)))):=by
 have hm:=gy hb;have bw:b≠wd:=fun z=>h.wE (z▸hm)
 have bD:D≠b:=fun z=>h.ne (z▸hm)
 have tp:dz H (upd (upd H wd (.dT (dD kvs (ky x s)))) b (.lst (([v0,v1]:List V).set s.toNat (.ref c)))):=fun a ys q=>by
  rw[ao (aS q hv (by intro z;cases z)),ao (aS q h.dt (by intro z;cases z))]
  exact q
 refine⟨(h.same.put h.wn).put (h.fr b hm),h.nd,h.ne,h.fr,h.Dn,h.wn,h.wD,h.wE,by rw[ao bD,ao (Ne.symm h.wD)];exact h.lst,fun i b' hb'=>?_,by rw[ao (Ne.symm bw),ae],uq h.kn,fun kv hkv=>h.keys kv (wY hkv),fun y t d' q=>?_,fun y t=>?_⟩
 ·by_cases ei:i=x
  ·subst ei;rw[hb]at hb';cases hb';obtain⟨w0,w1,q1,q2,q3⟩:=h.at_ _ _ hb;rw[hv]at q1;cases q1;cases s with
   | false=>exact⟨.ref c,v1,ae,by rw[RM.bV];exact⟨c,rfl,tp _ _ hc⟩,by rw[RM.br (fun z=>by cases z.2)];exact q3.tups tp⟩
   | true=>exact⟨v0,.ref c,ae,by rw[RM.br (fun z=>by cases z.2)];exact q2.tups tp,by rw[RM.bV];exact⟨c,rfl,tp _ _ hc⟩⟩
  ·have bb:b'≠b:=fun z=>by
    subst z;obtain⟨h1,h2⟩:=iH.mp hb';obtain⟨h3,h4⟩:=iH.mp hb;exact ei ((List.getElem_inj h.nd).mp (h2.trans h4.symm))
   obtain⟨w0,w1,q1,q2,q3⟩:=h.at_ _ _ hb';exact⟨w0,w1,by rw[ao bb,ao (show b'≠wd from fun z=>h.wE (z▸gy hb'))];exact q1,by rw[RM.br (fun z=>ei z.1)];exact q2.tups tp,by rw[RM.br (fun z=>ei z.1)];exact q3.tups tp⟩
 ·by_cases z:y=x/\t=s
  ·obtain⟨rfl,rfl⟩:=z;rw[RM.sR]at q;cases q
  ·rw[RM.mE z]at q;exact h.out y t d' q
 ·rw[qt]
  by_cases z:y=x/\t=s
  ·obtain⟨rfl,rfl⟩:=z;exact .inl ⟨RM.sR _ _ _,if_pos rfl⟩
  ·rw[RM.mE z,if_neg (fun q=>z (BU q))]
   rcases h.val y t with q|⟨d',c',q1,q2,q3⟩
   ·exact .inl q
   ·exact .inr ⟨d',c',q1,q2,tp _ _ q3⟩
theorem uG.wait(h:uG p H0 D wd es kvs F W H){x:Nat}{s:Bool}{d:Int×Nat}{c:Addr}(hx:x<p)(hc:H c=some (.tup [.int d.1,.int (d.2:Int)])):
 uG p H0 D wd es (putK kvs (ky x s) (.ref c)) F (RM.i8 W x s d) (upd H wd (.dT (putK kvs (ky x s) (.ref c)))):=by
 have tp:dz H (upd H wd (.dT (putK kvs (ky x s) (.ref c)))):=fun a ys q=>by
  rw[ao (aS q h.dt (by intro z;cases z))]
  exact q
 have Mc:(∀ kv∈putK kvs (ky x s) (.ref c),∃ x s,x<p/\kv.1=ky x s)/\((putK kvs (ky x s) (.ref c)).map (·.1)).Nodup:=by
  cases q:dB kvs (ky x s) with
  | none =>
    refine⟨fun kv hkv=>?_,KW _ h.kn q⟩
    rw[zN _ q]at hkv;rcases List.mem_append.mp hkv with z|z
    ·exact h.keys kv z
    ·rw[List.mem_singleton.mp z];exact⟨x,s,hx,rfl⟩
  | some v =>
    have hany:(kvs.any fun kv=>decide (kv.1=ky x s))=true:=by rw[gb,q];rfl
    have e:putK kvs (ky x s) (.ref c)=kvs.map fun kv=>if kv.1=ky x s then(kv.1,.ref c) else kv:=by unfold putK;rw[if_pos hany]
    have ek:(putK kvs (ky x s) (.ref c)).map (·.1)=kvs.map (·.1):=by
     rw[e,List.map_map];refine List.map_congr_left fun kv _=>?_
     show(if kv.1=ky x s then(kv.1,V.ref c) else kv).1=kv.1
     split<;>rfl
    refine⟨fun kv hkv=>?_,by rw[ek];exact h.kn⟩
    have hm:kv.1∈kvs.map (·.1):=by rw[<-ek];exact List.mem_map_of_mem hkv
    obtain⟨VB,h1,h2⟩:=List.mem_map.mp hm;rw[<-h2];exact h.keys VB h1
 refine⟨h.same.put h.wn,h.nd,h.ne,h.fr,h.Dn,h.wn,h.wD,h.wE,by rw[ao (Ne.symm h.wD)];exact h.lst,fun i b hb=>?_,ae,Mc.2,Mc.1,fun y t d' q=>?_,fun y t=>?_⟩
 ·obtain⟨w0,w1,q1,q2,q3⟩:=h.at_ _ _ hb;exact⟨w0,w1,by rw[ao (show b≠wd from fun z=>h.wE (z▸gy hb))];exact q1,q2.tups tp,q3.tups tp⟩
 ·by_cases z:y=x/\t=s
  ·rw[z.1];exact hx
  ·rw[RM.br z]at q;exact h.out y t d' q
 ·rw[Hj]
  by_cases z:y=x/\t=s
  ·obtain⟨rfl,rfl⟩:=z;exact .inr ⟨d,c,RM.bV _ _ _ _,if_pos rfl,tp _ _ hc⟩
  ·rw[RM.br z,if_neg (fun q=>z (BU q))]
   rcases h.val y t with q|⟨d',c',q1,q2,q3⟩
   ·exact .inl q
   ·exact .inr ⟨d',c',q1,q2,tp _ _ q3⟩
end
abbrev i9(m:Nat)(H:Hp)(c:Addr)(kw:Nat×Nat):Prop:=H c=some (.tup [.int (kw.1:Int),.int (kw.2:Int),.int ((m.testBit kw.1).toNat:Int)])
structure ER(m:Nat)(H0:Hp)(D:Addr)(es:List Addr)(S:Nat->List (Nat×Nat))(H:Hp):Prop where
 same:au H0 H
 nd:es.Nodup
 ne:D∉es
 fr:∀ b∈es,H0 b=none
 Dn:H0 D=none
 lst:H D=some (.lst (es.map V.ref))
 at_:∀ i b,es[i]?=some b->∃ cs,H b=some (.lst (cs.map V.ref))/\Paired (i9 m H) cs (S i)
section
variable {m:Nat}{H0 H H' : Hp}{D b:Addr}{es:List Addr}{S:Nat->List (Nat×Nat)}{i:Nat}
theorem ER.go(h:ER m H0 D es S H)(s:au H H'):ER m H0 D es S H' :=
 ⟨h.same.trans s,h.nd,h.ne,h.fr,h.Dn,s _ _ h.lst,fun i b e=>let⟨cs,a,q⟩:=h.at_ i b e;⟨cs,s _ _ a,Paired.xG q fun _ _ z=>s _ _ z⟩⟩
def uH(S:Nat->List (Nat×Nat))(x:Nat)(kw:Nat×Nat):Nat->List (Nat×Nat):=fun i=>if i=x then S i++[kw] else S i
theorem ER.get(h:ER m H0 D es S H)(hi:i<es.length):∃ b cs,(es.map V.ref)[i]?=some (.ref b)/\es[i]?=some b/\H b=some (.lst (cs.map V.ref))/\Paired (i9 m H) cs (S i):=by
 have e:es[i]?=some es[i]:=List.getElem?_eq_getElem hi;obtain⟨cs,a,q⟩:=h.at_ i _ e;exact⟨es[i],cs,by rw[List.getElem?_map,e];rfl,e,a,q⟩
theorem ER.put(h:ER m H0 D es S H){cs:List Addr}{c:Addr}{kw:Nat×Nat}(hb:es[i]?=some b)(hcs:H b=some (.lst (cs.map V.ref)))(q:Paired (i9 m H) cs (S i))(hc:i9 m H c kw):
 ER m H0 D es (uH S i kw) (upd H b (.lst (cs.map V.ref++[.ref c]))):=by
 have hm:=gy hb;have hne:D≠b:=fun z=>h.ne (z▸hm)
 have tp:∀ c kw,i9 m H c kw->i9 m (upd H b (.lst (cs.map V.ref++[.ref c]))) c kw:=fun c kw z=>by
  show upd H b _ c=_;rw[ao (aS z hcs (by intro z;cases z))]
  exact z
 have tp' : ∀ x kw,i9 m H x kw->i9 m (upd H b (.lst (cs.map V.ref++[.ref c]))) x kw:=fun x kw z=>by
  show upd H b _ x=_;rw[ao (aS z hcs (by intro z;cases z))]
  exact z
 refine⟨h.same.put (h.fr b hm),h.nd,h.ne,h.fr,h.Dn,by rw[ao hne];exact h.lst,fun j b' hb'=>?_⟩
 by_cases e:j=i
 ·subst e;rw[hb]at hb';cases hb';refine⟨cs++[c],by rw[ae];simp,?_⟩
  unfold uH;rw[if_pos rfl];exact Paired.snoc (Paired.xG q fun _ _ z=>tp' _ _ z) (tp' _ _ hc)
 ·have bb:b'≠b:=fun z=>by
   subst z;obtain⟨h1,h2⟩:=iH.mp hb';obtain⟨h3,h4⟩:=iH.mp hb;exact e ((List.getElem_inj h.nd).mp (h2.trans h4.symm))
  obtain⟨cs',q1,q2⟩:=h.at_ j b' hb';refine⟨cs',by rw[ao bb];exact q1,?_⟩
  unfold uH;rw[if_neg e];exact Paired.xG q2 fun _ _ z=>tp' _ _ z
theorem ER.off(h:ER m H0 D es S H){L:Addr}(hL:H L=none):L∉es:=fun z=>by
 obtain⟨j,hj⟩:=List.getElem?_of_mem z;obtain⟨_,q,_⟩:=h.at_ j L hj;rw[hL]at q;cases q
def Me(m:Nat)(H0:Hp)(D:Addr)(i:Nat)(acc:List V)(H:Hp):Prop:=∃ es,acc=es.map V.ref/\es.length=i/\ER m H0 D es (fun _=>[]) H
theorem Me.start(hD:H0 D=none):Me m H0 D 0 [] (upd H0 D (.lst [])) :=
 ⟨[],rfl,rfl,au.new hD,List.nodup_nil,List.not_mem_nil,fun _ h=>(List.not_mem_nil h).elim,hD,ae,fun i b e=>by cases e⟩
theorem Me.len{acc:List V}(h:Me m H0 D i acc H):H D=some (.lst acc)/\acc.length<=i:=by
 obtain⟨es,rfl,e,r⟩:=h;exact⟨r.lst,by rw[List.length_map];lia⟩
theorem Me.next{acc:List V}(h:Me m H0 D i acc H)(hb:H b=none):upd H b (.lst []) D=some (.lst acc)/\Me m H0 D (i+1) (acc++[.ref b]) (upd (upd H b (.lst [])) D (.lst (acc++[.ref b]))):=by
 obtain⟨es,rfl,e,r⟩:=h;have Nu:D≠b:=fun z=>by
  have:=r.lst;rw[z,hb]at this;cases this
 have hbn:b∉es:=r.off hb;have hb0:H0 b=none:=r.same.free hb;refine⟨by rw[ao Nu];exact r.lst,es++[b],by simp,by simp[e],(r.same.put hb0).put r.Dn,?_,?_,fun c hc=>?_,r.Dn,by rw[ae];simp,fun j c hc=>?_⟩
 ·exact List.nodup_append.mpr ⟨r.nd,by simp,fun x hx y hy=>by rw[List.mem_singleton.mp hy];exact fun z=>hbn (z▸hx)⟩
 ·intro hm;rcases List.mem_append.mp hm with z|z
  ·exact r.ne z
  ·exact Nu (List.mem_singleton.mp z)
 ·rcases List.mem_append.mp hc with z|z
  ·exact r.fr c z
  ·rw[List.mem_singleton.mp z];exact hb0
 ·have TV:c≠D:=fun z=>by
   subst z;rcases List.mem_append.mp (gy hc) with z|z
   ·exact r.ne z
   ·exact Nu (List.mem_singleton.mp z)
  refine⟨[],?_,.nil⟩;rw[ao TV]
  by_cases ec:c=b
  ·rw[ec,ae];rfl
  ·rw[ao ec]
   by_cases hj:j<es.length
   ·rw[List.getElem?_append_left hj]at hc;obtain⟨cs,q1,q2⟩:=r.at_ j c hc;cases q2;exact q1
   ·rw[List.getElem?_append_right (by lia)]at hc
    have:=gy hc;exact absurd (List.mem_singleton.mp this) ec
end
structure Mf(N:RM.Net)(k:Nat)(S:Nat->List (Nat×Nat)):Prop where
 mem:∀ i kw,kw∈S i↔(kw.1<k/\RM.Jn N kw.1 i kw.2)
 len:∀ i,(S i).length<=2*k
theorem Mf.start{N:RM.Net}:Mf N 0 (fun _=>[]):=⟨fun i kw=>⟨fun h=>(nomatch h),fun h=>absurd h.1 (Nat.not_lt_zero _)⟩,fun _=>Nat.zero_le _⟩
theorem Mf.next{N:RM.Net}{k:Nat}{S:Nat->List (Nat×Nat)}(h:Mf N k S):Mf N (k+1) (uH (uH S (N.a k) (k,N.b k)) (N.b k) (k,N.a k)):=by
 refine⟨fun i kw=>?_,fun i=>?_⟩
 ·have one:∀(S:Nat->List (Nat×Nat)) (x:Nat) (q:Nat×Nat),kw∈uH S x q i↔kw∈S i\/(i=x/\kw=q):=fun S x q=>by
   unfold uH
   by_cases e:i=x
   ·rw[if_pos e,List.mem_append,List.mem_singleton];simp[e]
   ·rw[if_neg e];simp[e]
  rw[one,one,h.mem];obtain⟨k',w⟩:=kw
  constructor
  ·rintro((⟨h1,h2⟩|⟨rfl,h2⟩) | ⟨rfl,h2⟩)
   ·exact⟨Nat.lt_succ_of_lt h1,h2⟩
   ·cases h2;exact⟨Nat.lt_succ_self _,.inl ⟨rfl,rfl⟩⟩
   ·cases h2;exact⟨Nat.lt_succ_self _,.inr ⟨rfl,rfl⟩⟩
  ·rintro⟨h1,h2⟩
   by_cases e:k'<k
   ·exact .inl (.inl ⟨e,h2⟩)
   ·have e:k' = k:=by have:k'<k+1:=h1;lia
    subst e;rcases h2 with⟨h3,h4⟩|⟨h3,h4⟩
    ·exact .inl (.inr ⟨h3.symm,by have h4:N.b k' = w:=h4;rw[h4]⟩)
    ·exact .inr ⟨h3.symm,by have h4:N.a k' = w:=h4;rw[h4]⟩
 ·have one:∀(S:Nat->List (Nat×Nat)) (x:Nat) (q:Nat×Nat),(uH S x q i).length<=(S i).length+1:=fun S x q=>by
   unfold uH
   split
   ·simp
   ·lia
  have h1:=one (uH S (N.a k) (k,N.b k)) (N.b k) (k,N.a k);have h2:=one S (N.a k) (k,N.b k);have h3:=h.len i
  lia
end L2
namespace RM
def left(F:OW):Nat->Nat
 | 0=>0
 | p+1=>left F p+(if(F p false).isNone then 1 else 0)+(if(F p true).isNone then 1 else 0)
theorem xr{F G:OW}:∀{p:Nat},(∀ x,x<p->∀ s,F x s=G x s)->left F p=left G p
 | 0,_=>rfl
 | p+1,h=>by
   unfold left;rw[xr fun x hx=>h x (by lia),h p (by lia),h p (by lia)]
theorem Ai{F:OW}{x:Nat}{s:Bool}{d:Int×Nat}(hn:F x s=none):∀{p:Nat},x<p->left (i8 F x s d) p<left F p
 | 0,h=>absurd h (Nat.not_lt_zero _)
 | p+1,h=>by
   unfold left
   by_cases e:x=p
   ·subst e;rw[xr (F:=i8 F x s d) (G:=F) fun y hy t=>br fun z=>by lia]
    cases s with
    | false=>rw[bV,br (fun z=>by cases z.2),hn];simp
    | true=>rw[bV,br (fun z=>by cases z.2),hn];simp
   ·have ih:=Ai (F:=F) (x:=x) (s:=s) (d:=d) hn (p:=p) (by lia)
    rw[br (fun z=>e z.1.symm),br (fun z=>e z.1.symm)]
    lia
end RM
namespace L2
open PySem Ring
def R3(W:RM.OW)(k:List Key):List Int:=match k with
 | [.inl x,.inl s]=>(match W x.toNat (decide (s=1)) with | some d=>[d.1,(d.2:Int)] | none=>[])
 | _=>[]
theorem Ip{W:RM.OW}{x:Nat}{s:Bool}{d:Int×Nat}(h:W x s=some d):R3 W (ky x s)=[d.1,(d.2:Int)]:=by
 have e:(decide (((s.toNat:Nat):Int)=1))=s:=by cases s<;>rfl
 show(match W ((x:Int)).toNat (decide (((s.toNat:Nat):Int)=1)) with | some d=>[d.1,(d.2:Int)] | none=>[])=_
 rw[Int.toNat_natCast,e,h]
def Iq(W:RM.OW)(kvs:List (List Key×V))(i:Nat):List Int:=R3 W ((kvs[i]?.map (·.1)).getD [])
theorem yf{a b c d:Int}(h:HT.lexLt [a,b] [c,d]=false):c<=a:=by
 rw[HT.gB]at h
 by_cases e:a=c
 ·lia
 ·rw[if_neg e]at h;have:=of_decide_eq_false h
  lia
theorem xu{κ:Type}[DecidableEq κ]:∀{kvs:List (κ×V)} {k:κ} {v:V},(kvs.map (·.1)).Nodup->(k,v)∈kvs->dB kvs k=some v
 | [],_,_,_,h=>nomatch h
 | q::r,k,v,nd,h=>by
   rw[List.map_cons,List.nodup_cons]at nd;rcases List.mem_cons.mp h with e|h
   ·subst e;exact cj rfl
   ·have ne : ¬ q.1=k:=fun z=>nd.1 (by rw[z];exact List.mem_map_of_mem (f:=(·.1)) h)
    rw[b9 ne];exact xu nd.2 h
theorem uG.entry{p:Nat}{H0 H:Hp}{D wd:Addr}{es:List Addr}{kvs:List (List Key×V)}{F W:RM.OW}(h:uG p H0 D wd es kvs F W H){i:Nat}{kv:List Key×V}(e:kvs[i]?=some kv):
 ∃ x s d c,x<p/\kv.1=ky x s/\W x s=some d/\dB kvs (ky x s)=some (.ref c)/\kv.2 = .ref c/\H c=some (.tup [.int d.1,.int (d.2:Int)])/\Iq W kvs i=[d.1,(d.2:Int)]:=by
 have hm:=gy e;obtain⟨x,s,hx,ek⟩:=h.keys kv hm;have hv:dB kvs (ky x s)=some kv.2:=xu h.kn (by rw[<-ek];exact hm)
 rcases h.val x s with⟨_,z⟩|⟨d,c,h1,h2,h3⟩
 ·rw[hv]at z;cases z
 ·rw[hv]at h2;refine⟨x,s,d,c,hx,ek,h1,hv.trans h2,Option.some.inj h2,h3,?_⟩;unfold Iq;rw[e];show R3 W kv.1=_;rw[ek];exact Ip h1
theorem uG.find{p:Nat}{H0 H:Hp}{D wd:Addr}{es:List Addr}{kvs:List (List Key×V)}{F W:RM.OW}(h:uG p H0 D wd es kvs F W H){x:Nat}{s:Bool}{d:Int×Nat}(e:W x s=some d):∃(i:Nat) (kv:List Key×V),kvs[i]?=some kv/\kv.1=ky x s/\Iq W kvs i=[d.1,(d.2:Int)]:=by
 rcases h.val x s with⟨z,_⟩|⟨d',c,h1,h2,h3⟩
 ·rw[e]at z;cases z
 ·have hm:=KU h2;obtain⟨kv,hkv,ek⟩:=List.mem_map.mp hm;obtain⟨i,hi⟩:=List.getElem?_of_mem hkv;refine⟨i,kv,hi,ek,?_⟩;unfold Iq;rw[hi];show R3 W kv.1=_;rw[ek];exact Ip e
theorem uG.start{p:Nat}{H0 H:Hp}{D wd c:Addr}{es:List Addr}{u:Nat}(f:BO H0 D es (fun _ _=>none) H)(hu:u<p)(hw:H wd=some (.dT []))(h0:H0 wd=none)(hc:H c=some (.tup [.int 0,.int 0])):
 uG p H0 D wd es [(ky u false,.ref c)] (fun _ _=>none) (RM.i8 (fun _ _=>none) u false (0,0)) (upd H wd (.dT [(ky u false,.ref c)])):=by
 have wD:wd≠D:=fun z=>by rw[z,f.lst]at hw;cases hw
 have wE:wd∉es:=fun z=>by
  obtain⟨j,hj⟩:=List.getElem?_of_mem z;have:=f.at_ j wd hj;rw[hw]at this;cases this
 refine⟨f.same.put h0,f.nd,f.ne,f.fr,f.Dn,h0,wD,wE,by rw[ao (Ne.symm wD)];exact f.lst,fun i b hb=>?_,ae,by simp,fun kv hkv=>?_,fun x s d e=>?_,fun x s=>?_⟩
 ·have nb:b≠wd:=fun z=>wE (z▸gy hb)
  exact⟨.dU,.dU,by rw[ao nb];exact f.at_ i b hb,rfl,rfl⟩
 ·rw[List.mem_singleton.mp hkv];exact⟨u,false,hu,rfl⟩
 ·by_cases z:x=u/\s=false
  ·rw[z.1];exact hu
  ·rw[RM.br z]at e;cases e
 ·by_cases z:x=u/\s=false
  ·obtain⟨rfl,rfl⟩:=z;exact .inr ⟨(0,0),c,RM.bV _ _ _ _,cj rfl,by rw[ao (aS hc hw (by intro z;cases z))];exact hc⟩
  ·refine .inl ⟨RM.br z,?_⟩;rw[b9 (fun q=>z ?_),uf]
   obtain⟨e1,e2⟩:=BU q;exact⟨e1.symm,e2.symm⟩
open PySem PySem.Spec PyProof.Rows
section
variable {P:Program}{w:World}{A:Around}{E:di}{s:Shared}
theorem Ir{l:Addr}{u0 u1:Value}{Q:List Value->Shared->Prop}(hh:A.handled=none)(hl:s.heap.IsList l #[u0,u1])
 (hQ:∀ h' tk,(∀ b o,s.heap.get? b=some o->h'.get? b=some o)->Q [u0,u1] { s with heap:=h',toks:=tk}):wpAny (model P w) A (unpackItems (.ref l) 2 none) Q E s:=by
 obtain⟨ol,L7,hcl,nl,hdl⟩:=id hl;have hT:s.TypeIs (.ref l) "list":=⟨ol,L7,hcl⟩;have hne:l≠s.heap.objs.size:=Nat.ne_of_lt (Heap.lt_size L7);unfold unpackItems;refine aP ?_;unfold notIterableAtAll;refine aP (wpAny_specialOf hT PySem.F.slot_list_iter.lookup (wpAny_pure ?_));simp only[Bool.false_eq_true,if_false];refine aP (wpAny_holding (wpAny_pyIter_list hl ?_));have W:=Walks.list (prog:=P) (w:=w) (A:=A) hh s.heap.objs.size l hne #[u0,u1];generalize hg:s.heap.push { cls:=.type "list_iterator",data:=.fields #[.ref l,.int 0 0]}=g0;have Ys:∀ b o,s.heap.get? b=some o->g0.get? b=some o:=fun b o e=>by rw[<-hg];exact Heap.get?_push_of_some _ e
 have Yt:g0.IsListIter s.heap.objs.size l 0:=by rw[<-hg];exact⟨_,Heap.get?_push_size _ rfl,rfl,rfl⟩
 have Yu:g0.IsList l #[u0,u1]:=by rw[<-hg];exact⟨ol,Heap.get?_push_of_some _ L7,hcl,nl,hdl⟩
 have nI:∀ b o,s.heap.get? b=some o->b∉[s.heap.objs.size]:=fun b o e z=>Nat.ne_of_lt (Heap.lt_size e) (List.mem_singleton.mp z)
 refine aP (wpAny_holding ?_);show wpAny _ _ (pyNext (.ref s.heap.objs.size) >>= _) _ _ _;refine aP (W.item 0 _ _ _ (by simp) ⟨Yt,Yu⟩ fun v1 h1 tk1 hv1 st1 k1=>?_)
 obtain rfl:u0=v1:=by simpa using hv1
 refine aP (wpAny_holding ?_);show wpAny _ _ (pyNext (.ref s.heap.objs.size) >>= _) _ _ _;refine aP (W.item 1 _ _ _ (by simp) st1 fun v2 h2 tk2 hv2 st2 k2=>?_)
 obtain rfl:u1=v2:=by simpa using hv2
 refine aP (wpAny_holding ?_);show wpAny _ _ (pure []) _ _ _;refine wpAny_pure (wpAny_pure (wpAny_pure ?_));rw[if_neg (by simp)]
 refine aP (wpAny_holding (W.done _ _ _ st2 fun h3 Yv k3=>?_))
 simp only[Option.isSome_none,Bool.false_eq_true,if_false];exact wpAny_pure (hQ h3 Yv fun b o e=>k3 b o (nI b o e) (k2 b o (nI b o e) (k1 b o (nI b o e) (Ys b o e))))
theorem Iu{env:Env}{elts:List Expr}{x1}{pos:Pos}{l:Addr}{u0 u1:Value}{Q:Unit->Shared->Prop}(hh:A.handled=none)(hl:s.heap.IsList l #[u0,u1])
 (hn:(assignEach elts env).length=2) (hstar:(assignEach elts env).findIdx? (·.1)=none)
 (h:∀ h' tk,(∀ b o,s.heap.get? b=some o->h'.get? b=some o)->wpAny (model P w) A (assignInOrder ((assignEach elts env).map (·.2)) [u0,u1]) Q E { s with heap:=h',toks:=tk}) :
 wpAny (model P w) A (assign (.Tuple elts x1 pos) env (.ref l)) Q E s:=by
 rw[arm_assign_Tuple];refine aP (wpAny_standAt ?_);unfold unpack;rw[hn,hstar];exact aP (wpAny_holding (Ir hh hl h))
end
section
variable {X:Cx}{es:List Expr}{pos:Pos}
def Qs(K:bX)(t:Jy):TG:=fun v σ H Q=>∃ a x y,v = .ref a/\aK K H a [x,y]/\t [x,y] σ H Q
theorem T8(K:bX){k:Nat}{t:Jy}(hc:X.calm=true)(h:Oo X es t)
 (hn:(assignEach es X.env).length=2:=by rfl) (hst:(assignEach es X.env).findIdx? (·.1)=none:=by rfl) (hK:X.K=K:=by rfl):PG X (.Tuple es k pos) (Qs K t):=by
 subst hK;intro pq s σ H v u Q I r hw;obtain⟨a,x,y,e1,hq,hw⟩:=hw;subst e1;cases r;obtain⟨its,rv,ht,hz⟩:=I.list hq;cases rv with
 | cons r1 rr=>cases rr with
   | cons r2 rr2 =>
     cases rr2;refine Iu (I.ok.hd hc) ht.isList hn hst fun h' tk hx=>?_
     exact h pq _ σ H [x,y] _ Q (I.kept (t':=tk) hx) (.cons r1 (.cons r2 .nil)) hw
end
end L2
namespace RM
section
variable {N:Net}{L:Nat->Int}{m u:Nat}
theorem rO{f g:Nat->Bool}:∀{n:Nat},(∀ k,k<n->0<L k)->(∀ k,k<n->f k=true->g k=true)->∀ k,k<n->f k=false->g k=true->lsum L f n<lsum L g n
 | 0,_,_,k,hk,_,_=>absurd hk (Nat.not_lt_zero _)
 | n+1,hL,h,k,hk,hf,hg=>by
   unfold lsum;have hn:=h n (by lia)
   have h0:=hL n (by lia)
   by_cases e:k=n
   ·subst e;have:=qj (L:=L) (f:=f) (g:=g) (n:=k) (fun j hj=>Int.le_of_lt (hL j (by lia))) fun j hj=>h j (by lia)
    rw[hf,hg];simp only[Bool.false_eq_true,if_false,if_true]
    lia
   ·have ih:=rO (n:=n) (fun j hj=>hL j (by lia)) (fun j hj=>h j (by lia)) k (by lia) hf hg
    cases hfn:f n with
    | false=>cases g n<;>simp<;>lia
    | true=>rw[hn hfn];simp;lia
theorem BV(hL:∀ k,k<N.n->0<L k)(hu:u<N.p){z:Int}{e:Nat}(h:Wz N L m u u true z e)(hmin:∀ x z',x<N.p->Wy N L m x x true z'->z<=z'):
 N.Ring e/\e<2^N.n/\N.par e m=true/\lsum L (fun k=>e.testBit k) N.n=z:=by
 have Qt:∀ k,k<N.n->0<=L k:=fun k hk=>Int.le_of_lt (hL k hk)
 obtain⟨pre,h⟩:=h;obtain⟨_,h2,h3,h4,h5,_⟩:=oN Qt hu h;obtain⟨r,r1,r2,r3⟩:=BL _ e rfl h2 (fun x _=>by rw[h3,Bool.xor_self]) h4
 have VC:r<2^N.n:=cF fun k hk=>nB h2 (r2 k hk)
 obtain⟨x,hx,hw⟩:=oO Qt m r1 VC;rw[r3]at hw;have hz:=hmin x _ hx hw;have hle:=qj (L:=L) (f:=fun k=>r.testBit k) (g:=fun k=>e.testBit k) Qt fun k _ hk=>r2 k hk
 have er:e=r:=Nat.eq_of_testBit_eq fun k=>by
  cases hr:r.testBit k with
  | true=>exact r2 k hr
  | false =>
    cases he:e.testBit k with
    | false=>rfl
    | true =>
      have:=rO (L:=L) (f:=fun k=>r.testBit k) (g:=fun k=>e.testBit k) hL (fun k _ hk=>r2 k hk) k (nB h2 he) hr he
      lia
 rw[er];exact⟨r1,VC,r3,by lia⟩
theorem Iv(hL:∀ k,k<N.n->0<=L k)(hno:∀ x z',x<N.p->¬ Wy N L m x x true z'){r:Nat}(hr:N.Ring r)(hm:r<2^N.n):N.par r m=false:=by
 cases hp:N.par r m with
 | false=>rfl
 | true =>
   obtain⟨x,hx,hw⟩:=oO hL m hr hm;rw[hp]at hw;exact absurd hw (hno x _ hx)
end
end RM
namespace L2
open PySem PySem.Spec PyProof.Rows
section
variable {X:Cx}{pq:aR}{σ:St}{H:Hp}{l It S:Addr}{cs:List Addr}{ks:Nat->List Int}{R:Result->Shared->Prop}
theorem kq{pa:aR}{s:Shared}(I:Inv X pa σ H s)(hl:aK X.K H l (cs.map V.ref)):s.heap.IsList l (cs.map Value.ref).toArray:=by
 obtain⟨its,rv,p,hz⟩:=I.list hl;have e:its=cs.map Value.ref:=by
  clear hl p hz
  induction cs generalizing its with
  | nil=>cases rv;rfl
  | cons c r ih =>
    rw[List.map_cons]at rv;cases rv with
    | cons h t=>cases h;rw[ih _ t];rfl
 rw[e]at p;exact p.isList
theorem ES(hh:X.A.handled=none)(un:X.A.in1.units<cLine)(hl:aK X.K H l (cs.map V.ref))(hk:∀(i:Nat) c,cs[i]?=some c->aQ X.K H c ((ks i).map V.int))(oS:BQ X S)(oI:BQ X It)(SI:S≠It)(lI:l≠It)
 (pI:∀ p∈pq,p.1≠It) (pS:∀ p∈pq,p.1≠S)
 (hR:∀(i:Nat) c s',cs[i]?=some c->(∀ j,j<cs.length->HT.lexLt (ks j) (ks i)=false)->Inv X pq σ H s'->R (.ok (.ret (.ref c))) s') :
 ∀(r j i:Nat) (c:Addr) (s:Shared) (n:Nat) (F6:Obj),cs.length-j=r->j<=cs.length->i<j->cs[i]?=some c->Inv X ((S,seqObj "list" #[.ref c,.ref c] n)::(It,F6)::pq) σ H s->s.heap.IsListIter It l j->
  (∀ j',j'<j->HT.lexLt (ks j') (ks i)=false)->codeAny (model X.prog X.w) X.A (.builtin "min.loop" ⟨[.ref It,.none,.ref S],[]⟩) R s:=by
 have hname:(toString "min" ++ toString ".loop":String)="min.loop":=by decide
 have W:=Walks.list (prog:=X.prog) (w:=X.w) (A:=X.A.in1) hh It l lI (cs.map Value.ref).toArray;have hsz:(cs.map Value.ref).toArray.size=cs.length:=by simp
 intro r
 induction r with
 | zero =>
   intro j i c s n F6 hr hj hij hc I hit oW;have yT:j=cs.length:=by lia
   have uF:=I.pin (S,_) (gZ _ (.head _));refine codeAny_builtin PySem.F.entry_min_loop ?_;rw[Around.under_plainId PySem.F.plain_min_loop _];show wpAny _ X.A.in1 (seqItems? (.ref S) >>= _) _ _ _;refine aP (wpAny_seqItems uF.1 rfl ?_);show wpAny _ X.A.in1 (tryCatch (pyNext (.ref It)) _ >>= _) _ _ _;refine aP (wpAny_tryCatch (W.done _ _ _ ⟨by rw[hsz,<-yT];exact hit,kq I hl⟩ fun h' tk' hk'=>?_))
   have I1:=I.jo (t':=tk') (h':=h') (pb:=(S,seqObj "list" #[.ref c,.ref c] n)::pq) oI (List.Mem.tail _ (.head _)) (fun b u hb e=>hk' b u (by simpa using hb) e) (fun p hp=>by
    rcases List.mem_cons.mp hp with rfl|hp
    ·exact .inr ⟨.head _,SI⟩
    ·exact .inr ⟨.tail _ (.tail _ hp),pI p hp⟩)
   have Ih:=I1.pin (S,_) (gZ _ (.head _));show wpAny _ X.A.in1 (updateSeq S (fun _=>#[]) >>= _) _ _ _
   refine aP (wpAny_updateSeq Ih.1 rfl (aP (wpAny_letGo (wpAny_pure ?_))));have s1:=Heap.SameBut.update h' S (Obj.mapSeq fun _=>(#[]:Array Value))
   exact hR i c _ hc (fun j' hj'=>oW j' (by lia)) (I1.jo (t':=tk') (pb:=pq) oS (.head _) (fun b u hb e=>(s1.2 b hb).trans e) fun p hp=>.inr ⟨.tail _ hp,pS p hp⟩)
 | succ r ih =>
   intro j i c s n F6 hr hj hij hc I hit oW;have yT:j<cs.length:=by lia
   have uF:=I.pin (S,_) (gZ _ (.head _));refine codeAny_builtin PySem.F.entry_min_loop ?_;rw[Around.under_plainId PySem.F.plain_min_loop _];show wpAny _ X.A.in1 (seqItems? (.ref S) >>= _) _ _ _;refine aP (wpAny_seqItems uF.1 rfl ?_);show wpAny _ X.A.in1 (tryCatch (pyNext (.ref It)) _ >>= _) _ _ _;refine aP (wpAny_tryCatch (W.item j _ _ _ (by rw[hsz];exact yT) ⟨hit,kq I hl⟩ fun v h' tk' hv st' hk'=>?_))
   have OA:cs[j]?=some cs[j]:=List.getElem?_eq_getElem yT;obtain rfl:v = .ref cs[j]:=by
    have:(cs.map Value.ref)[j]?=some v:=by simpa using hv
    rw[List.getElem?_map,OA]at this;exact(Option.some.inj this).symm
   obtain⟨JH,Iw,hoc,hod⟩:=id st'.1;have I1:=I.jo (t':=tk') (h':=h') (pb:=(S,seqObj "list" #[.ref c,.ref c] n)::(It,JH)::pq) oI (List.Mem.tail _ (.head _)) (fun b u hb e=>hk' b u (by simpa using hb) e) (fun p hp=>by
    rcases List.mem_cons.mp hp with rfl|hp
    ·exact .inr ⟨.head _,SI⟩
    ·rcases List.mem_cons.mp hp with rfl|hp
     ·exact .inl ⟨rfl,Iw,fun v z=>by rw[hod]at z;cases z⟩
     ·exact .inr ⟨.tail _ (.tail _ hp),pI p hp⟩)
   have lP:=I1.pin (S,_) (gZ _ (.head _));show wpAny _ X.A.in1 (tryCatch (holding [.ref cs[j],.ref cs[j]] (richCompare .Lt (.ref cs[j]) (.ref c) >>= _)) _ >>= _) _ _ _;refine aP (wpAny_tryCatch (wpAny_holding (aP (Ic I1 (hk j _ OA) (hk i c hc) un ?_))));refine aP (wpAny_holding (wpAny_truthy_bool (aP (wpAny_letGo (wpAny_pure ?_)))));cases hlt:HT.lexLt (ks j) (ks i) with
   | true =>
     have s1:=Heap.SameBut.update h' S (Obj.mapSeq fun _=>(#[.ref cs[j],.ref cs[j]]:Array Value))
     obtain⟨n2,hn2⟩:∃ n2,(h'.update S (Obj.mapSeq fun _=>(#[.ref cs[j],.ref cs[j]]:Array Value))).get? S=some (seqObj "list" #[.ref cs[j],.ref cs[j]] n2):=⟨_,get?_update_seq lP.1 fun _=>#[.ref cs[j],.ref cs[j]]⟩
     simp only[if_true];refine aP (wpAny_updateSeq lP.1 rfl (aP (wpAny_letGo ?_)));rw[hname];have I3:=I1.jo (t':=tk') (pb:=(S,seqObj "list" #[.ref cs[j],.ref cs[j]] n2)::(It,JH)::pq) oS (.head _) (fun b u hb e=>(s1.2 b hb).trans e) (fun p hp=>by
      rcases List.mem_cons.mp hp with rfl|hp
      ·exact .inl ⟨rfl,hn2,fun v z=>by cases z⟩
      ·rcases List.mem_cons.mp hp with rfl|hp
       ·exact .inr ⟨.tail _ (.head _),SI.symm⟩
       ·exact .inr ⟨.tail _ (.tail _ hp),pS p hp⟩)
     refine wpAny_pure ⟨plainId_quiet PySem.F.plain_min_loop _,ih (j+1) j cs[j] _ n2 JH (by lia) (by lia) (by lia) OA I3 ⟨JH,(s1.2 It SI.symm).trans Iw,hoc,hod⟩ fun j' hj'=>?_⟩
     by_cases e:j' = j
     ·rw[e];exact HT.gi _
     ·exact HT.uD (oW j' (by lia)) hlt
   | false =>
     simp only[Bool.false_eq_true,if_false];refine aP (wpAny_letGo ?_);rw[hname];refine wpAny_pure ⟨plainId_quiet PySem.F.plain_min_loop _,ih (j+1) i c _ n JH (by lia) (by lia) (by lia) hc I1 st'.1 fun j' hj'=>?_⟩
     by_cases e:j' = j
     ·rw[e];exact hlt
     ·exact oW j' (by lia)
theorem T9(hr:X.A.handled=none)(un:X.A.in1.units<cLine):e7 X (.builtin "min") (fun xs H Q=>∃(l:Addr) (cs:List Addr) (ks:Nat->List Int),xs=[.ref l]/\aK X.K H l (cs.map V.ref)/\0<cs.length/\(∀(i:Nat) c,cs[i]?=some c->aQ X.K H c ((ks i).map V.int))/\
 ∀(i:Nat) c,cs[i]?=some c->(∀ j,j<cs.length->HT.lexLt (ks j) (ks i)=false)->Q (.ref c) H):=by
 intro pq s σ H xs us Q I r h;obtain⟨l,cs,ks,rfl,hl,hne,hk,q⟩:=h;obtain⟨u,rfl,rx⟩:=vals1 r;cases rx;have hname:(toString "min" ++ toString ".loop":String)="min.loop":=by decide
 have hls:=kq I hl;obtain⟨ol,L7,_⟩:=id hls;have Ua:l<s.heap.objs.size:=Heap.lt_size L7;refine call_function_tree PySem.F.kind_min PySem.F.plain_min PySem.F.entry_min (PySem.F.args_min1 _) ?_;show wpAny _ X.A.in1 (Builtin.Builtins.bindParams "min" ["key","default"] 0 ⟨[],[]⟩ >>= _) _ _ s;refine aP (wpAny_of_eq (show Builtin.Builtins.bindParams "min" ["key","default"] 0 ⟨[],[]⟩=pure [none,none] from rfl) ?_)
 refine aP (wpAny_pure (aP (wpAny_pyIter_list hls (aP (wpAny_newList ?_ (Nat.zero_le _))))));rw[hname];refine wpAny_pure ⟨plainId_quiet PySem.F.plain_min_loop _,?_⟩;generalize NH:({ cls:=.type "list_iterator",data:=.fields #[.ref l,.int 0 0]}:Obj)=oI;have hS:(s.heap.push oI).objs.size=s.heap.objs.size+1:=size_push' ..;have hk2:∀ b o,s.heap.get? b=some o->((s.heap.push oI).push (seqObj "list" #[] 0)).get? b=some o:=fun b o e=>Heap.get?_push_of_some _ (Heap.get?_push_of_some _ e)
 have gI:((s.heap.push oI).push (seqObj "list" #[] 0)).get? s.heap.objs.size=some oI:=Heap.get?_push_of_some _ (Heap.get?_push_size _ (by rw[<-NH];rfl))
 have gS:((s.heap.push oI).push (seqObj "list" #[] 0)).get? (s.heap.push oI).objs.size=some (seqObj "list" #[] 0):=Heap.get?_push_size _ rfl;have Ld:∀ p∈pq,p.1<s.heap.objs.size:=fun p hp=>Heap.lt_size (I.pin p (gZ _ hp)).1
 have Mb:=I.Ib (Nat.le_refl s.heap.objs.size);have oS:=I.Ib (b:=(s.heap.push oI).objs.size) (by rw[hS];exact Nat.le_succ _)
 have SI:(s.heap.push oI).objs.size≠s.heap.objs.size:=by rw[hS];exact Nat.succ_ne_self _
 have lI:l≠s.heap.objs.size:=Nat.ne_of_lt Ua;have pI:∀ p∈pq,p.1≠s.heap.objs.size:=fun p hp=>Nat.ne_of_lt (Ld p hp)
 have pS:∀ p∈pq,p.1≠(s.heap.push oI).objs.size:=fun p hp=>by rw[hS];exact Nat.ne_of_lt (Nat.lt_succ_of_lt (Ld p hp))
 have J:Inv X (((s.heap.push oI).objs.size,seqObj "list" #[] 0)::(s.heap.objs.size,oI)::pq) σ H { s with heap:=(s.heap.push oI).push (seqObj "list" #[] 0)}:=by
  have K:=I.kept (t':=s.toks) hk2;refine K.fR fun p hp=>?_
  rcases List.mem_cons.mp hp with rfl|hp
  ·exact⟨gS,I.hok.fresh (by rw[hS];exact Nat.le_succ _),oS.2.1,oS.2.2.1,fun v z=>by cases z⟩
  ·rcases List.mem_cons.mp hp with rfl|hp
   ·exact⟨gI,I.hok.fresh (Nat.le_refl _),Mb.2.1,Mb.2.2.1,fun v z=>by rw[<-NH]at z;cases z⟩
   ·exact K.pin p (gZ _ hp)
 have W:=Walks.list (prog:=X.prog) (w:=X.w) (A:=X.A.in1) hr s.heap.objs.size l lI (cs.map Value.ref).toArray;have uF:=J.pin ((s.heap.push oI).objs.size,seqObj "list" #[] 0) (gZ _ (.head _));refine codeAny_builtin PySem.F.entry_min_loop ?_;rw[Around.under_plainId PySem.F.plain_min_loop _];show wpAny _ X.A.in1 (seqItems? (.ref _) >>= _) _ _ _;refine aP (wpAny_seqItems uF.1 rfl ?_);show wpAny _ X.A.in1 (tryCatch (pyNext (.ref s.heap.objs.size)) _ >>= _) _ _ _;refine aP (wpAny_tryCatch (W.item 0 _ _ _ (by simpa using hne) ⟨⟨oI,gI,by rw[<-NH],by rw[<-NH];rfl⟩,kq J hl⟩ fun v h' tk' hv st' hk'=>?_))
 have OA:cs[0]?=some cs[0]:=List.getElem?_eq_getElem hne;obtain rfl:v = .ref cs[0]:=by
  have:(cs.map Value.ref)[0]?=some v:=by simpa using hv
  rw[List.getElem?_map,OA]at this;exact(Option.some.inj this).symm
 obtain⟨JH,Iw,hoc,hod⟩:=id st'.1;have I1:=J.jo (t':=tk') (h':=h') (pb:=((s.heap.push oI).objs.size,seqObj "list" #[] 0)::(s.heap.objs.size,JH)::pq) Mb (List.Mem.tail _ (.head _)) (fun b u hb e=>hk' b u (by simpa using hb) e) (fun p hp=>by
  rcases List.mem_cons.mp hp with rfl|hp
  ·exact .inr ⟨.head _,SI⟩
  ·rcases List.mem_cons.mp hp with rfl|hp
   ·exact .inl ⟨rfl,Iw,fun v z=>by rw[hod]at z;cases z⟩
   ·exact .inr ⟨.tail _ (.tail _ hp),pI p hp⟩)
 have lP:=I1.pin ((s.heap.push oI).objs.size,_) (gZ _ (.head _));have s1:=Heap.SameBut.update h' (s.heap.push oI).objs.size (Obj.mapSeq fun _=>(#[.ref cs[0],.ref cs[0]]:Array Value))
 obtain⟨n2,hn2⟩:∃ n2,(h'.update (s.heap.push oI).objs.size (Obj.mapSeq fun _=>(#[.ref cs[0],.ref cs[0]]:Array Value))).get? (s.heap.push oI).objs.size=some (seqObj "list" #[.ref cs[0],.ref cs[0]] n2):=⟨_,get?_update_seq lP.1 fun _=>#[.ref cs[0],.ref cs[0]]⟩
 show wpAny _ X.A.in1 (updateSeq (s.heap.push oI).objs.size (fun _=>#[.ref cs[0],.ref cs[0]]) >>= _) _ _ _
 refine aP (wpAny_updateSeq lP.1 rfl ?_);rw[hname];have I3:=I1.jo (t':=tk') (pb:=((s.heap.push oI).objs.size,seqObj "list" #[.ref cs[0],.ref cs[0]] n2)::(s.heap.objs.size,JH)::pq) oS (.head _) (fun b u hb e=>(s1.2 b hb).trans e) (fun p hp=>by
  rcases List.mem_cons.mp hp with rfl|hp
  ·exact .inl ⟨rfl,hn2,fun v z=>by cases z⟩
  ·rcases List.mem_cons.mp hp with rfl|hp
   ·exact .inr ⟨.tail _ (.head _),SI.symm⟩
   ·exact .inr ⟨.tail _ (.tail _ hp),pS p hp⟩)
 refine wpAny_pure ⟨plainId_quiet PySem.F.plain_min_loop _,ES hr un hl hk oS Mb SI lI pI pS (fun i c s' hc best I7=>⟨.ref c,H,I7,rfl,q i c hc best⟩) _ 1 0 cs[0] _ n2 JH rfl hne (Nat.lt_succ_self _) OA I3 ⟨JH,(s1.2 _ SI.symm).trans Iw,hoc,hod⟩ fun j hj=>?_⟩
 have e:j=0:=by lia
 rw[e];exact HT.gi _
end
end L2
namespace RM
def lx(a b:Int×Nat):Prop:=a.1<b.1\/(a.1=b.1/\a.2<=b.2)
def stp(L:Nat->Int)(d:Int×Nat)(k:Nat):Int×Nat:=(d.1+L k,d.2^^^2^k)
structure Fx(N:Net)(L:Nat->Int)(m u:Nat)(F:OW):Prop where
 st:F u false=some (0,0)
 cx:∀ x s d k y,F x s=some d->k<N.n->Jn N k x y->∃ d',F y (s^^m.testBit k)=some d'/\lx d' (stp L d k)
 org:∀ y t d,F y t=some d->(y=u/\t=false/\d=(0,0))\/∃ x s d0 k,F x s=some d0/\k<N.n/\Jn N k x y/\t=(s^^m.testBit k)/\d=stp L d0 k
 nn:∀ y t d,F y t=some d->0<=d.1
def Qu(N:Net)(L:Nat->Int)(m u:Nat)(F:OW)(y:Nat)(t:Bool)(d:Int×Nat):Prop:=(y=u/\t=false/\d=(0,0))\/∃ x s d0 k,F x s=some d0/\k<N.n/\Jn N k x y/\t=(s^^m.testBit k)/\d=stp L d0 k
structure Dx(N:Net)(L:Nat->Int)(m u:Nat)(F W:OW)(now:Option (Nat×Bool))(done:Nat->Nat->Prop):Prop where
 dj:Dj N L m u F W now done
 cx:∀ x s d k y,F x s=some d->k<N.n->Jn N k x y->(now=some (x,s)->done k y)->∃ d',(F y (s^^m.testBit k)=some d'\/W y (s^^m.testBit k)=some d')/\lx d' (stp L d k)
 fo:∀ y t d,F y t=some d->Qu N L m u F y t d
 wo:∀ y t d,W y t=some d->Qu N L m u F y t d
 s0:F u false=some (0,0)\/W u false=some (0,0)
section
variable {N:Net}{L:Nat->Int}{m u:Nat}{F W:OW}
theorem Qu.grow{y x:Nat}{t s:Bool}{d e:Int×Nat}(h:Qu N L m u F y t d)(hF:F x s=none):Qu N L m u (i8 F x s e) y t d:=by
 rcases h with h|⟨x',s',d0,k,h0,r⟩
 ·exact .inl h
 ·refine .inr ⟨x',s',d0,k,?_,r⟩;rw[br (fun z=>by rw[z.1,z.2,hF]at h0;cases h0)]
  exact h0
theorem Dx.start:Dx N L m u (fun _ _=>none) (i8 (fun _ _=>none) u false (0,0)) none (fun _ _=>False):=by
 refine⟨.start,fun _ _ _ _ _ h=>(nomatch h),fun _ _ _ h=>(nomatch h),fun y t d h=>?_,.inr (bV _ _ _ _)⟩
 by_cases e:y=u/\t=false
 ·obtain⟨rfl,rfl⟩:=e;rw[bV]at h;exact .inl ⟨rfl,rfl,(Option.some.inj h).symm⟩
 ·rw[br e]at h;cases h
theorem Dx.pop(h:Dx N L m u F W none (fun _ _=>False)){x:Nat}{s:Bool}{d:Int×Nat}(e:W x s=some d)(hmin:∀ y t d',W y t=some d'->d.1<=d'.1):Dx N L m u (i8 F x s d) (ye W x s) (some (x,s)) (fun _ _=>False):=by
 have hF:=h.dj.dj x s d e;have moved:∀ y t d',F y t=some d'\/W y t=some d'->i8 F x s d y t=some d'\/ye W x s y t=some d':=fun y t d' q=>by
  by_cases z:y=x/\t=s
  ·obtain⟨rfl,rfl⟩:=z;rcases q with q|q
   ·rw[hF]at q;cases q
   ·rw[e]at q;cases q;exact .inl (bV _ _ _ _)
  ·rw[br z,mE z];exact q
 refine⟨h.dj.pop e hmin,fun y t d' k y2 q hk hj hd=>?_,fun y t d' q=>?_,fun y t d' q=>?_,moved _ _ _ h.s0⟩
 ·by_cases z:y=x/\t=s
  ·obtain⟨rfl,rfl⟩:=z;exact(hd rfl).elim
  ·rw[br z]at q;obtain⟨d2,q2,l2⟩:=h.cx y t d' k y2 q hk hj (fun z=>nomatch z)
   exact⟨d2,moved _ _ _ q2,l2⟩
 ·by_cases z:y=x/\t=s
  ·obtain⟨rfl,rfl⟩:=z;rw[bV]at q;cases q;exact(h.wo _ _ _ e).grow hF
  ·rw[br z]at q;exact(h.fo y t d' q).grow hF
 ·by_cases z:y=x/\t=s
  ·obtain⟨rfl,rfl⟩:=z;rw[sR]at q;cases q
  ·rw[mE z]at q;exact(h.wo y t d' q).grow hF
theorem lx.trans{a b c:Int×Nat}(h1:lx a b)(h2:lx b c):lx a c:=by
 unfold lx at *
 lia
theorem Dx.put{done:Nat->Nat->Prop}{x:Nat}{s:Bool}(h:Dx N L m u F W (some (x,s)) done){d:Int×Nat}{k y:Nat}(e:F x s=some d)(h0:0<=d.1)(hk:k<N.n)(hL:0<L k)(hj:Jn N k x y)(hF:F y (s^^m.testBit k)=none)
 (hW:∀ d',W y (s^^m.testBit k)=some d'->lx (stp L d k) d'):Dx N L m u F (i8 W y (s^^m.testBit k) (stp L d k)) (some (x,s)) (fun k' y'=>done k' y'\/(k' = k/\y' = y)):=by
 have moved:∀ v t d',F v t=some d'\/W v t=some d'->∃ d2,(F v t=some d2\/i8 W y (s^^m.testBit k) (stp L d k) v t=some d2)/\lx d2 d':=fun v t d' q=>by
  rcases q with q|q
  ·exact⟨d',.inl q,.inr ⟨rfl,Nat.le_refl _⟩⟩
  ·by_cases z:v=y/\t=(s^^m.testBit k)
   ·obtain⟨rfl,rfl⟩:=z;exact⟨_,.inr (bV _ _ _ _),hW d' q⟩
   ·exact⟨d',.inr (by rw[br z];exact q),.inr ⟨rfl,Nat.le_refl _⟩⟩
 refine⟨h.dj.put e hk (Int.le_of_lt hL) hj hF fun d' q=>?_,fun v t d' k2 y2 q hk2 Io hd=>?_,h.fo,fun v t d' q=>?_,?_⟩
 ·have:=hW d' q;unfold lx stp at this;simp only at this
  lia
 ·by_cases hd2:some (x,s)=some (v,t)->done k2 y2
  ·obtain⟨d2,q2,l2⟩:=h.cx v t d' k2 y2 q hk2 Io hd2;obtain⟨d3,q3,l3⟩:=moved _ _ _ q2;exact⟨d3,q3,l3.trans l2⟩
  ·have hn:some (x,s)=some (v,t):=Classical.byContradiction fun z=>hd2 fun z2=>absurd z2 z
   rcases hd hn with z|⟨rfl,rfl⟩
   ·exact absurd (fun _=>z) hd2
   ·cases hn;rw[e]at q;cases q;exact⟨_,.inr (bV _ _ _ _),.inr ⟨rfl,Nat.le_refl _⟩⟩
 ·by_cases z:v=y/\t=(s^^m.testBit k)
  ·obtain⟨rfl,rfl⟩:=z;rw[bV]at q;cases q;exact .inr ⟨x,s,d,k,e,hk,hj,rfl,rfl⟩
  ·rw[br z]at q;exact h.wo v t d' q
 ·rcases h.s0 with q|q
  ·exact .inl q
  ·right
   rw[br (fun z=>?_)]
   ·exact q
   ·obtain⟨z1,z2⟩:=z;have q':=q;rw[z1,z2]at q';have:=hW _ q';unfold lx stp at this;simp only at this
    lia
theorem Dx.skip{done:Nat->Nat->Prop}{x:Nat}{s:Bool}(h:Dx N L m u F W (some (x,s)) done){d d2:Int×Nat}{k y:Nat}(e:F x s=some d)(hL:0<L k)(q2:F y (s^^m.testBit k)=some d2\/(W y (s^^m.testBit k)=some d2/\lx d2 (stp L d k))):
 Dx N L m u F W (some (x,s)) (fun k' y'=>done k' y'\/(k' = k/\y' = y)):=by
 have q3:F y (s^^m.testBit k)=some d2\/(W y (s^^m.testBit k)=some d2/\d2.1<=d.1+L k):=by
  rcases q2 with q2|⟨q2,l2⟩
  ·exact .inl q2
  ·refine .inr ⟨q2,?_⟩;unfold lx stp at l2;simp only at l2
   lia
 refine⟨h.dj.skip e (Int.le_of_lt hL) q3,fun v t d' k2 y2 q hk2 Io hd=>?_,h.fo,h.wo,h.s0⟩
 by_cases hd2:some (x,s)=some (v,t)->done k2 y2
 ·exact h.cx v t d' k2 y2 q hk2 Io hd2
 ·have hn:some (x,s)=some (v,t):=Classical.byContradiction fun z=>hd2 fun z2=>absurd z2 z
  rcases hd hn with z|⟨rfl,rfl⟩
  ·exact absurd (fun _=>z) hd2
  ·cases hn;rw[e]at q;cases q;rcases q2 with q2|⟨q2,l2⟩
   ·have:=h.dj.mx x s d _ _ d2 rfl e q2;refine⟨d2,.inl q2,.inl ?_⟩;show d2.1<d.1+L k2
    lia
   ·exact⟨d2,.inr q2,l2⟩
theorem Dx.all{done:Nat->Nat->Prop}{x:Nat}{s:Bool}(h:Dx N L m u F W (some (x,s)) done)(ha:∀ k y,k<N.n->Jn N k x y->done k y):Dx N L m u F W none (fun _ _=>False) :=
 ⟨h.dj.all ha,fun v t d k y q hk hj _=>h.cx v t d k y q hk hj fun z=>by cases z;exact ha k y hk hj,h.fo,h.wo,h.s0⟩
theorem Dj.less{now:Option (Nat×Bool)}{done done' : Nat->Nat->Prop}(h:Dj N L m u F W now done)(hd:∀ k y,done' k y->done k y):Dj N L m u F W now done' :=
 ⟨h.fw,h.ww,h.dj,h.le,h.mx,fun v t d k y q hk hj z=>h.cl v t d k y q hk hj fun z2=>hd _ _ (z z2),h.st⟩
theorem Dx.less{now:Option (Nat×Bool)}{done done' : Nat->Nat->Prop}(h:Dx N L m u F W now done)(hd:∀ k y,done' k y->done k y):Dx N L m u F W now done' :=
 ⟨h.dj.less hd,fun v t d k y q hk hj z=>h.cx v t d k y q hk hj fun z2=>hd _ _ (z z2),h.fo,h.wo,h.s0⟩
theorem Dx.fin(hL:∀ k,k<N.n->0<L k)(hu:u<N.p)(h:Dx N L m u F W none (fun _ _=>False))(hW:∀ x s,W x s=none):Fx N L m u F:=by
 refine⟨?_,fun x s d k y e hk hj=>?_,h.fo,fun y t d e=>?_⟩
 ·rcases h.s0 with q|q
  ·exact q
  ·rw[hW]at q;cases q
 ·obtain⟨d',q,l⟩:=h.cx x s d k y e hk hj (fun z=>nomatch z)
  rcases q with q|q
  ·exact⟨d',q,l⟩
  ·rw[hW]at q;cases q
 ·obtain⟨pre,w⟩:=h.dj.fw y t d e;exact(oN (fun k hk=>Int.le_of_lt (hL k hk)) hu w).2.2.2.2.2
end
section
variable {N:Net}{L:Nat->Int}{m:Nat}
def Lo(N:Net)(L:Nat->Int)(m:Nat)(z:Int)(e:Nat):Prop:=∃ Fs:Nat->OW,(∀ i,i<N.p->Fx N L m i (Fs i))/\(∃ i,i<N.p/\Fs i i true=some (z,e))/\∀ j d,j<N.p->Fs j j true=some d->lx (z,e) d
structure uI(N:Net)(L:Nat->Int)(m:Nat)(z:Int)(e:Nat):Prop where
 ring:N.Ring e
 lt:e<2^N.n
 par:N.par e m=true
 len:lsum L (fun k=>e.testBit k) N.n=z
 way:∃ x,x<N.p/\Wy N L m x x true z
 min:∀ x z',x<N.p->Wy N L m x x true z'->z<=z'
theorem uI.least(hL:∀ k,k<N.n->0<=L k){z:Int}{e r:Nat}(h:uI N L m z e)(hr:N.Ring r)(lr:r<2^N.n)(pr:N.par r m=true):z<=lsum L (fun k=>r.testBit k) N.n:=by
 obtain⟨x,hx,hw⟩:=oO hL m hr lr;rw[pr]at hw;exact h.min x _ hx hw
end
end RM
namespace Ring
open PySem L2
end Ring
namespace L2
open PySem PySem.Spec PyProof.Rows PySem.W
def SRun(r:Nat->Int){α:Type}:KasT α->α
 | .ret a=>a
 | .ask i j k=>SRun r (k (decide (r i<r j)))
section
variable {r:Nat->Int}
theorem iR{α β:Type}{f:α->KasT β}:∀(t:KasT α),SRun r (t.bind f)=SRun r (f (SRun r t))
 | .ret a=>by rw[KasT.bind.eq_1];rfl
 | .ask i j k=>by
   rw[KasT.bind.eq_2];exact iR (k _)
theorem yg{n:Nat}{α:Type}{R:α->Prop}{cmp:Nat->Nat->(Bool->Shared->Prop)->Shared->Prop}{Q:α->Shared->Prop}{s:Shared}(hc:∀ i j C,i<n->j<n->C (decide (r i<r j)) s->cmp i j C s):∀{t:KasT α},vB n R t->(R (SRun r t)->Q (SRun r t) s)->KasT.kasWp cmp t Q s
 | .ret a,h,q=>q h
 | .ask i j k,h,q=>hc i j _ h.1 h.2.1 (yg hc (h.2.2 _) q)
def Kr(r:Nat->Int)(p:Array Nat)(i:Nat):Int:=r (p.getD i 0)
theorem uJ(p:Array Nat)(i:Nat):Kr r p i=r ((p[i]?).getD 0):=by
 unfold Kr;rw[Array.getD_eq_getD_getElem?]
theorem yh{p:Array Nat}{i j:Nat}(hj:j<=p.size)(k:Nat):Kr r (kas_rev p i j) k=if i<=k/\k<j then Kr r p (i+j-1-k) else Kr r p k:=by
 have e:=getElem?_mirror_all (i:=i) hj k;unfold kas_rev;rw[uJ,e]
 split
 ·rw[uJ]
 ·rw[uJ]
theorem Iz{p:Array Nat}{src d:Nat}(hs:src<p.size)(hd:d<=src)(k:Nat):Kr r (bubble p src d) k=if k=src-d then Kr r p src else if src-d<k/\k<=src then Kr r p (k-1) else Kr r p k:=by
 have e:=getElem?_bubble hs d hd k;rw[uJ,e]
 split
 ·rw[uJ]
 ·split
  ·rw[uJ]
  ·rw[uJ]
theorem lQ(p:Array Nat)(i j:Nat):(kas_rev p i j).size=p.size:=mirror_size _ _ _ _
def Up(r:Nat->Int)(p:Array Nat)(n:Nat):Prop:=∀ i,1<=i->i<n->Kr r p (i-1)<=Kr r p i
theorem Up.le{p:Array Nat}{n:Nat}(h:Up r p n):∀{i j:Nat},i<=j->j<n->Kr r p i<=Kr r p j:=by
 intro i j hij;obtain⟨d,rfl⟩:=Nat.exists_eq_add_of_le hij;clear hij
 induction d with
 | zero=>intro _;exact Int.le_refl _
 | succ d ih =>
   intro hj;have h1:=ih (by lia)
   have h2:=h (i+(d+1)) (by lia) hj
   rw[show i+(d+1)-1=i+d by lia]at h2
   lia
theorem BW{p:Array Nat}:∀(f n:Nat),1<=n->Up r p n->n<=SRun r (kas_asc p f n)/\SRun r (kas_asc p f n)<=n+f/\Up r p (SRun r (kas_asc p f n))/\(SRun r (kas_asc p f n)<n+f->Kr r p (SRun r (kas_asc p f n))<Kr r p (SRun r (kas_asc p f n)-1))
 | 0,n,_,h=>by
   rw[kas_asc.eq_1];exact⟨Nat.le_refl n,Nat.le_refl n,h,fun z=>absurd z (Nat.lt_irrefl n)⟩
 | f+1,n,h1,h=>by
   rw[kas_asc.eq_2];show n<=SRun r (if decide (Kr r p n<Kr r p (n-1))=true then _ else _)/\SRun r (if decide (Kr r p n<Kr r p (n-1))=true then _ else _)<=_/\Up r p (SRun r (if decide (Kr r p n<Kr r p (n-1))=true then _ else _))/\_
   by_cases c:Kr r p n<Kr r p (n-1)
   ·show n<=SRun r (if decide (Kr r p n<Kr r p (n-1))=true then _ else _)/\SRun r (if decide (Kr r p n<Kr r p (n-1))=true then _ else _)<=_/\Up r p (SRun r (if decide (Kr r p n<Kr r p (n-1))=true then _ else _))/\(SRun r (if decide (Kr r p n<Kr r p (n-1))=true then _ else _)<_->Kr r p (SRun r (if decide (Kr r p n<Kr r p (n-1))=true then _ else _))<Kr r p (SRun r (if decide (Kr r p n<Kr r p (n-1))=true then _ else _)-1))
    rw[if_pos (cD c)];exact⟨Nat.le_refl n,Nat.le_add_right _ _,h,fun _=>c⟩
   ·show n<=SRun r (if decide (Kr r p n<Kr r p (n-1))=true then _ else _)/\SRun r (if decide (Kr r p n<Kr r p (n-1))=true then _ else _)<=_/\Up r p (SRun r (if decide (Kr r p n<Kr r p (n-1))=true then _ else _))/\(SRun r (if decide (Kr r p n<Kr r p (n-1))=true then _ else _)<_->Kr r p (SRun r (if decide (Kr r p n<Kr r p (n-1))=true then _ else _))<Kr r p (SRun r (if decide (Kr r p n<Kr r p (n-1))=true then _ else _)-1))
    rw[if_neg (by simpa using c)]
    have ih:=BW (p:=p) f (n+1) (by lia) (fun i hi hn=>by
     by_cases e:i=n
     ·rw[e];lia
     ·exact h i hi (by lia))
    refine⟨by lia,by lia,ih.2.2.1,fun z=>ih.2.2.2 (by lia)⟩
def Down(r:Nat->Int)(p:Array Nat)(n q:Nat):Prop:=(∀ i,1<=i->i<n->Kr r p i<=Kr r p (i-1))/\q+1<=n/\∀ i,n-(q+1)<=i->i<n->Kr r p i=Kr r p (n-1)
theorem Down.rev{p:Array Nat}{n q:Nat}(h:Down r p n q)(hn:n<=p.size)(k:Nat):Kr r (kas_rev p (n-(q+1)) n) k=Kr r p k:=by
 rw[yh hn]
 split
 ·rename_i hk
  rw[h.2.2 _ (by lia) (by have:=h.2.1;lia),h.2.2 k hk.1 hk.2]
 ·rfl
theorem mF:∀(f:Nat) {p:Array Nat} {n q:Nat},n+f<=p.size->Down r p n q->
 (SRun r (kas_desc f p n q)).1.size=p.size/\n<=(SRun r (kas_desc f p n q)).2.1/\(SRun r (kas_desc f p n q)).2.1<=n+f/\Down r (SRun r (kas_desc f p n q)).1 (SRun r (kas_desc f p n q)).2.1 (SRun r (kas_desc f p n q)).2.2
 | 0,p,n,q,_,h=>by
   rw[kas_desc.eq_1];exact⟨rfl,Nat.le_refl n,Nat.le_refl n,h⟩
 | f+1,p,n,q,hs,h=>by
   rw[kas_desc.eq_2];obtain⟨h1,h2,h3⟩:=id h
   by_cases c:Kr r p n<Kr r p (n-1)
   ·have dn:∀ p' : Array Nat,(∀ k,Kr r p' k=Kr r p k)->Down r p' (n+1) 0:=fun p' e=>by
     refine⟨fun i hi hn=>?_,by lia,fun i hi hn=>by rw[show i=n+1-1 by lia]⟩
     rw[e,e]
     by_cases z:i=n
     ·rw[z];lia
     ·exact h1 i hi (by lia)
    have e0:∀(T1 T2:KasT (Array Nat×Nat×Nat)),SRun r (KasT.ask (p.getD n 0) (p.getD (n-1) 0) fun c=>if c=true then T1 else T2)=SRun r T1:=fun T1 T2=>by
     show SRun r (if decide (Kr r p n<Kr r p (n-1))=true then T1 else T2)=_
     rw[if_pos (cD c)]
    rw[e0]
    by_cases hq:q > 0
    ·rw[if_pos hq];have ih:=mF f (p:=kas_rev p (n-(q+1)) n) (n:=n+1) (q:=0) (by rw[lQ];lia) (dn _ (h.rev (by lia)))
     rw[lQ]at ih;exact⟨ih.1,by lia,by lia,ih.2.2.2⟩
    ·rw[if_neg hq];have ih:=mF f (p:=p) (n:=n+1) (q:=0) (by lia) (dn _ fun _=>rfl)
     exact⟨ih.1,by lia,by lia,ih.2.2.2⟩
   ·have e0:∀(T1 T2:KasT (Array Nat×Nat×Nat)),SRun r (KasT.ask (p.getD n 0) (p.getD (n-1) 0) fun c=>if c=true then T1 else T2)=SRun r T2:=fun T1 T2=>by
     show SRun r (if decide (Kr r p n<Kr r p (n-1))=true then T1 else T2)=_
     rw[if_neg (by simpa using c)]
    rw[e0]
    by_cases d:Kr r p (n-1)<Kr r p n
    ·have e1:∀(T1 T2:KasT (Array Nat×Nat×Nat)),SRun r (KasT.ask (p.getD (n-1) 0) (p.getD n 0) fun c=>if c=true then T1 else T2)=SRun r T1:=fun T1 T2=>by
      show SRun r (if decide (Kr r p (n-1)<Kr r p n)=true then T1 else T2)=_
      rw[if_pos (cD d)]
     rw[e1];exact⟨rfl,Nat.le_refl n,Nat.le_add_right _ _,h⟩
    ·have e1:∀(T1 T2:KasT (Array Nat×Nat×Nat)),SRun r (KasT.ask (p.getD (n-1) 0) (p.getD n 0) fun c=>if c=true then T1 else T2)=SRun r T2:=fun T1 T2=>by
      show SRun r (if decide (Kr r p (n-1)<Kr r p n)=true then T1 else T2)=_
      rw[if_neg (by simpa using d)]
     rw[e1];have ih:=mF f (p:=p) (n:=n+1) (q:=q+1) (by lia) ⟨fun i hi hn=>by
      by_cases z:i=n
      ·rw[z];lia
      ·exact h1 i hi (by lia),by lia,fun i hi hn=>by
      rw[show n+1-1=n by lia]
      by_cases z:i=n
      ·rw[z]
      ·have:=h3 i (by lia) (by lia)
       lia⟩
     exact⟨ih.1,by lia,by lia,ih.2.2.2⟩
def Aj(r:Nat->Int)(n:Nat)(x:Nat×Array Nat):Prop:=x.2.size=n/\1<=x.1/\x.1<=n/\Up r x.2 x.1
theorem Ak{n nrem:Nat}{p:Array Nat}{q:Nat}(h:Down r p n q)(hn:1<=n)(hle:n<=nrem)(hs:p.size=nrem):Aj r nrem (SRun r (kas_tail3 n nrem p)):=by
 have up:Up r (kas_rev p 0 n) n:=fun i hi hi2=>by
  rw[yh (by lia),yh (by lia),if_pos (by lia),if_pos (by lia)]
  have:=h.1 (0+n-1-(i-1)) (by lia) (by lia)
  rw[show 0+n-1-(i-1)-1=0+n-1-i by lia]at this
  exact this
 have a:=BW (nrem-n) n hn up;unfold kas_tail3;rw[iR];exact⟨by show(kas_rev p 0 n).size=nrem;rw[lQ,hs],by show 1<=SRun r _;lia,by show SRun r _<=nrem;lia,a.2.2.1⟩
theorem Down.congr{p p' : Array Nat}{n q:Nat}(h:Down r p n q)(e:∀ k,Kr r p' k=Kr r p k):Down r p' n q:=⟨fun i h1 h2=>by rw[e,e];exact h.1 i h1 h2,h.2.1,fun i h1 h2=>by rw[e,e];exact h.2.2 i h1 h2⟩
theorem Al{n nrem:Nat}{p:Array Nat}(hn:1<=n)(hle:n+1<=nrem)(hs:p.size=nrem)(heq:∀ i,i<n->Kr r p i=Kr r p (n-1))(hlt:Kr r p n<Kr r p (n-1)):Aj r nrem (SRun r (kas_descPart n nrem p)):=by
 have d0:Down r p (n+1) 0:=⟨fun i h1 h2=>by
  by_cases z:i=n
  ·rw[z];lia
  ·rw[heq i (by lia),heq (i-1) (by lia)]
   exact Int.le_refl _,by lia,fun i h1 h2=>by rw[show i=n+1-1 by lia]⟩
 have d:=mF (nrem-(n+1)) (p:=p) (n:=n+1) (q:=0) (by lia) d0
 unfold kas_descPart;rw[iR];generalize SRun r (kas_desc (nrem-(n+1)) p (n+1) 0)=x at d;obtain⟨d1,d2,d3,d4⟩:=d
 by_cases hq:x.2.2 > 0
 ·rw[if_pos hq];exact Ak (d4.congr (d4.rev (by lia))) (by lia) (by lia) (by rw[lQ,d1,hs])
 ·rw[if_neg hq];exact Ak d4 (by lia) (by lia) (by rw[d1,hs])
theorem ET{nrem:Nat}{p:Array Nat}(h1:1<=nrem)(hs:p.size=nrem):Aj r nrem (SRun r (kas_count nrem p)):=by
 have a:=BW (r:=r) (p:=p) (nrem-1) 1 (Nat.le_refl 1) (fun i hi hn=>by lia)
 unfold kas_count;rw[iR];generalize SRun r (kas_asc p (nrem-1) 1)=n at a;obtain⟨a1,a2,a3,a4⟩:=a
 by_cases e:(n==nrem)=true
 ·rw[if_pos e];exact⟨hs,a1,by show n<=nrem;lia,a3⟩
 ·rw[if_neg e];have e:n≠nrem:=by simpa using e
  have hlt:=a4 (by lia)
  by_cases h2:n > 1
  ·rw[if_pos h2]
   by_cases c:Kr r p 0<Kr r p (n-1)
   ·show Aj r nrem (SRun r (if decide (Kr r p 0<Kr r p (n-1))=true then _ else _))
    rw[if_pos (cD c)];exact⟨hs,a1,by show n<=nrem;lia,a3⟩
   ·show Aj r nrem (SRun r (if decide (Kr r p 0<Kr r p (n-1))=true then _ else _))
    rw[if_neg (by simpa using c)]
    have all:∀ i,i<n->Kr r p i=Kr r p (n-1):=fun i hi=>by
     have l1:=a3.le (show 0<=i by lia) hi
     have l2:=a3.le (show i<=n-1 by lia) (by lia)
     lia
    have er:∀ k,Kr r (kas_rev p 0 n) k=Kr r p k:=fun k=>by
     rw[yh (by lia)]
     split
     ·rw[all _ (by lia),all k (by lia)]
     ·rfl
    exact Al a1 (by lia) (by rw[lQ,hs]) (fun i hi=>by rw[er,er];exact all i hi) (by rw[er,er];exact hlt)
  ·rw[if_neg h2];have e1:n=1:=by lia
   subst e1;exact Al a1 (by lia) hs (fun i hi=>by rw[show i=1-1 by lia]) hlt
theorem uK{p:Array Nat}{k:Nat}(up:Up r p k):∀(f l u:Nat),u-l<=f->l<=u->u<=k->(∀ i,i<l->Kr r p i<=Kr r p k)->(∀ i,u<=i->i<k->Kr r p k<Kr r p i)->
 SRun r (kas_place p k f l u)<=k/\(∀ i,i<SRun r (kas_place p k f l u)->Kr r p i<=Kr r p k)/\∀ i,SRun r (kas_place p k f l u)<=i->i<k->Kr r p k<Kr r p i
 | 0,l,u,hf,hlu,huk,h1,h2=>by
   rw[kas_place.eq_1];have e:l=u:=by lia
   subst e;exact⟨huk,h1,h2⟩
 | f+1,l,u,hf,hlu,huk,h1,h2=>by
   rw[kas_place.eq_2]
   by_cases hx:l ≥ u
   ·rw[if_pos hx];have e:l=u:=by lia
    subst e;exact⟨huk,h1,h2⟩
   ·rw[if_neg hx]
    by_cases c:Kr r p k<Kr r p ((l+u)/2)
    ·have e0:∀(T1 T2:KasT Nat),SRun r (KasT.ask (p.getD k 0) (p.getD ((l+u)/2) 0) fun c=>if c=true then T1 else T2)=SRun r T1:=fun T1 T2=>by
      show SRun r (if decide (Kr r p k<Kr r p ((l+u)/2))=true then T1 else T2)=_
      rw[if_pos (cD c)]
     rw[e0];exact uK up f l ((l+u)/2) (by lia) (by lia) (by lia) h1 fun i hi hk=>by
      have:=up.le hi hk
      lia
    ·have e0:∀(T1 T2:KasT Nat),SRun r (KasT.ask (p.getD k 0) (p.getD ((l+u)/2) 0) fun c=>if c=true then T1 else T2)=SRun r T2:=fun T1 T2=>by
      show SRun r (if decide (Kr r p k<Kr r p ((l+u)/2))=true then T1 else T2)=_
      rw[if_neg (by simpa using c)]
     rw[e0];exact uK up f ((l+u)/2+1) u (by lia) (by lia) huk (fun i hi=>by
      have:=up.le (show i<=(l+u)/2 by lia) (by lia)
      lia) h2
theorem IA:∀(f:Nat) {p:Array Nat} {k:Nat},k+f<=p.size->Up r p k->Up r (SRun r (kas_bin f p k)) (k+f)
 | 0,p,k,_,h=>by
   rw[kas_bin.eq_1];exact h
 | f+1,p,k,hs,h=>by
   rw[kas_bin.eq_2,iR];have pl:=uK h k 0 k (by lia) (by lia) (Nat.le_refl k) (fun i hi=>by lia) (fun i h1 h2=>by lia)
   generalize SRun r (kas_place p k k 0 k)=l at pl;obtain⟨p1,p2,p3⟩:=pl;have up:Up r (bubble p k (k-l)) (k+1):=fun i hi hk=>by
    rw[Iz (by lia) (by lia),Iz (by lia) (by lia),show k-(k-l)=l by lia]
    by_cases c1:i=l
    ·rw[if_neg (by lia),if_neg (by lia),if_pos c1]
     exact p2 (i-1) (by lia)
    ·rw[if_neg c1]
     by_cases c2:l<i/\i<=k
     ·rw[if_pos c2]
      by_cases c3:i-1=l
      ·rw[if_pos c3];exact Int.le_of_lt (p3 (i-1) (by lia) (by lia))
      ·rw[if_neg c3,if_pos (by lia)]
       exact h (i-1) (by lia) (by lia)
     ·rw[if_neg c2,if_neg (by lia),if_neg (by lia)]
      exact h i hi (by lia)
   have:=IA f (p:=bubble p k (k-l)) (k:=k+1) (by rw[bubble_size];lia) up
   rw[show k+(f+1)=k+1+f by lia]
   exact this
theorem DI{n:Nat}(hn:1<=n):Up r (SRun r (kas_sort n)) n:=by
 unfold kas_sort;rw[iR];have c:=ET (r:=r) (p:=List.toArray (List.range n)) hn (by simp)
 generalize SRun r (kas_count n (List.toArray (List.range n)))=x at c;obtain⟨c1,c2,c3,c4⟩:=c
 by_cases hx:x.1<n
 ·rw[if_pos hx];have:=IA (n-max x.1 1) (p:=x.2) (k:=max x.1 1) (by lia) (by rw[show max x.1 1=x.1 by lia];exact c4)
  rw[show max x.1 1+(n-max x.1 1)=n by lia]at this
  exact this
 ·rw[if_neg hx];have e:x.1=n:=by lia
  rw[e]at c4;exact c4
end
theorem yi:bootBuiltins "sorted"=some (.builtin "sorted"):=by kernel_rfl
def kx(z:Int×Int):Int:=z.1*1073741824+z.2
def Lg(z:Int×Int):Prop:=0<=z.2/\z.2<1073741824
section
variable {X:Cx}{pq:aR}{σ:St}{H H2:Hp}{s:Shared}
theorem Inv.Lh{a:Addr}{xs:List V}{ob:Obj}(I:Inv X pq σ H s)(e:H a=some (.lst xs))(ho:s.heap.get? a=some ob):Inv X pq σ (upd H a (.k9 ob (.lst xs))) s:=by
 have ne:∀ b,H b=none->b≠a:=fun b h z=>by rw[z,e]at h;cases h
 refine⟨I.ok,I.os,I.bare,⟨I.base.keep,I.base.slot,fun b o q n hx=>?_,I.base.there,fun b xs q=>?_,fun b o u q=>?_,fun b ps q=>?_⟩,I.loc,I.cell,?_,fun x c q=>?_,fun p hp=>?_,fun b u q=>?_,I.len⟩
 ·have z:=I.base.free b o q n hx;rw[ao (ne b z)];exact z
 ·have z:=I.base.tups b xs q;rw[ao (aS z e (by intro z;cases z))]
  exact z
 ·have z:=I.base.jZ b o u q;rw[ao (aS z e (by intro z;cases z))]
  exact z
 ·obtain⟨more,z⟩:=I.base.lg b ps q;exact⟨more,by rw[ao (aS z e (by intro z;cases z))];exact z⟩
 ·rw[ao (ne _ I.free)];exact I.free
 ·rw[ao (ne _ (I.eZ x c q))];exact I.eZ x c q
 ·obtain⟨a1,a2,a3⟩:=I.pin p hp;exact⟨a1,by rw[ao (ne _ a2)];exact a2,a3⟩
 ·by_cases hb:b=a
  ·subst hb;rw[ae]at q;cases q;exact⟨ho,(I.hok b _ e).stay (fun _ _ _ q=>q) (fun c q=>by rw[ao (aS q e (by intro z;cases z))];exact q) fun c xs q=>by rw[ao (aS q e (by intro z;cases z))];exact q⟩
  ·rw[ao hb]at q;exact(I.hok b u q).stay (fun _ _ _ q=>q) (fun c q=>by rw[ao (aS q e (by intro z;cases z))];exact q) fun c xs q=>by rw[ao (aS q e (by intro z;cases z))];exact q
theorem Inv.Qv{uB:aR}{σ0:St}{s0:Shared}{a:Addr}{xs:List V}{ob:Obj}(I0:Inv X uB σ0 H s0)(e0:H a=some (.lst xs))(I:Inv X pq σ H2 s)(e:H2 a=some (.k9 ob (.lst xs))):
 Inv X pq σ (upd H2 a (.lst xs)) s:=by
 have ne:∀ b,H2 b=none->b≠a:=fun b h z=>by rw[z,e]at h;cases h
 obtain⟨ho,hd⟩:=(show bz X.prog X.w H2 s.heap a (.k9 ob (.lst xs)) from I.hok a _ e)
 refine⟨I.ok,I.os,I.bare,⟨I.base.keep,I.base.slot,fun b o q n hx=>?_,I.base.there,fun b xs q=>?_,fun b o u q=>?_,fun b ps q=>?_⟩,I.loc,I.cell,?_,fun x c q=>?_,fun p hp=>?_,fun b u q=>?_,I.len⟩
 ·have z:=I.base.free b o q n hx;rw[ao (ne b z)];exact z
 ·have z:=I.base.tups b xs q;rw[ao (aS z e (by intro z;cases z))]
  exact z
 ·have z:=I.base.jZ b o u q;rw[ao (fun y=>by
   have z0:=I0.base.jZ b o u q;rw[y,e0]at z0;cases z0)]
  exact z
 ·obtain⟨more,z⟩:=I.base.lg b ps q;exact⟨more,by rw[ao (aS z e (by intro z;cases z))];exact z⟩
 ·rw[ao (ne _ I.free)];exact I.free
 ·rw[ao (ne _ (I.eZ x c q))];exact I.eZ x c q
 ·obtain⟨a1,a2,a3⟩:=I.pin p hp;exact⟨a1,by rw[ao (ne _ a2)];exact a2,a3⟩
 ·by_cases hb:b=a
  ·subst hb;rw[ae]at q;cases q;exact hd.stay (fun _ _ _ q=>q) (fun c q=>by rw[ao (aS q e (by intro z;cases z))];exact q) fun c xs q=>by rw[ao (aS q e (by intro z;cases z))];exact q
  ·rw[ao hb]at q;exact(I.hok b u q).stay (fun _ _ _ q=>q) (fun c q=>by rw[ao (aS q e (by intro z;cases z))];exact q) fun c xs q=>by rw[ao (aS q e (by intro z;cases z))];exact q
end
def xw(h:Heap)(v:Value)(z:Int×Int):Prop:=∃(a:Addr) (o:Obj) (t u:Tok) (k:Nat),v = .ref a/\h.get? a=some o/\o.cls = .type "tuple"/\o.data = .seq #[.int z.1 t,.int z.2 u] k
theorem xw.pair{h:Heap}{v:Value}{z:Int×Int}(q:xw h v z):L5 h v:=let⟨a,o,t,u,k,q⟩:=q;⟨a,o,z.1,z.2,t,u,k,q⟩
theorem xx{prog:Program}{w:World}{A:Around}{s:Shared}{vs:List Value}{n:Nat}{zs:Nat->Int×Int}(hz:∀ i,i<n->Lg (zs i))(hv:∀ i,i<n->xw s.heap (vs.getD i Value.none) (zs i)):
 ∀ i j C,i<n->j<n->C (decide (kx (zs i)<kx (zs j))) s->kas_ask prog w A (tuples' true) vs i j C s:=by
 intro i j C hi hj hC;unfold kas_ask;obtain⟨a,o,t,u,k,e,ho,_,hd⟩:=hv i hi;obtain⟨a',o',t',u',k',e',ho',_,hd'⟩:=hv j hj;have oi:=hz i hi;have oj:=hz j hj;generalize zs i=z at hd hC oi;generalize zs j=z' at hd' hC oj;obtain⟨x,y⟩:=z;obtain⟨x',y'⟩:=z';unfold kx at hC;unfold Lg at oi oj;dsimp only at hd hd' hC oi oj;rw[e,e'];refine kat_lt ho hd ho' hd' ?_;show KatLex prog w A true _ C [(.int x t,.int x' t'),(.int y u,.int y' u')] 0 s;rw[KatLex.eq_2];refine wpAny_eqBool_int ?_
 by_cases ex:x=x'
 ·rw[show(x==x')=true by simpa using ex]
  rw[if_pos rfl,KatLex.eq_2];refine wpAny_eqBool_int ?_
  by_cases ey:y=y'
  ·rw[show(y==y')=true by simpa using ey]
   rw[if_pos rfl,KatLex.eq_1];rw[cR (by lia)]at hC
   exact hC
  ·rw[show(y==y')=false by simpa using ey]
   rw[if_neg Bool.false_ne_true];refine kat_one _ _ (lt_int ?_);have e2:decide (y<y')=decide (x*1073741824+y<x'*1073741824+y'):=decide_eq_decide.mpr (by lia)
   rw[<-e2]at hC;exact hC
 ·rw[show(x==x')=false by simpa using ex]
  rw[if_neg Bool.false_ne_true];refine oneLt_int ?_;have e2:decide (x<x')=decide (x*1073741824+y<x'*1073741824+y'):=decide_eq_decide.mpr (by lia)
  rw[<-e2]at hC;exact hC
def NQ(P:Addr)(q:Str)(lp:Pos)(ta:TA)(te:TE)(js:List Nat):TE:=fun σ H Q=>ta σ H fun vs H1=>∃(a:Addr) (ns:List Int) (kf:Int->Int×Int),vs=[.ref a]/\H1 a=some (.lst (ns.map V.int))/\ns.length<64/\(∀ n∈ns,Lg (kf n))/\H1 P=some (.jJ (fc q lp))/\
 (∀ H3,(∀ b u,H1 b=some u->(∀ y,u≠.own y)->(∀ qs,u≠.jJ qs)->H3 b=some u)->∀ n∈ns,te (some (.int n)::eW σ js) H3 fun v H4=>au H3 H4/\∃ d,v = .ref d/\H4 d=some (.tup [.int (kf n).1,.int (kf n).2]))/\
 ∀(l:Addr) (ns' : List Int) H4,H1 l=none->au H1 H4->H4 l=some (.lst (ns'.map V.int))->ns'.Perm ns->ns'.Pairwise (fun x y=>kx (kf x)<=kx (kf y))->Q (.ref l) H4
section
variable {X:Cx}{pq:aR}{σ:St}{H2:Hp}
theorem EU{A:Around}{E:di}{P:PySem.Fin->Shared->Prop}{s:Shared}{H3:Hp}{D kS:Addr}{e e1:Nat}{its:List Value}{ns:List Int}{ds:List Addr}{kf:Int->Int×Int}
 (I:Inv X ((kS,seqObj "list" (ds.map Value.ref).toArray e)::pq) σ H3 s) (oK:BQ X kS) (pK:∀ p∈pq,p.1≠kS) (hD:H3 D=some (.k9 (seqObj "list" #[] e1) (.lst []))) (rv:Vals (ns.map V.int) its) (hn:ns.length<64) (hdl:ds.length=ns.length)
 (hk:∀(j:Nat) d n,ds[j]?=some d->ns[j]?=some n->H3 d=some (.tup [.int (kf n).1,.int (kf n).2])) (hok:∀ n∈ns,Lg (kf n))
 {uB:aR} {σ0:St} {s0:Shared} {H0:Hp} (I0:Inv X uB σ0 H0 s0) (e0:H0 D=some (.lst []))
 (fin:∀(s' : Shared) (ns' : List Int),ns'.Perm ns->ns'.Pairwise (fun x y=>kx (kf x)<=kx (kf y))->Inv X pq σ (upd (upd H3 D (.lst [])) D (.lst (ns'.map V.int))) s'->P (.done (.ret .none)) s') :
 wpAny (model X.prog X.w) A (ksk_end D false its.toArray e1 (.ref kS) ((ds.map Value.ref).toArray)) P E s:=by
 have hl:its.length=ns.length:=by have:=rv.length;rw[List.length_map]at this;lia
 obtain⟨Yw,_⟩:=(show bz X.prog X.w H3 s.heap D (.k9 (seqObj "list" #[] e1) (.lst [])) from I.hok D _ hD)
 have BX:=I.pin (kS,seqObj "list" (ds.map Value.ref).toArray e) (gZ _ (.head _));have Yx:D≠kS:=fun z=>by
  have:=BX.2.1;rw[<-z,hD]at this;cases this
 have tail:∀(st:SortSt) (ns' : List Int) (out:List Value),(arrOf st).map (·.2)=out.toArray->out.length<64->failedOf st=none->ns'.Perm ns->ns'.Pairwise (fun x y=>kx (kf x)<=kx (kf y))->Vals (ns'.map V.int) out->wpAny (model X.prog X.w) A (ksk_tail D false e1 (.ref kS) st) P E s:=by
  intro st ns' out hout hz hf hp hs hv;have s1:=Heap.SameBut.update s.heap kS (Obj.mapSeq fun _=>(#[]:Array Value))
  have mX:(s.heap.update kS (Obj.mapSeq fun _=>(#[]:Array Value))).get? D=some (seqObj "list" #[] e1):=(s1.2 D Yx).trans Yw
  have s2:=Heap.SameBut.update (s.heap.update kS (Obj.mapSeq fun _=>(#[]:Array Value))) D (Obj.mapSeq fun _=>out.toArray)
  obtain⟨c2,hc2⟩:∃ c2,((s.heap.update kS (Obj.mapSeq fun _=>(#[]:Array Value))).update D (Obj.mapSeq fun _=>out.toArray)).get? D=some (seqObj "list" out.toArray c2):=⟨_,get?_update_seq mX fun _=>out.toArray⟩
  unfold ksk_tail
  try dsimp only
  rw[hout];refine aP (listUpdate_at BX.1 rfl ?_ (by rw[List.size_toArray,List.length_map,sizeLine_eq];lia) (Nat.zero_le _))
  refine aP (wpAny_letGo ?_);refine aP (seqEpoch_at mX rfl ?_);refine aP (listUpdate_at mX rfl ?_ (Nat.zero_le _) (by show out.toArray.size<=_;rw[List.size_toArray,sizeLine_eq];lia))
  rw[hf];simp only[bne_self_eq_false,Bool.false_eq_true,if_false];have J1:=I.jo (t':=s.toks) (h':=s.heap.update kS (Obj.mapSeq fun _=>(#[]:Array Value))) (pb:=pq) oK (.head _) (fun c u ne e=>(s1.2 c ne).trans e) (fun p hp=>.inr ⟨.tail _ hp,pK p hp⟩)
  have J2:=Inv.Qv I0 e0 J1 hD;have J3:=J2.write (x:=D) (e:=D) (o:=.lst (ns'.map V.int)) (t':=s.toks) (h':=(s.heap.update kS (Obj.mapSeq fun _=>(#[]:Array Value))).update D (Obj.mapSeq fun _=>out.toArray)) (by rw[ae];trivial) (.inl rfl) (fun b u nb eb=>(s2.2 b nb).trans eb) ⟨_,hc2⟩
   ⟨by rw[List.length_map,hp.length_eq,sizeLine_eq];lia,out,c2,hv,hc2⟩
  exact wpAny_pure (fin _ ns' hp hs J3)
 by_cases h2:2<=ns.length
 ·have kv:∀ i,i<its.length->xw s.heap ((ds.map Value.ref).getD i Value.none) (kf (ns.getD i 0)):=fun i hi=>by
   have e1:ds[i]?=some (ds[i]'(by lia)):=List.getElem?_eq_getElem _
   have e2:ns[i]?=some (ns[i]'(by lia)):=List.getElem?_eq_getElem _
   have hd:=hk i _ _ e1 e2;obtain⟨ts,rt,⟨o,eo,hc,n,hdt⟩,_⟩:=I.tuple (aQ.of hd);have g1:(ds.map Value.ref).getD i Value.none = .ref (ds[i]'(by lia)):=by rw[List.getD_eq_getElem?_getD,List.getElem?_map,e1];rfl
   have g2:ns.getD i 0=ns[i]'(by lia):=by rw[List.getD_eq_getElem?_getD,e2];rfl
   rw[g1,g2]
   match ts,rt with
   | [_,_],.cons ⟨t,rfl⟩ (.cons ⟨u,rfl⟩ .nil)=>exact⟨_,o,t,u,n,rfl,eo,hc,hdt⟩
  have kz:∀ i,i<its.length->Lg (kf (ns.getD i 0)):=fun i hi=>by
   have e2:ns[i]?=some (ns[i]'(by lia)):=List.getElem?_eq_getElem _
   rw[List.getD_eq_getElem?_getD,e2];exact hok _ (List.getElem_mem _)
  have hlk:(ds.map Value.ref).length=its.length:=by rw[List.length_map];lia
  have hn2 : ¬ its.toArray.size<2:=by rw[List.size_toArray];lia
  unfold ksk_end
  try dsimp only
  rw[if_neg Bool.false_ne_true,if_neg hn2,if_neg hn2,if_neg Bool.false_ne_true];refine aP (w4 (by rw[List.length_map];lia) (fun v hv=>?_) ?_)
  ·obtain⟨i,hi,rfl⟩:=List.mem_iff_getElem.mp hv;have:=(kv i (by lia)).pair
   rw[List.getD_eq_getElem?_getD,List.getElem?_eq_getElem hi]at this;exact this
  refine aP (wpAny_mono (kat_run (Q:=fun st' s'=>s' = s/\∃ p:Array Nat,c5 its.length p/\Up (fun i=>kx (kf (ns.getD i 0))) p its.length/\(arrOf st').map (·.2)=(p.toList.map fun i=>its.getD i Value.none).toArray/\failedOf st' = none) (G:=fun p s'=>s' = s/\c5 its.length p/\Up (fun i=>kx (kf (ns.getD i 0))) p its.length)
   hlk (by lia) (by lia) (fun p st' s' a1 a2 a3 a4=>⟨a4.1,p,a4.2.1,a4.2.2,kat_snds hlk a2,a3⟩) ?_) ?_ fun _ _ x=>x)
  ·exact yg (r:=fun i=>kx (kf (ns.getD i 0))) (n:=its.length) (xx kz kv) (DA (by lia)) fun hg=>⟨rfl,hg,DI (by lia)⟩
  ·rintro⟨⟨⟩,st'⟩ s' ⟨rfl,p,hg,hu,har,hf⟩
   try dsimp only
   have hpl:p.toList.length=its.length:=by have:=hg.length_eq;rw[List.length_range]at this;exact this
   refine tail st' (p.toList.map fun i=>ns.getD i 0) _ har (by rw[List.length_map];lia) hf ?_ ?_ ?_
   ·have h1:=List.Perm.map (fun i=>ns.getD i 0) hg
    have h3:(List.range its.length).map (fun i=>ns.getD i 0)=ns:=by
     rw[hl];refine List.ext_getElem (by simp) fun i h1 h2=>?_
     simp[List.getD_eq_getElem?_getD,List.getElem?_eq_getElem h2]
    rw[h3]at h1;exact h1
   ·rw[List.pairwise_map,List.pairwise_iff_getElem];intro i j hi hj hij;have:=hu.le (Nat.le_of_lt hij) (by lia)
    have ga:∀ i (hi:i<p.toList.length),p.getD i 0=p.toList[i]:=fun i hi=>by
     rw[Array.getD_eq_getD_getElem?,<-Array.getElem?_toList,List.getElem?_eq_getElem hi];rfl
    unfold Kr at this;rw[ga i hi,ga j hj]at this;exact this
   ·have:∀ l:List Nat,(∀ i∈l,i<ns.length)->Vals ((l.map fun i=>ns.getD i 0).map V.int) (l.map fun i=>its.getD i Value.none):=fun l=>by
     induction l with
     | nil=>exact fun _=>.nil
     | cons i l ih =>
       intro h;refine .cons ?_ (ih fun j hj=>h j (jY _ hj))
       have hi:=h i List.mem_cons_self;have h1:(ns.map V.int)[i]?=some (.int (ns.getD i 0)):=by
        rw[List.getElem?_map,List.getD_eq_getElem?_getD,List.getElem?_eq_getElem hi];rfl
       obtain⟨u,hu,ru⟩:=rv.get h1;have gu:its.getD i Value.none=u:=by rw[List.getD_eq_getElem?_getD,hu];rfl
       show RelV (V.int (ns.getD i 0)) (its.getD i Value.none);rw[gu];exact ru
    refine this _ fun i hi=>?_
    have:=List.mem_range.mp (hg.mem_iff.mp hi)
    lia
 ·have hn2:its.toArray.size<2:=by rw[List.size_toArray];lia
  unfold ksk_end
  try dsimp only
  rw[if_neg Bool.false_ne_true,if_pos hn2,if_pos hn2,if_neg Bool.false_ne_true];refine aP (wpAny_pure ?_);refine aP (m:=pure ((),SortSt.mk' general' (((ds.map Value.ref).toArray).zip its.toArray) #[] 7 none)) (wpAny_pure ?_);refine tail _ ns its ?_ (by lia) rfl (List.Perm.refl _) ?_ rv
  ·show Array.map (fun x:Keyed=>x.snd) (((ds.map Value.ref).toArray).zip its.toArray)=its.toArray
   apply Array.toList_inj.mp;simp;exact List.map_snd_zip (by rw[List.length_map];lia)
  ·match ns,h2 with
   | [],_=>exact .nil
   | [x],_=>exact List.pairwise_singleton _ _
   | _::_::_,h2=>exact absurd (by simp:2<=_) h2
end
section
variable {X:Cx}{params:Arguments}{body e:Expr}{scope:Scope}{lp p pos kp:Pos}{fq:List Str}{js:List Nat}{x:Str}{ta:TA}{te:TE}{c0 P:Addr}{k:Nat}
theorem IB(hr:eV (k+3) X.A)(T:dw X scope [x] fq js)(hx:scope.names.lookup x=some .local)(hg:Gl X "sorted")(hm:X.mg "sorted"=none)(hcode:X.env.code = .ref c0)(hK:PySem.W.codeHdIn X.K c0 P=true)(ha:PA X [e] ta)
 (he:∀ f c s H,eV k (uC X ([x]++fq) scope f c X.A.in1.in1 s H).A->PE (uC X ([x]++fq) scope f c X.A.in1.in1 s H) body te)
 (hb:∀ c ctv u,bindArgs (Aa X params body scope c ctv) ⟨[u],[]⟩=pure [(x,u)]:=by intro _ _ _;rfl) (hco:scope.isCoroutine=false:=by rfl) (hgen:scope.isGenerator=false:=by rfl)
 (hdef:defaultsOf params X.env=([],[]):=by rfl)
 (hs:backTo pos (starEach [e] X.env)=(false,eval e X.env)::backTo pos (starEach [] X.env):=by rfl) (hs2:(backTo pos (starEach [e] X.env)).any (·.1)=false:=by rfl) :
 PE X (.Call (.Name "sorted" p) [e] [⟨some (Str.ofString "key"),.Lambda params body scope lp,kp⟩] pos) (NQ P (X.env.qual ++ "<lambda>") lp ta te js):=by
 intro pq s σ H Q I h;refine wpAny_Call_Name_kw (lq I hg hm yi (callWith_kw (cK (ha pos pq s σ H _ I h) fun us s1 hq=>?_) hs hs2 rfl rfl))
 obtain⟨vs,H1,I1,r1,a,ns,kf,rfl,hda,h64,hok,hP,hturn,ND⟩:=hq;obtain⟨u,rfl,rx⟩:=vals1 r1;cases rx;refine kws_cons (Ab I1 T hcode hK hP hdef fun f c oc ctv s2 hc Ac hoc J=>kws_nil ?_)
 show wpAny _ X.A (call (.builtin "sorted") [.ref a] [(Str.ofString "key",.ref f)]) _ _ s2;have hla:=sQ (oc:=oc) hP hc hda (by intro y z;cases z) (by intro y z;cases z)
 have NF:fH H1 P c oc (X.env.qual ++ "<lambda>") lp P=some (.jJ (fc (X.env.qual ++ "<lambda>") lp++mW lp c)):=ae;have Lc:fH H1 P c oc (X.env.qual ++ "<lambda>") lp c=some (.k9 oc (.own P)):=by unfold fH;rw[ao Ac,ae]
 have Mg:∀ b,fH H1 P c oc (X.env.qual ++ "<lambda>") lp b=none->H1 b=none:=fun b hb=>by
  have bP:b≠P:=fun z=>by rw[z,NF]at hb;cases hb
  have bc:b≠c:=fun z=>by rw[z,Lc]at hb;cases hb
  unfold fH at hb
  rwa [ao bP,ao bc]at hb
 have VD:∀ b u,H1 b=some u->(∀ y,u≠.own y)->(∀ qs,u≠.jJ qs)->fH H1 P c oc (X.env.qual ++ "<lambda>") lp b=some u:=fun b u eb n1 n2=>sQ hP hc eb n1 n2
 generalize Yy:fH H1 P c oc (X.env.qual ++ "<lambda>") lp=HL at J hla NF Lc Mg VD;obtain⟨its,rv,⟨o,n,ho,hcl,hdt,hd⟩,hz⟩:=J.list (aK.of hla);have hl:=rv.length;rw[List.length_map]at hl;have hsl:its.length<=sizeLine:=dl (Nat.ble_eq.mpr (by lia))
 refine call_function_entry_kw kind_sorted plain_sorted entry_sorted (ksk_s1 _ _) ?_;unfold Builtin.«sorted»;refine aP (m:=checkCount "sorted" 1 1 _) (wpAny_pure ?_);refine aP (wpAny_collect_seq a (T:="list") (.inl rfl) ho hcl hd (fun h1 hk=>?_) (by rw[List.size_toArray];exact hsl))
 have J1:=J.kept (t':=s2.toks) hk;have hfr:HL h1.objs.size=none:=J1.hok.fresh (Nat.le_refl _);refine aP (wpAny_newList ?_ (by simpa using hsl))
 have e0:its.toArray.toList=its:=by simp
 rw[e0];have A1:(h1.push (seqObj "list" its.toArray 0)).get? h1.objs.size=some (seqObj "list" its.toArray 0):=Heap.get?_push_size _ rfl;have J2:Inv X ((f,dO X params body scope c ctv)::pq) σ (upd HL h1.objs.size (.lst (ns.map V.int))) { s2 with heap:=h1.push (seqObj "list" its.toArray 0)}:=by
  refine J1.laid (t':=s2.toks) (fun b o hb=>?_) (Nat.le_refl _) ⟨?_,its,0,rv,A1⟩
  ·rw[Heap.get?_push_ne _ _ _ (Nat.ne_of_lt (Heap.lt_size hb))];exact hb
  ·rw[List.length_map,hl];exact hsl
 generalize hDd:h1.objs.size=D at hfr A1 J2;refine aP (wpAny_holding (wpAny_call_entry_kw slot_list_sort ⟨_,A1,rfl⟩ entry_list_sort ?body (ksk_l1 _ _)));show wpAny (model X.prog X.w) X.A.in1.in1 (Builtin.«list.sort» ⟨[.ref D],[(Str.ofString "key",.ref f)]⟩) _ _ _;rw[ksk_t1];generalize h1.push (seqObj "list" its.toArray 0)=h2 at A1 J2;have s1':=Heap.SameBut.update h2 D (Obj.mapSeq fun _=>(#[]:Array Value))
 obtain⟨e1,JC⟩:∃ e1,(h2.update D (Obj.mapSeq fun _=>(#[]:Array Value))).get? D=some (seqObj "list" #[] e1):=⟨_,get?_update_seq A1 fun _=>#[]⟩
 unfold ksk_tree;refine aP (listItems_at A1 rfl ?_);refine aP (listUpdate_at A1 rfl ?_ (by rw[List.size_toArray];exact hsl) (Nat.zero_le _))
 refine aP (seqEpoch_at JC rfl ?_);refine aP (wpAny_newTuple ?_ (by show its.toArray.toList.length<=_;rw[e0];exact hsl))
 refine aP (wpAny_newList ?_ (Nat.zero_le _));refine wpAny_holding ?_;have J3:=J2.write (x:=D) (e:=D) (o:=.lst []) (t':=s2.toks) (h':=h2.update D (Obj.mapSeq fun _=>(#[]:Array Value))) (by rw[ae];trivial) (.inl rfl) (fun b u nb eb=>(s1'.2 b nb).trans eb) ⟨_,JC⟩ ⟨Nat.zero_le _,[],e1,.nil,JC⟩
 have J4:=J3.Lh (a:=D) ae JC;generalize Kn:upd (upd (upd HL D (.lst (ns.map V.int))) D (.lst [])) D (.k9 (seqObj "list" #[] e1) (.lst []))=H2 at J4;have at2:∀ b u,HL b=some u->H2 b=some u:=fun b u eb=>by
  have nb:b≠D:=fun z=>by rw[z,hfr]at eb;cases eb
  rw[<-Kn,ao nb,ao nb,ao nb];exact eb
 have gx:H2 D=some (.k9 (seqObj "list" #[] e1) (.lst [])):=by rw[<-Kn,ae]
 generalize h2.update D (Obj.mapSeq fun _=>(#[]:Array Value))=h3 at J3 J4
 rw[e0];have hkk:∀ b u,h3.get? b=some u->((h3.push (seqObj "tuple" its.toArray 0)).push (seqObj "list" #[] 0)).get? b=some u:=fun b u eb=>Heap.get?_push_of_some _ (Heap.get?_push_of_some _ eb)
 have hS:(h3.push (seqObj "tuple" its.toArray 0)).objs.size=h3.objs.size+1:=size_push' ..;have oK:=J4.Ib (b:=(h3.push (seqObj "tuple" its.toArray 0)).objs.size) (by show h3.objs.size<=_;rw[hS];exact Nat.le_succ _)
 have gK:((h3.push (seqObj "tuple" its.toArray 0)).push (seqObj "list" #[] 0)).get? (h3.push (seqObj "tuple" its.toArray 0)).objs.size=some (seqObj "list" #[] 0):=Heap.get?_push_size _ rfl;have Yz:H2 (h3.push (seqObj "tuple" its.toArray 0)).objs.size=none:=J4.hok.fresh (by show h3.objs.size<=_;rw[hS];exact Nat.le_succ _)
 have Ld:∀ q∈(f,dO X params body scope c ctv)::pq,q.1<h3.objs.size:=fun q hq=>Heap.lt_size (J4.pin q (gZ _ hq)).1
 have J5:Inv X (((h3.push (seqObj "tuple" its.toArray 0)).objs.size,seqObj "list" #[] 0)::(f,dO X params body scope c ctv)::pq) σ H2 { s2 with heap:=(h3.push (seqObj "tuple" its.toArray 0)).push (seqObj "list" #[] 0)}:=by
  have K:=J4.kept (t':=s2.toks) hkk;refine K.fR fun q hq=>?_
  rcases List.mem_cons.mp hq with rfl|hq
  ·exact⟨gK,Yz,oK.2.1,oK.2.2.1,fun v z=>by cases z⟩
  ·exact K.pin q (gZ _ hq)
 have pK:∀ q∈(f,dO X params body scope c ctv)::pq,q.1≠(h3.push (seqObj "tuple" its.toArray 0)).objs.size:=fun q hq=>by
  have:=Ld q hq;rw[hS];exact Nat.ne_of_lt (Nat.lt_succ_of_lt this)
 have VE:its.toArray.size=its.length:=List.size_toArray ..;show wpAny (model X.prog X.w) X.A.in1.in1 (ksk_rest D (.ref f) false its.toArray e1 (.ref (h3.push (seqObj "tuple" its.toArray 0)).objs.size)) _ _ { s2 with heap:=(h3.push (seqObj "tuple" its.toArray 0)).push (seqObj "list" #[] 0)}
 generalize (h3.push (seqObj "tuple" its.toArray 0)).objs.size=kS at oK J5 pK;generalize (h3.push (seqObj "tuple" its.toArray 0)).push (seqObj "list" #[] 0)=h4 at J5;unfold ksk_rest;refine aP (wpAny_rule ?_);rw[List.forIn_toArray];refine aP (ksk_fold (fun i s'=>∃ H3 ds en,au H2 H3/\Inv X ((kS,seqObj "list" ((ds.map Value.ref).toArray) en)::(f,dO X params body scope c ctv)::pq) σ H3 s'/\ds.length=i/\∀(j:Nat) d n,ds[j]?=some d->ns[j]?=some n->H3 d=some (.tup [.int (kf n).1,.int (kf n).2]))
  its 0 _ ⟨H2,[],0,au.refl _,J5,rfl,fun j d n z=>by cases z⟩ ?_ ?_)
 ·rintro j y s' hy ⟨H3,ds,en,A3,I3,hdl,hkeys⟩;rw[Nat.zero_add]at hdl ⊢;have hj:j<its.length:=(iH.mp hy).1;have VF:ns[j]?=some (ns[j]'(by lia)):=List.getElem?_eq_getElem _
  obtain⟨uu,hu,ru⟩:=rv.get (show(ns.map V.int)[j]?=some (.int (ns[j]'(by lia))) by rw[List.getElem?_map,VF];rfl)
  rw[hy]at hu;cases hu;obtain⟨hct,_⟩:=(show bz X.prog X.w H3 s'.heap c (.k9 oc (.own P)) from I3.hok c _ (A3 _ _ (at2 _ _ Lc)))
  have hroom:X.A.in1.in1.depth<recursionLimit:=((hr.in1).in1).depth;refine aP (wpAny_attempt (wpAny_mono (Af (v:=.int (ns[j]'(by lia))) I3 T hx I3.ok.frames rfl hroom (List.Mem.tail _ (.head _)) (hoc.rec hct) (hb c ctv _) hco hgen (he f c s' H3 (((hr.in1).in1).deeper _)) ru
   (hturn H3 (fun b u eb n1 n2=>A3 _ _ (at2 _ _ (VD b u eb n1 n2))) _ (List.getElem_mem _))) (fun v s3 hv=>?_) fun _ _ z=>z))
  obtain⟨w',H4,I4,rw',VG,d,rfl,YA⟩:=hv;cases rw';have BX:=I4.pin (kS,_) (gZ _ (.head _));have sb:=Heap.SameBut.update s3.heap kS (Obj.mapSeq (·.push (.ref d)));have ea:((ds.map Value.ref).toArray).push (.ref d)=((ds++[d]).map Value.ref).toArray:=by simp
  obtain⟨c2,hc2⟩:∃ c2,(s3.heap.update kS (Obj.mapSeq (·.push (.ref d)))).get? kS=some (seqObj "list" (((ds++[d]).map Value.ref).toArray) c2):=⟨_,by rw[<-ea];exact get?_update_seq BX.1 (·.push (.ref d))⟩
  try dsimp only
  refine aP (listUpdate_at BX.1 rfl ?_ (by rw[List.size_toArray,List.length_map,sizeLine_eq];lia) (Nat.le_trans (Nat.le_of_eq (Array.size_push ..)) (by rw[List.size_toArray,List.length_map,sizeLine_eq];lia)))
  refine wpAny_pure ⟨rfl,H4,ds++[d],c2,fun b u z=>VG _ _ (A3 _ _ z),?_,by rw[List.length_append,List.length_singleton,hdl],fun i d' n' e1 e2=>?_⟩
  ·exact I4.jo (t':=s3.toks) oK (.head _) (fun b u nb eb=>(sb.2 b nb).trans eb) fun q hq=>by
    rcases List.mem_cons.mp hq with rfl|hq
    ·exact .inl ⟨rfl,hc2,fun v z=>by cases z⟩
    ·exact .inr ⟨.tail _ hq,pK q hq⟩
  ·by_cases hi:i<ds.length
   ·rw[List.getElem?_append_left hi]at e1;exact VG _ _ (hkeys i d' n' e1 e2)
   ·rw[List.getElem?_append_right (by lia)]at e1
    have hi2:i=j:=by
     have:=(iH.mp e1).1;rw[List.length_singleton]at this
     lia
    subst hi2;rw[hdl,Nat.sub_self]at e1;have e1:d=d':=by simpa using e1
    rw[VF]at e2;cases e2;rw[<-e1];exact YA
 ·rintro s' ⟨H3,ds,en,A3,I3,hdl,hkeys⟩;rw[Nat.zero_add]at hdl;have BX:=I3.pin (kS,_) (gZ _ (.head _))
  try dsimp only
  refine aP (listItems_at BX.1 rfl ?_);refine EU I3 oK pK (A3 _ _ gx) rv h64 (by lia) hkeys hok J3 ae fun s5 ns' hp Ub I5=>⟨_,rfl,wpAny_pure ⟨_,rfl,?_⟩⟩
  have I6:Inv X pq σ (upd (upd H3 D (.lst [])) D (.lst (ns'.map V.int))) s5:=I5.fR fun q hq=>I5.pin q (gZ _ (.tail _ hq))
  have nD:∀ b u,HL b=some u->b≠D:=fun b u eb z=>by rw[z,hfr]at eb;cases eb
  have Uc:∀ b u,HL b=some u->upd (upd H3 D (.lst [])) D (.lst (ns'.map V.int)) b=some u:=fun b u eb=>by
   rw[ao (nD b u eb),ao (nD b u eb)];exact A3 _ _ (at2 _ _ eb)
  have I7:=Ad I1 hP hc Ac hoc I6 (Uc _ _ NF) (Uc _ _ Lc);refine⟨.ref D,_,I7,rfl,ND D ns' _ (Mg D hfr) (Ae hP hc Ac (oc:=oc) fun b u eb=>Uc b u (by rw[<-Yy];exact eb)) ?_ hp Ub⟩
  unfold given;rw[ao (fun z=>nD _ _ NF z.symm),ao (fun z=>nD _ _ Lc z.symm),ae]
end
section
variable {X:Cx}{pq:aR}{σ:St}{H:Hp}{s:Shared}
theorem Am{a:Addr}{ps:List (Addr×Int×Int)}{its:List Value}{E:di}{P:PySem.Fin->Shared->Prop}{A:Around}(I:Inv X pq σ (upd H a (.lst (ps.map fun q=>V.ref q.1))) s)(ha:H a=none)(ho:s.heap.get? a=some (seqObj "list" its.toArray 0))(rv:Vals (ps.map fun q=>V.ref q.1) its)
 (hp:∀ q∈ps,H q.1=some (.tup [.int q.2.1,.int q.2.2])) (hok:∀ q∈ps,Lg q.2) (h2:2<=ps.length) (hn:ps.length<64)
 (k:∀(h' : Heap) (c:Nat) (ps' : List (Addr×Int×Int)) (out:List Value),ps'.Perm ps->ps'.Pairwise (fun x y=>kx x.2<=kx y.2)->Vals (ps'.map fun q=>V.ref q.1) out->h'.get? a=some (listOf out.toArray c)->(∀ m,s.heap.Ns X.env.locals m->h'.Ns X.env.locals m)->(∀ b o,b≠X.env.locals->b≠a->s.heap.get? b=some o->h'.get? b=some o)->P (PySem.Fin.done (PySem.Flow.ret PySem.Value.none)) { s with heap:=h'}) :
 wpAny (model X.prog X.w) A (PySem.Builtin.«list.sort» { pos:=[PySem.Value.ref a]}) P E s:=by
 have hl:=rv.length;rw[List.length_map]at hl;obtain⟨m,F⟩:=I.fr;have hne:a≠X.env.locals:=fun z=>by
  have:=I.free;rw[<-z,ae]at this;cases this
 have hb:X.base.get? a=none:=by
  cases e:X.base.get? a with
  | none=>rfl
  | some o =>
    have:=(I.bs a o e).2;rw[ae]at this;cases this
 have N:News X.base X.env.locals s.heap (rest X.base s.heap X.env.locals a):=fun p hp=>Ge p (List.mem_filter.mp hp).1
 have at_:∀ i,i<ps.length->its.getD i Value.none = .ref (ps.getD i (0,0,0)).1/\ps.getD i (0,0,0)∈ps:=fun i hi=>by
  have h1:(ps.map fun q=>V.ref q.1)[i]?=some (.ref (ps.getD i (0,0,0)).1):=by
   rw[List.getElem?_map,List.getD_eq_getElem?_getD,List.getElem?_eq_getElem hi];rfl
  obtain⟨u,hu,ru⟩:=rv.get h1;refine⟨?_,?_⟩
  ·rw[List.getD_eq_getElem?_getD,hu];exact ru
  ·rw[List.getD_eq_getElem?_getD,List.getElem?_eq_getElem hi];exact List.getElem_mem hi
 refine kat_list_sort F N ho hne hb CM (by lia) (by lia) fun e1 h' F' N'=>?_
 have kept:=nV (d:=a) I.bk F' fun p hp=>N' p (jY _ hp)
 have pv:∀ q∈ps,xw h' (.ref q.1) q.2:=fun q hq=>by
  have hH:=hp q hq;have ne1:q.1≠a:=fun z=>by
   rw[z,ha]at hH;cases hH
  have VH:upd H a (.lst (ps.map fun q=>V.ref q.1)) q.1=some (.tup [.int q.2.1,.int q.2.2]):=by rw[ao ne1];exact hH
  have ne2:q.1≠X.env.locals:=fun z=>by
   have:=I.free;rw[<-z,VH]at this;cases this
  obtain⟨ts,rt,⟨o,e,hc,n,hd⟩,_⟩:=I.tuple (aQ.of VH)
  match ts,rt with
  | [_,_],.cons ⟨t,rfl⟩ (.cons ⟨u,rfl⟩ .nil)=>exact⟨q.1,o,t,u,n,rfl,kept _ _ ne2 ne1 e,hc,hd⟩
 have VI:∀ i,i<its.length->xw h' (its.getD i Value.none) (ps.getD i (0,0,0)).2:=fun i hi=>by
  obtain⟨e,hm⟩:=at_ i (by lia)
  rw[e];exact pv _ hm
 refine w4 (by lia) (fun v hv=>?_) (yg (r:=fun i=>kx (ps.getD i (0,0,0)).2) (n:=its.length) (xx (fun i hi=>hok _ (at_ i (by lia)).2) VI) (DA (by lia)) (fun OB=>?_))
 ·obtain⟨i,hi,rfl⟩:=List.mem_iff_getElem.mp hv;have:=(VI i hi).pair;rw[List.getD_eq_getElem?_getD,List.getElem?_eq_getElem hi]at this;exact this
 have hup:=DI (r:=fun i=>kx (ps.getD i (0,0,0)).2) (n:=its.length) (by lia)
 generalize SRun (fun i=>kx (ps.getD i (0,0,0)).2) (kas_sort its.length)=p' at OB hup ⊢
 refine KasFin.intro F' N' (UpdF.head CM) fun h'' c VJ VL=>?_
 have Qw:∀ b o,b≠X.env.locals->b≠a->s.heap.get? b=some o->h''.get? b=some o:=nV (d:=a) I.bk VJ fun p hp=>VL p (jY _ hp)
 have DJ:(p'.toList.map fun i=>ps.getD i (0,0,0)).Perm ps:=by
  have h1:=List.Perm.map (fun i=>ps.getD i (0,0,0)) OB
  have h2:(List.range its.length).map (fun i=>ps.getD i (0,0,0))=ps:=by
   rw[<-hl];refine List.ext_getElem (by simp) fun i h1 h2=>?_
   simp[List.getD_eq_getElem?_getD,List.getElem?_eq_getElem h2]
  rw[h2]at h1;exact h1
 have hpl:p'.toList.length=its.length:=by have:=OB.length_eq;rw[List.length_range]at this;exact this
 have Ud:(p'.toList.map fun i=>ps.getD i (0,0,0)).Pairwise (fun x y=>kx x.2<=kx y.2):=by
  rw[List.pairwise_map,List.pairwise_iff_getElem];intro i j hi hj hij;have:=hup.le (Nat.le_of_lt hij) (by lia)
  have ga:∀ i (hi:i<p'.toList.length),p'.getD i 0=p'.toList[i]:=fun i hi=>by
   rw[Array.getD_eq_getD_getElem?,<-Array.getElem?_toList,List.getElem?_eq_getElem hi];rfl
  unfold Kr at this;rw[ga i hi,ga j hj]at this;exact this
 refine k h'' c _ _ DJ Ud ?_ (VL _ List.mem_cons_self).1 (fun m' hm'=>?_) Qw
 ·have:∀ l:List Nat,(∀ i∈l,i<ps.length)->Vals ((l.map fun i=>ps.getD i (0,0,0)).map fun q=>V.ref q.1) (l.map fun i=>its.getD i Value.none):=fun l=>by
   induction l with
   | nil=>exact fun _=>.nil
   | cons i l ih =>
     intro h;refine .cons ?_ (ih fun j hj=>h j (jY _ hj))
     exact(at_ i (h i List.mem_cons_self)).1
  refine this _ fun i hi=>?_
  have:=List.mem_range.mp (OB.mem_iff.mp hi)
  lia
 ·rw[Nq hm' F.ns];exact VJ.ns
end
section
variable {X:Cx}
theorem IC(K:bX)(hK:X.K=K:=by rfl):e7 X (.builtin "sorted") (fun xs H Q=>∃(p:Addr) (ps:List (Addr×Int×Int)),xs=[.ref p]/\aK K H p (ps.map fun q=>V.ref q.1)/\(∀ q∈ps,H q.1=some (.tup [.int q.2.1,.int q.2.2]))/\(∀ q∈ps,Lg q.2)/\ps.length<64/\
 ∀(l:Addr) (ps' : List (Addr×Int×Int)),H l=none->ps'.Perm ps->ps'.Pairwise (fun x y=>kx x.2<=kx y.2)->Q (.ref l) (upd H l (.lst (ps'.map fun q=>V.ref q.1)))):=by
 subst hK;intro pq s σ H xs us Q I r h;obtain⟨p,ps,rfl,hq,hp,hok,hn,q⟩:=h;obtain⟨u,rfl,rx⟩:=vals1 r;cases rx;obtain⟨its,rv,⟨o,n,ho,hc,hdt,hd⟩,hz⟩:=I.list hq;have hl:=rv.length;rw[List.length_map]at hl;have hsl:its.length<=sizeLine:=dl (Nat.ble_eq.mpr (by lia))
 refine Calls.call_function_entry kind_sorted plain_sorted entry_sorted (args_sorted1 _) ?_;unfold Builtin.«sorted»;refine aP (m:=checkCount "sorted" 1 1 _) (wpAny_pure ?_);refine aP (wpAny_collect_seq p (T:="list") (.inl rfl) ho hc hd (fun h1 hk=>?_) (by rw[List.size_toArray];exact hsl))
 have I1:=I.kept (t':=s.toks) hk;have hfr:H h1.objs.size=none:=I1.hok.fresh (Nat.le_refl _);refine aP (wpAny_newList ?_ (by simpa using hsl))
 have A1:(h1.push (seqObj "list" its.toArray.toList.toArray 0)).get? h1.objs.size=some (seqObj "list" its.toArray.toList.toArray 0):=Heap.get?_push_size _ rfl;have e0:its.toArray.toList=its:=by simp
 rw[e0]at A1;have I2:Inv X pq σ (upd H h1.objs.size (.lst (ps.map fun q=>V.ref q.1))) { s with heap:=h1.push (seqObj "list" its.toArray 0)}:=by
  refine I1.laid (t':=s.toks) (fun b o hb=>?_) (Nat.le_refl _) ⟨?_,its,0,rv,A1⟩
  ·rw[Heap.get?_push_ne _ _ _ (Nat.ne_of_lt (Heap.lt_size hb))];exact hb
  ·rw[List.length_map,hl];exact hsl
 rw[e0];refine aP (wpAny_holding (wpAny_call_entry slot_list_sort ⟨_,A1,rfl⟩ entry_list_sort (?_) (args_list_sort _)));have Qx:∀ ps' : List (Addr×Int×Int),ps'.Perm ps->(ps'.map fun q=>V.ref q.1).length<=sizeLine:=fun ps' OB=>by
  rw[List.length_map,OB.length_eq,hl];exact hsl
 have kp:∀ b u,h1.get? b=some u->(h1.push (seqObj "list" its.toArray 0)).get? b=some u:=fun b u e=>by
  rw[Heap.get?_push_ne _ _ _ (Nat.ne_of_lt (Heap.lt_size e))];exact e
 by_cases h2:2<=ps.length
 ·refine Am I2 hfr A1 rv hp hok h2 hn fun h' c ps' out DJ Ud YB hget hns Qy=>⟨_,rfl,wpAny_pure ⟨_,rfl,?_⟩⟩
  refine⟨.ref h1.objs.size,_,I1.Qi (t':=s.toks) (o:=.lst (ps'.map fun q=>V.ref q.1)) (fun b u hb e=>Qy b u hb (Nat.ne_of_lt (Heap.lt_size e)) (kp b u e)) (fun m hm=>hns m ?_) (Nat.le_refl _) ⟨Qx _ DJ,out,c,YB,hget⟩,rfl,q _ ps' hfr DJ Ud⟩
  obtain⟨o',es,ep,e,z⟩:=hm;exact⟨o',es,ep,kp _ _ e,z⟩
 ·have few:ps.Pairwise (fun x y=>kx x.2<=kx y.2):=by
   match ps,h2 with
   | [],_=>exact .nil
   | [x],_=>exact List.pairwise_singleton _ _
   | _::_::_,h2=>exact absurd (by simp:2<=_) h2
  refine HE A1 (by lia) ⟨_,rfl,wpAny_pure ⟨_,rfl,?_⟩⟩
  obtain⟨e,he⟩:=sortedHeap_at (out:=its.toArray) A1;refine⟨.ref h1.objs.size,_,I1.laid (t':=s.toks) (o:=.lst (ps.map fun q=>V.ref q.1)) (fun b o hb=>?_) (Nat.le_refl _) ⟨Qx ps (List.Perm.refl _),its,e,rv,he⟩,rfl,q _ ps hfr (List.Perm.refl _) few⟩
  have hlt:=Heap.lt_size hb;show(sortedHeap (h1.push (seqObj "list" its.toArray 0)) h1.objs.size its its.toArray).get? b=some o;rw[sortedHeap_old (Nat.ne_of_lt hlt) (by rw[size_push'];exact Nat.lt_succ_of_lt hlt)]
  exact kp b o hb
end
end L2
namespace RM
section
variable {N:Net}{L:Nat->Int}
theorem An(q m m' : Nat):N.par q (m^^^m')=(N.par q m^^N.par q m'):=by
 have e:∀ a b:Nat,N.par a b=N.par b a:=fun a b=>aZ fun k _=>Bool.and_comm _ _
 rw[e,my,e m,e m']
theorem oX{f:Nat->Bool}:∀{n i:Nat},i<n->(∀ k,k<n->k≠i->f k=false)->bg f n=f i
 | 0,i,h,_=>absurd h (Nat.not_lt_zero _)
 | n+1,i,h,hz=>by
   show(bg f n^^f n)=f i
   by_cases e:i=n
   ·subst e;rw[iP fun k hk=>hz k (by lia) (by lia),Bool.false_xor]
   ·rw[oX (show i<n by lia) fun k hk ne=>hz k (by lia) ne,hz n (by lia) (fun z=>e z.symm),Bool.xor_false]
theorem xy{f:Nat->Bool}:∀{n:Nat},bg f n=true->∃ i,i<n/\f i=true
 | 0,h=>by cases h
 | n+1,h=>by
   have h:(bg f n^^f n)=true:=h;cases hf:f n with
   | true=>exact⟨n,by lia,hf⟩
   | false =>
     rw[hf,Bool.xor_false]at h;obtain⟨i,h1,h2⟩:=xy h;exact⟨i,by lia,h2⟩
theorem uL(f:Nat->Bool):∀ n,bg f (n+1)=(f 0^^bg (fun i=>f (i+1)) n)
 | 0=>by
   show(false^^f 0)=(f 0^^false);rw[Bool.false_xor,Bool.xor_false]
 | n+1=>by
   show(bg f (n+1)^^f (n+1))=(f 0^^(bg (fun i=>f (i+1)) n^^f (n+1)))
   rw[uL f n,Bool.xor_assoc]
theorem lR(m:Nat):∀(B:List Nat) (z:Nat),N.par (comb B z) m=bg (fun i=>z.testBit i&&N.par (B.getD i 0) m) B.length
 | [],z=>jP m
 | b::B,z=>by
   show N.par ((if z.testBit 0=true then b else 0)^^^comb B (z/2)) m=bg _ (B.length+1)
   rw[my,lR m B (z/2),uL];have e1:N.par (if z.testBit 0=true then b else 0) m=(z.testBit 0&&N.par b m):=by
    cases z.testBit 0 with
    | true=>simp
    | false=>simp[jP]
   rw[e1];have e2:bg (fun i=>(z/2).testBit i&&N.par (B.getD i 0) m) B.length=bg (fun i=>z.testBit (i+1)&&N.par ((b::B).getD (i+1) 0) m) B.length:=aZ fun i _=>by
    rw[Nat.testBit_succ];rfl
   rw[e2];rfl
def len(N:Net)(L:Nat->Int)(r:Nat):Int:=lsum L (fun k=>r.testBit k) N.n
structure DP(N:Net)(L:Nat->Int)(bs us:List Nat):Prop where
 lens:bs.length=us.length
 ring:∀ b∈bs,N.Ring b/\b<2^N.n
 own:∀(i b w:Nat),bs[i]?=some b->us[i]?=some w->N.par b w=true/\∀ r,N.Ring r->r<2^N.n->N.par r w=true->len N L b<=len N L r
 Oz:∀(i j b w:Nat),i<j->bs[i]?=some b->us[j]?=some w->N.par b w=false
theorem DP.start:DP N L [] []:=⟨rfl,fun b h=>(List.not_mem_nil h).elim,fun i b w h=>(by simp at h),fun i j b w _ h=>(by simp at h)⟩
theorem DP.snoc{bs us:List Nat}{b w:Nat}(h:DP N L bs us)(hr:N.Ring b)(hl:b<2^N.n)(ho:N.par b w=true)(hm:∀ r,N.Ring r->r<2^N.n->N.par r w=true->len N L b<=len N L r)(he:∀ b'∈bs,N.par b' w=false):DP N L (bs++[b]) (us++[w]):=by
 have at_:∀{l:List Nat} {x i y:Nat},(l++[x])[i]?=some y->(i<l.length/\l[i]?=some y)\/(i=l.length/\y=x):=fun {l x i y} e=>by
  by_cases hi:i<l.length
  ·rw[List.getElem?_append_left hi]at e;exact .inl ⟨hi,e⟩
  ·have h2:=(iH.mp e).1;rw[List.length_append,List.length_singleton]at h2;have h3:i=l.length:=by lia
   rw[List.getElem?_append_right (by lia),h3,Nat.sub_self]at e
   exact .inr ⟨h3,(Option.some.inj e).symm⟩
 refine⟨by rw[List.length_append,List.length_append,h.lens];rfl,fun b' hb=>?_,fun i b' w' h1 h2=>?_,fun i j b' w' hij h1 h2=>?_⟩
 ·rcases List.mem_append.mp hb with z|z
  ·exact h.ring b' z
  ·rw[List.mem_singleton.mp z];exact⟨hr,hl⟩
 ·have hl:=h.lens;rcases at_ h1 with⟨l1,e1⟩|⟨l1,e1⟩<;>rcases at_ h2 with⟨l2,e2⟩|⟨l2,e2⟩
  ·exact h.own i b' w' e1 e2
  ·lia
  ·lia
  ·rw[e1,e2];exact⟨ho,hm⟩
 ·have hl:=h.lens;rcases at_ h1 with⟨l1,e1⟩|⟨l1,e1⟩<;>rcases at_ h2 with⟨l2,e2⟩|⟨l2,e2⟩
  ·exact h.Oz i j b' w' hij e1 e2
  ·rw[e2];exact he b' (gy e1)
  ·lia
  ·lia
section
variable {bs us:List Nat}
theorem DP.at(h:DP N L bs us){i:Nat}(hi:i<bs.length):∃ w,us[i]?=some w/\bs[i]?=some (bs.getD i 0):=by
 have h1:i<us.length:=by rw[<-h.lens];exact hi
 exact⟨us[i],List.getElem?_eq_getElem h1,by rw[List.getD_eq_getElem?_getD,List.getElem?_eq_getElem hi];rfl⟩
theorem yj{f:Nat->Prop}:∀{n i:Nat},i<n->f i->∃ l,l<n/\f l/\∀ j,l<j->j<n->¬ f j
 | 0,i,h,_=>absurd h (Nat.not_lt_zero _)
 | n+1,i,h,hf=>by
   by_cases hn:f n
   ·exact⟨n,by lia,hn,fun j h1 h2=>by lia⟩
   ·have hi:i<n:=by
     rcases Nat.lt_or_ge i n with z|z
     ·exact z
     ·have e:i=n:=by lia
      rw[e]at hf;exact absurd hf hn
    obtain⟨l,h1,h2,h3⟩:=yj hi hf;refine⟨l,by lia,h2,fun j h4 h5=>?_⟩
    by_cases e:j=n
    ·rw[e];exact hn
    ·exact h3 j h4 (by lia)
theorem DP.parts(h:DP N L bs us){z:Nat}(hr:N.Ring (comb bs z))(hl:comb bs z<2^N.n):∀ i,i<bs.length->z.testBit i=true->len N L (bs.getD i 0)<=len N L (comb bs z):=by
 intro i hi hz;apply Classical.byContradiction;intro hc;obtain⟨l,h1,⟨h2,h3⟩,h4⟩:=yj (f:=fun i=>z.testBit i=true/\¬ len N L (bs.getD i 0)<=len N L (comb bs z)) hi ⟨hz,hc⟩
 obtain⟨w,hw,hb⟩:=h.at h1;obtain⟨o1,o2⟩:=h.own l _ w hb hw;have hp:=lR (N:=N) w bs z
 by_cases hx:∃ j,l<j/\j<bs.length/\z.testBit j=true/\N.par (bs.getD j 0) w=true
 ·obtain⟨j,j1,j2,j3,j4⟩:=hx;obtain⟨_,_,Qz⟩:=h.at j2;obtain⟨rj,lj⟩:=h.ring _ (gy Qz);have k1:=o2 _ rj lj j4;have k2:len N L (bs.getD j 0)<=len N L (comb bs z):=Classical.byContradiction fun hn=>h4 j j1 j2 ⟨j3,hn⟩
  lia
 ·rw[oX (i:=l) h1 (fun j hj ne=>?_),h2,o1]at hp
  ·exact h3 (o2 _ hr hl hp)
  ·cases Ue:z.testBit j with
   | false=>rfl
   | true =>
     rcases Nat.lt_or_ge j l with hlt|hge
     ·obtain⟨_,_,Qz⟩:=h.at hj;rw[h.Oz j l _ w hlt Qz hw];rfl
     ·cases YC:N.par (bs.getD j 0) w with
      | false=>rfl
      | true=>exact absurd ⟨j,by lia,hj,Ue,YC⟩ hx
theorem DP.ind(h:DP N L bs us):rY bs:=by
 intro z hz hc;apply Classical.byContradiction;intro hne;obtain⟨i,hi⟩:=Nat.exists_testBit_of_ne_zero hne;have YD:=nB hz hi;obtain⟨l,h1,h2,h4⟩:=yj (f:=fun i=>z.testBit i=true) YD hi
 obtain⟨w,hw,hb⟩:=h.at h1;obtain⟨o1,_⟩:=h.own l _ w hb hw;have hp:=lR (N:=N) w bs z;rw[hc,jP,oX (i:=l) h1 (fun j hj ne=>?_),h2,o1]at hp
 ·cases hp
 ·cases Ue:z.testBit j with
  | false=>rfl
  | true =>
    have hlt:j<l:=by
     rcases Nat.lt_or_ge j l with z|z
     ·exact z
     ·exact absurd Ue (h4 j (by lia) hj)
    obtain⟨_,_,Qz⟩:=h.at hj;rw[h.Oz j l _ w hlt Qz hw];rfl
end
theorem Base.span{rs:List Nat}(h:Base N rs){e:Nat}(he:N.cL e)(hl:e<2^N.n):∃ z,z<2^rs.length/\comb rs z=e:=by
 apply sP;apply Classical.byContradiction;intro hn;have h1:rY (rs++[e]):=oR.mpr ⟨h.ind,hn⟩;have h2:=HP (N:=N) h1 (fun b hb=>by
  rcases List.mem_append.mp hb with z|z
  ·exact⟨(h.ring b z).1.2.1,(h.ring b z).2⟩
  ·rw[List.mem_singleton.mp z];exact⟨he,hl⟩)
 rw[List.length_append,List.length_singleton,h.len]at h2
 lia
def LB(N:Net)(L:Nat->Int)(rs:List Nat):Prop:=Base N rs/\∀ r m,N.Ring r->r<2^N.n->N.par r m=true->∃ b∈rs,N.par b m=true/\len N L b<=len N L r
theorem LB.perm{rs rs' : List Nat}(h:LB N L rs)(p:rs'.Perm rs):LB N L rs':=⟨h.1.perm p,fun r m h1 h2 h3=>let⟨b,hb,q⟩:=h.2 r m h1 h2 h3;⟨b,p.mem_iff.mpr hb,q⟩⟩
theorem DP.least{bs us:List Nat}(h:DP N L bs us)(hl:bs.length=N.aN.length):LB N L bs:=by
 have bb:Base N bs:=⟨hl,h.ring,h.ind⟩;refine⟨bb,fun r m hr hlt ho=>?_⟩
 obtain⟨z,hz,rfl⟩:=bb.span hr.2.1 hlt;rw[lR]at ho;obtain⟨i,hi,h1⟩:=xy ho;have h1:=OV.mp h1;obtain⟨_,_,hb⟩:=h.at hi;exact⟨_,gy hb,h1.2,h.parts hr hlt i hi h1.1⟩
structure Wt(N:Net)(bs ws cs:List Nat):Prop where
 lens:ws.length=cs.length
 sum:bs.length+ws.length=N.aN.length
 ch:∀ c∈cs,c<N.n/\N.kc c=false
 lt:∀ w∈ws,w<2^N.n
 bits:∀ w∈ws,∀ k,w.testBit k=true->N.kc k=false
 own:∀(i j w c:Nat),ws[i]?=some w->cs[j]?=some c->w.testBit c=decide (i=j)
 fQ:∀ w∈ws,∀ b∈bs,N.par b w=false
theorem Wt.odd{bs ws cs:List Nat}{w:Nat}(h:Wt N bs (w::ws) cs):∃ r,N.Ring r/\r<2^N.n/\N.par r w=true:=by
 have hl:=h.lens
 match cs,hl,h with
 | c::cs,hl,h =>
   obtain⟨c1,c2⟩:=h.ch c List.mem_cons_self;refine⟨N.ring c,w9 c1 c2,oE c1,?_⟩;have e:N.par (N.ring c) w=((N.ring c).testBit c&&w.testBit c):=oX (f:=fun k=>(N.ring c).testBit k&&w.testBit k) c1 fun k hk ne=>by
    cases hw:w.testBit k with
    | false=>exact Bool.and_false _
    | true =>
      have:=iZ c2 (h.bits w List.mem_cons_self k hw);rw[this,cR (fun z=>ne z.symm)]
      rfl
   rw[e,oA c2,h.own 0 0 w c rfl rfl];rfl
theorem Wt.next{bs ws cs:List Nat}{w b:Nat}(h:Wt N bs (w::ws) cs)(ho:N.par b w=true):∃ c cs',cs=c::cs'/\Wt N (bs++[b]) (ws.map fun v=>if N.par b v=true then v^^^w else v) cs':=by
 have hl:=h.lens
 match cs,hl,h with
 | c::cs,hl,h =>
   refine⟨c,cs,rfl,?_⟩;have hw:=h.lt w List.mem_cons_self;have hv:∀ v∈ws,v∈w::ws:=fun v z=>jY _ z
   refine⟨by rw[List.length_map];simpa using hl,?_,fun d hd=>h.ch d (jY _ hd),fun v' HD=>?_,fun v' HD k hk=>?_,fun i j v' d h1 h2=>?_,fun v' HD b' hb'=>?_⟩
   ·have:=h.sum;rw[List.length_cons]at this;rw[List.length_append,List.length_singleton,List.length_map]
    lia
   ·obtain⟨v,m,rfl⟩:=List.mem_map.mp HD
    split
    ·exact Nat.xor_lt_two_pow (h.lt v (hv v m)) hw
    ·exact h.lt v (hv v m)
   ·obtain⟨v,m,rfl⟩:=List.mem_map.mp HD
    split at hk
    ·rw[Nat.testBit_xor]at hk;cases h1:v.testBit k with
     | true=>exact h.bits v (hv v m) k h1
     | false =>
       rw[h1,Bool.false_xor]at hk;exact h.bits w List.mem_cons_self k hk
    ·exact h.bits v (hv v m) k hk
   ·rw[List.getElem?_map]at h1;obtain⟨v,LP,rfl⟩:=vn.mp h1;have e1:=h.own (i+1) (j+1) v d (by simpa using LP) (by simpa using h2)
    have e2:=h.own 0 (j+1) w d rfl (by simpa using h2)
    have e3:decide (i+1=j+1)=decide (i=j):=decide_eq_decide.mpr (by lia)
    rw[e3]at e1
    split
    ·rw[Nat.testBit_xor,e1,e2];simp
    ·exact e1
   ·obtain⟨v,m,rfl⟩:=List.mem_map.mp HD;rcases List.mem_append.mp hb' with z|z
    ·have z1:=h.fQ v (hv v m) b' z;have z2:=h.fQ w List.mem_cons_self b' z
     split
     ·rw[An,z1,z2];rfl
     ·exact z1
    ·rw[List.mem_singleton.mp z]
     split
     ·rename_i hp
      rw[An,hp,ho];rfl
     ·rename_i hp
      cases hq:N.par b v with
      | false=>rfl
      | true=>exact absurd hq hp
theorem Wt.start(nd:N.aN.Nodup):Wt N [] (N.aN.map fun c=>2^c) N.aN:=by
 refine⟨List.length_map ..,by rw[List.length_map];simp,fun c hc=>cg.mp hc,fun w hw=>?_,fun w hw k hk=>?_,fun i j w c h1 h2=>?_,fun w _ b hb=>by cases hb⟩
 ·obtain⟨c,hc,rfl⟩:=List.mem_map.mp hw;exact Nat.pow_lt_pow_right (by decide) (cg.mp hc).1
 ·obtain⟨c,hc,rfl⟩:=List.mem_map.mp hw;rw[Nat.testBit_two_pow]at hk;rw[<-iG hk];exact(cg.mp hc).2
 ·rw[List.getElem?_map]at h1;obtain⟨d,hd,rfl⟩:=vn.mp h1;rw[Nat.testBit_two_pow];refine decide_eq_decide.mpr ⟨fun z=>?_,fun z=>?_⟩
  ·subst z;obtain⟨a1,a2⟩:=iH.mp hd;obtain⟨b1,b2⟩:=iH.mp h2;exact(List.getElem_inj nd).mp (a2.trans b2.symm)
  ·subst z;rw[hd]at h2;exact Option.some.inj h2
inductive NR(N:Net)(L:Nat->Int)(R4:List Nat):List Nat->List Nat->Prop
 | start:NR N L R4 [] R4
 | step {bs ws:List Nat} {w e:Nat} {z:Int} (h:NR N L R4 bs (w::ws)) (lo:Lo N L w z e):NR N L R4 (bs++[e]) (ws.map fun v=>if N.par e v=true then v^^^w else v)
end
def iw(B:List Nat):Nat->List Row3
 | 0=>[]
 | i+1=>if(cB (iw B i) (B.getD i 0) 0).1=0 then iw B i else vC (iw B i) ((cB (iw B i) (B.getD i 0) 0).1.log2,(cB (iw B i) (B.getD i 0) 0).1,(cB (iw B i) (B.getD i 0) 0).2^^^2^i)
theorem BY{B:List Nat}{i b:Nat}{rows:List Row3}(e:rows=iw B i)(hb:B[i]?=some b)(h:(cB rows b 0).1≠0):vC rows ((cB rows b 0).1.log2,(cB rows b 0).1,(cB rows b 0).2^^^2^i)=iw B (i+1):=by
 subst e;have eb:B.getD i 0=b:=by rw[List.getD_eq_getElem?_getD,hb];rfl
 show _=if _ then _ else _
 rw[eb,if_neg h]
theorem Ao{B:List Nat}{i b:Nat}{rows:List Row3}(e:rows=iw B i)(hb:B[i]?=some b)(h:(cB rows b 0).1=0):rows=iw B (i+1):=by
 subst e;have eb:B.getD i 0=b:=by rw[List.getD_eq_getElem?_getD,hb];rfl
 show _=if _ then _ else _
 rw[eb,if_pos h]
theorem DK{A B:List Nat}(hi:rY B)(h:∀ b∈B,Sp A b):B.length<=A.length:=by
 have hs:∀ z,∃ y,y<2^A.length/\comb A y=comb B z:=fun z=>sP ((ko B z).mono h)
 refine yb (f:=fun z=>Classical.choose (hs z)) (fun z _=>(Classical.choose_spec (hs z)).1) fun z y hz hy e=>ux B hi hz hy ?_
 have e:Classical.choose (hs z)=Classical.choose (hs y):=e;rw[<-(Classical.choose_spec (hs z)).2,<-(Classical.choose_spec (hs y)).2,e]
theorem ID{B:List Nat}(h:rY B)(i:Nat):rY (B.take i):=by
 have h:=(DF B).mp h;refine(DF _).mpr fun j b hj=>?_
 rw[List.getElem?_take]at hj
 split at hj
 ·rename_i hji
  have:=h j b hj
  rwa [List.take_take,Nat.min_eq_left (Nat.le_of_lt hji)]
 ·cases hj
theorem Li(B:List Nat):∃ rows,Rw B rows:=by
 suffices h:∀ i,∃ rows,Rw (B.take i) rows by
  obtain⟨rows,hr⟩:=h B.length;rw[List.take_length]at hr;exact⟨rows,hr⟩
 intro i
 induction i with
 | zero=>exact⟨[],by rw[List.take_zero];exact .start⟩
 | succ i ih =>
   obtain⟨rows,hr⟩:=ih;cases hb:B[i]? with
   | none=>exact⟨rows,by rw[List.take_add_one,hb,Option.toList_none,List.append_nil];exact hr⟩
   | some b =>
     rw[List.take_add_one,hb,Option.toList_some]
     by_cases h0:(cB rows b 0).1=0
     ·exact⟨_,hr.skip ((hr.mz b 0).mp h0)⟩
     ·exact⟨_,hr.put h0⟩
section
variable {N:Net}{L:Nat->Int}
theorem LB.parts{rs:List Nat}(h:LB N L rs){r:Nat}(hr:N.Ring r)(hl:r<2^N.n):Sp (rs.filter fun b=>decide (len N L b<=len N L r)) r:=by
 obtain⟨z,hz,rfl⟩:=h.1.span hr.2.1 hl;obtain⟨rows,hw⟩:=Li rs;have key:∀ i b,rs[i]?=some b->z.testBit i=true->len N L b<=len N L (comb rs z):=fun i b hb hi=>by
  have mk:∀ j c,rs[j]?=some c->N.par c (Ring.orM (g8 rows i))=decide (i=j):=fun j c hc=>(hw.marks h.1.ind (fun b hb=>(h.1.ring b hb).2) hc).1
  have zL:=(iH.mp hb).1;have e:N.par (comb rs z) (Ring.orM (g8 rows i))=true:=by
   rw[lR,oX zL fun k hk hne=>?_]
   ·rw[hi,Bool.true_and,List.getD_eq_getElem?_getD,hb];show N.par b _=true;rw[mk i b hb];exact cD rfl
   ·have hc:rs[k]?=some rs[k]:=List.getElem?_eq_getElem hk;rw[List.getD_eq_getElem?_getD,hc];show(_&&N.par rs[k] _)=false;rw[mk k _ hc,cR (fun z=>hne z.symm),Bool.and_false]
  obtain⟨c,hc,h1,h2⟩:=h.2 _ _ hr hl e;obtain⟨j,hj⟩:=List.getElem?_of_mem hc;rw[mk j c hj]at h1;have h1:=iG h1;subst h1;rw[hb]at hj;rw[Option.some.inj hj];exact h2
 generalize hx:len N L (comb rs z)=x at key ⊢;clear hx hr hl hw h
 suffices hh:∀ i,Sp (rs.filter fun b=>decide (len N L b<=x)) (comb (rs.take i) z) by
  have:=hh rs.length
  rwa [List.take_length]at this
 intro i
 induction i with
 | zero=>rw[List.take_zero];exact .zero
 | succ i ih =>
   cases hb:rs[i]? with
   | none=>rw[List.take_add_one,hb,Option.toList_none,List.append_nil];exact ih
   | some b =>
     rw[List.take_add_one,hb,Option.toList_some,gG];have hl:(rs.take i).length=i:=List.length_take_of_le (Nat.le_of_lt (iH.mp hb).1);rw[hl]
     split
     ·rename_i hi
      exact ih.xor (.mem (List.mem_filter.mpr ⟨gy hb,cD (key i b hb hi)⟩))
     ·rw[Nat.xor_zero];exact ih
theorem Aq{A B:List Nat}{f:Nat->Int}(ha:A.Pairwise fun x y=>f x<=f y)(hb:B.Pairwise fun x y=>f x<=f y)(hi:rY B)(h:∀ b∈B,Sp (A.filter fun c=>decide (f c<=f b)) b):
 ∀(i a b:Nat),A[i]?=some a->B[i]?=some b->f a<=f b:=by
 intro i a b hA hB;apply Classical.byContradiction;intro hn;have hlt:f b<f a:=Int.not_le.mp hn;have mono:∀{C:List Nat} {i j x y:Nat},C.Pairwise (fun x y=>f x<=f y)->C[i]?=some x->C[j]?=some y->i<=j->f x<=f y:=fun {C i j x y} hp h1 h2 hij=>by
  obtain⟨l1,e1⟩:=iH.mp h1;obtain⟨l2,e2⟩:=iH.mp h2;rcases Nat.lt_or_eq_of_le hij with z|z
  ·rw[<-e1,<-e2];exact List.pairwise_iff_getElem.mp hp i j l1 l2 z
  ·subst z;rw[h1]at h2;rw[Option.some.inj h2];exact Int.le_refl _
 have zL:=(iH.mp hB).1;have e:=DK (A:=A.take i) (ID hi (i+1)) fun c hc=>by
  obtain⟨j,hj⟩:=List.getElem?_of_mem hc;rw[List.getElem?_take]at hj
  split at hj
  ·rename_i hji
   refine(h c (gy hj)).mono fun d hd=>?_
   obtain⟨hd,LR⟩:=List.mem_filter.mp hd;have LR:=iG LR;have hcb:=mono hb hj hB (by lia)
   obtain⟨k,hk⟩:=List.getElem?_of_mem hd;refine .mem ?_;have hki:k<i:=by
    apply Classical.byContradiction;intro hge;have:=mono ha hA hk (by lia)
    lia
   exact gy (i:=k) (by rw[List.getElem?_take,if_pos hki];exact hk)
  ·cases hj
 rw[List.length_take,List.length_take]at e
 lia
end
open Ring (maskOf mask_bit mask_lt)
theorem Ar{F:Nat->Bool}{n:Nat}{row:List Nat}(hp:row.Perm (List.range n)):bg F n=row.foldr (fun k acc=>F k^^acc) false:=by
 rw[<-qo F n (hp.nodup_iff.mpr List.nodup_range) fun k hk=>List.mem_range.mp (hp.mem_iff.mp hk)]
 exact aZ fun k hk=>by rw[cD (hp.mem_iff.mpr (List.mem_range.mpr hk)),Bool.and_true]
theorem IE{F:Nat->Bool}{f:Nat->Nat}{n:Nat}(hp:((List.range n).map f).Perm (List.range n)):bg (fun i=>F (f i)) n=bg F n:=by
 have e1:bg F n=_:=Ar hp;have e2:bg (fun i=>F (f i)) n=_:=Ar (List.Perm.refl _)
 rw[e1,e2,List.foldr_map]
structure A4(N N' : Net)(f g:Nat->Nat):Prop where
 n:N'.n=N.n
 p:N'.p=N.p
 fl:∀ i,i<N.n->f i<N.n
 gl:∀ i,i<N.n->g i<N.n
 fg:∀ i,i<N.n->f (g i)=i
 gf:∀ i,i<N.n->g (f i)=i
 inc:∀ i x,i<N.n->N'.inc i x=N.inc (f i) x
section
variable {N N' : Net}{f g:Nat->Nat}
theorem A4.symm(h:A4 N N' f g):A4 N' N g f:=⟨h.n.symm,h.p.symm,by rw[h.n];exact h.gl,by rw[h.n];exact h.fl,by rw[h.n];exact h.gf,by rw[h.n];exact h.fg,fun i x hi=>by
 rw[h.n]at hi;rw[h.inc (g i) x (h.gl i hi),h.fg i hi]⟩
theorem A4.perm(h:A4 N N' f g):((List.range N.n).map f).Perm (List.range N.n):=by
 refine(List.perm_ext_iff_of_nodup ?_ List.nodup_range).mpr fun k=>?_
 ·refine List.pairwise_map.mpr (List.Pairwise.imp_of_mem (fun {i j} hi hj hne e=>?_) List.nodup_range)
  have:=congrArg g e;rw[h.gf i (List.mem_range.mp hi),h.gf j (List.mem_range.mp hj)]at this;exact hne this
 ·rw[List.mem_map,List.mem_range]
  constructor
  ·rintro⟨i,hi,rfl⟩;exact h.fl i (List.mem_range.mp hi)
  ·exact fun hk=>⟨g k,List.mem_range.mpr (h.gl k hk),h.fg k hk⟩
def cM(n:Nat)(f:Nat->Nat)(m:Nat):Nat:=maskOf (fun i=>m.testBit (f i)) n
theorem eg(n:Nat)(f:Nat->Nat)(m i:Nat):(cM n f m).testBit i=(decide (i<n)&&m.testBit (f i)):=mask_bit _ _ _
theorem sS(n:Nat)(f:Nat->Nat)(m:Nat):cM n f m<2^n:=mask_lt _ _
theorem IF(n:Nat)(f:Nat->Nat)(a b:Nat):cM n f (a^^^b)=cM n f a^^^cM n f b:=Nat.eq_of_testBit_eq fun i=>by
 rw[Nat.testBit_xor,eg,eg,eg,Nat.testBit_xor];cases decide (i<n)<;>simp
theorem jT(n:Nat)(f:Nat->Nat):cM n f 0=0:=Nat.eq_of_testBit_eq fun i=>by
 rw[eg,Nat.zero_testBit,Bool.and_false,Nat.zero_testBit]
theorem A4.back(h:A4 N N' f g){m:Nat}(hm:m<2^N.n):cM N.n g (cM N.n f m)=m:=Nat.eq_of_testBit_eq fun k=>by
 rw[eg,eg]
 by_cases hk:k<N.n
 ·rw[cD hk,cD (h.gl k hk),h.fg k hk];rfl
 ·rw[cR hk,Bool.false_and];cases hb:m.testBit k with
  | false=>rfl
  | true=>exact absurd (bU hm hb) hk
theorem A4.fQ(h:A4 N N' f g){m:Nat}(ev:N.cL m):N'.cL (cM N.n f m):=fun x hx=>by
 rw[h.p]at hx;rw[<-ev x hx];unfold Net.bd;rw[h.n,<-IE (F:=fun k=>m.testBit k&&N.inc k x) h.perm]
 exact aZ fun i hi=>by rw[eg,cD hi,Bool.true_and,h.inc i x hi]
theorem A4.ring(h:A4 N N' f g){m:Nat}(hm:m<2^N.n)(r:N.Ring m):N'.Ring (cM N.n f m):=by
 refine⟨fun e=>r.1 ?_,h.fQ r.2.1,fun q hq ev=>?_⟩
 ·have:=h.back hm;rw[e,jT]at this;exact this.symm
 ·have ql:q<2^N.n:=cF fun k hk=>by
   have:=hq k hk;rw[eg]at this;exact iG (OV.mp this).1
  have YE:N.cL (cM N.n g q):=by
   have:=h.symm.fQ ev
   rwa [h.n]at this
  have bk:cM N.n f (cM N.n g q)=q:=by
   have:=h.symm.back (m:=q) (by rw[h.n];exact ql)
   rwa [h.n]at this
  rcases r.2.2 (cM N.n g q) (fun k hk=>by
   rw[eg]at hk;obtain⟨h1,h2⟩:=OV.mp hk;have:=hq _ h2;rw[eg,h.fg k (iG h1)]at this;exact(OV.mp this).2) YE with e | e
  ·rw[e,jT]at bk;exact .inl bk.symm
  ·rw[e]at bk;exact .inr bk.symm
theorem xA(n:Nat)(f:Nat->Nat):∀(B:List Nat) (z:Nat),comb (B.map (cM n f)) z=cM n f (comb B z)
 | [],_=>(jT n f).symm
 | b::B,z=>by
   show(if z.testBit 0=true then cM n f b else 0)^^^comb (B.map (cM n f)) (z/2)=cM n f ((if z.testBit 0=true then b else 0)^^^comb B (z/2))
   rw[IF,xA n f B]
   split
   ·rfl
   ·rw[jT]
theorem A4.ind(h:A4 N N' f g){B:List Nat}(hl:∀ b∈B,b<2^N.n)(hi:rY B):rY (B.map (cM N.n f)):=fun z hz e=>by
 rw[List.length_map]at hz;rw[xA]at e;refine hi z hz ?_;have:=h.back (m:=comb B z) ((ko B z).lt hl);rw[e,jT]at this;exact this.symm
theorem A4.place(h:A4 N N' f g){L L' : Nat->Int}{rs rs' : List Nat}{l l' : Nat->Int}(lb:LB N L rs)(lb' : LB N' L' rs')(e' : ∀ r,r<2^N.n->len N' L' r=l' r)(el:∀ r,r<2^N.n->l' (cM N.n f r)=l r)
 (pw:rs.Pairwise fun x y=>l x<=l y) (R5:rs'.Pairwise fun x y=>l' x<=l' y):rs.length<=rs'.length/\∀(i a b:Nat),rs'[i]?=some a->rs[i]?=some b->l' a<=l b:=by
 have lt:∀ b∈rs,b<2^N.n:=fun b hb=>(lb.1.ring b hb).2
 have lt' : ∀ b∈rs',b<2^N.n:=fun b hb=>by have:=(lb'.1.ring b hb).2;rwa [h.n]at this
 have hI:=h.ind lt lb.1.ind;have sp:∀ b∈rs.map (cM N.n f),Sp (rs'.filter fun c=>decide (l' c<=l' b)) b:=fun b hb=>by
  obtain⟨r,hr,rfl⟩:=List.mem_map.mp hb;refine(lb'.parts (h.ring (lt r hr) (lb.1.ring r hr).1) (by rw[h.n];exact sS _ _ _)).mono fun c hc=>.mem ?_
  obtain⟨c1,c2⟩:=List.mem_filter.mp hc;refine List.mem_filter.mpr ⟨c1,?_⟩
  rwa [e' c (lt' c c1),e' _ (sS _ _ _)]at c2
 constructor
 ·have:=DK hI fun b hb=>(sp b hb).mono fun c hc=>.mem (List.mem_filter.mp hc).1
  rwa [List.length_map]at this
 ·intro i a b ha hb;have:=Aq (f:=l') R5 (List.pairwise_map.mpr (List.Pairwise.imp_of_mem (fun {x y} hx hy h=>by rw[el x (lt x hx),el y (lt y hy)];exact h) pw)) hI sp i a (cM N.n f b) ha (by rw[List.getElem?_map,hb];rfl)
  rwa [el b (lt b (gy hb))]at this
end
end RM
namespace Ring
open PySem L2
def turnT(ts:List c9)(k:Nat):c9:=if k%2=0 then aU ts k else((aU ts k).2.1,(aU ts k).1,(aU ts k).2.2)
def anew(ts:List c9)(row:List Nat):List c9:=row.map (turnT ts)
theorem EV{a b:List Int}(h:a.Perm b):a.sum=b.sum:=by
 induction h with
 | nil=>rfl
 | cons x _ ih=>rw[List.sum_cons,List.sum_cons,ih]
 | swap x y l=>rw[List.sum_cons,List.sum_cons,List.sum_cons,List.sum_cons];lia
 | trans _ _ h1 h2=>exact h1.trans h2
section
variable {p:Nat}{ts:List c9}{row:List Nat}
theorem BZ{k:Nat}(g:aA p ts)(hk:k<ts.length):mh (p:Int) (turnT ts k):=by
 have z:=g.vz _ (eI hk);unfold turnT
 split
 ·exact z
 ·exact⟨z.b0,z.b1,z.a0,z.a1,fun e=>z.ne e.symm,z.l0,z.l1⟩
theorem EW(g:aA p ts)(hr:row.Perm (List.range ts.length)):aA p (anew ts row):=by
 refine⟨g.p1,g.p2,?_,fun t ht=>?_⟩
 ·unfold anew;rw[List.length_map,hr.length_eq,List.length_range];exact g.len
 ·obtain⟨k,hk,rfl⟩:=List.mem_map.mp ht;exact BZ g (List.mem_range.mp (hr.mem_iff.mp hk))
theorem DL{i:Nat}(hi:i<row.length):aU (anew ts row) i=turnT ts (row.getD i 0):=by
 unfold aU anew;rw[List.getD_eq_getElem?_getD,List.getElem?_map,List.getD_eq_getElem?_getD,List.getElem?_eq_getElem hi];rfl
theorem IG(g:aA p ts)(hr:row.Perm (List.range ts.length))(g' : aA p (anew ts row)):RM.A4 g.N g'.N (fun i=>row.getD i 0) (fun k=>row.idxOf k):=by
 have rl:row.length=ts.length:=by rw[hr.length_eq,List.length_range]
 have al:(anew ts row).length=ts.length:=by unfold anew;rw[List.length_map,rl]
 have nd:row.Nodup:=hr.nodup_iff.mpr List.nodup_range;have get:∀ i,i<ts.length->row.getD i 0∈row:=fun i hi=>by
  rw[List.getD_eq_getElem?_getD,List.getElem?_eq_getElem (by lia)]
  exact List.getElem_mem _
 have mem:∀ k,k<ts.length->k∈row:=fun k hk=>hr.mem_iff.mpr (List.mem_range.mpr hk)
 refine⟨al,rfl,fun i hi=>List.mem_range.mp (hr.mem_iff.mp (get i hi)),fun k hk=>?_,fun k hk=>?_,fun i hi=>?_,fun i x hi=>?_⟩
 ·have:=List.idxOf_lt_length_of_mem (mem k hk);show row.idxOf k<ts.length
  lia
 ·have:=List.idxOf_lt_length_of_mem (mem k hk);show row.getD (row.idxOf k) 0=k;rw[List.getD_eq_getElem?_getD,List.getElem?_eq_getElem this];exact List.getElem_idxOf this
 ·show row.idxOf (row.getD i 0)=i;have hi:i<row.length:=by have:i<ts.length:=hi;lia
  rw[List.getD_eq_getElem?_getD,List.getElem?_eq_getElem hi];exact List.Nodup.idxOf_getElem nd i hi
 ·have hi:i<row.length:=by have:i<ts.length:=hi;lia
  have e:=DL (ts:=ts) hi;show(decide ((aU (anew ts row) i).1.toNat=x)^^decide ((aU (anew ts row) i).2.1.toNat=x))=(decide ((aU ts (row.getD i 0)).1.toNat=x)^^decide ((aU ts (row.getD i 0)).2.1.toNat=x));rw[e];unfold turnT
  split
  ·rfl
  ·exact Bool.xor_comm _ _
theorem EX(hr:row.Perm (List.range ts.length)){m:Nat}(hm:m<2^ts.length):lenOf (anew ts row) (RM.cM ts.length (fun i=>row.getD i 0) m)=lenOf ts m:=by
 have rl:row.length=ts.length:=by rw[hr.length_eq,List.length_range]
 have al:(anew ts row).length=ts.length:=by unfold anew;rw[List.length_map,rl]
 have e1:lenOf ts m=(((List.range ts.length).filter fun k=>m.testBit k).map fun k=>(aU ts k).2.2).sum:=by
  unfold lenOf;rw[fX hm]
 have hm' : RM.cM ts.length (fun i=>row.getD i 0) m<2^ts.length:=RM.sS _ _ _
 have e2:lenOf (anew ts row) (RM.cM ts.length (fun i=>row.getD i 0) m)=(((List.range ts.length).filter fun i=>m.testBit (row.getD i 0)).map fun i=>(aU ts (row.getD i 0)).2.2).sum:=by
  unfold lenOf;rw[fX hm'];have f1:((List.range ts.length).filter fun k=>(RM.cM ts.length (fun i=>row.getD i 0) m).testBit k)=(List.range ts.length).filter fun i=>m.testBit (row.getD i 0):=List.filter_congr fun i hi=>by
   rw[RM.eg,cD (List.mem_range.mp hi),Bool.true_and]
  rw[f1]
  congr 1
  refine List.map_congr_left fun i hi=>?_
  have hi:=List.mem_range.mp (List.mem_filter.mp hi).1;rw[DL (by lia)]
  unfold turnT
  split<;>rfl
 have e3:row=(List.range ts.length).map fun i=>row.getD i 0:=by
  refine List.ext_getElem (by rw[List.length_map,List.length_range,rl]) fun i a b=>?_
  rw[List.getElem_map,List.getElem_range,List.getD_eq_getElem?_getD,List.getElem?_eq_getElem a];rfl
 have e4:(row.filter fun k=>m.testBit k).map (fun k=>(aU ts k).2.2)=((List.range ts.length).filter fun i=>m.testBit (row.getD i 0)).map fun i=>(aU ts (row.getD i 0)).2.2:=by
  conv=>lhs;rw[e3]
  rw[List.filter_map,List.map_map];rfl
 rw[e1,e2,<-e4];exact EV ((hr.filter _).map _)
end
end Ring
namespace L2
open PySem
theorem fJ{lo:Int}{n:Nat}{g:TG}{tb:TS}{D:Ends}{σ:St}{H:Hp}(Pv:Nat->St->Hp->Prop)(h0:Pv 0 σ H)
 (hs:∀ i,let D' : Ends:={ D with nx:=Pv (i+1),ct:=Pv (i+1),bk:=D.nx};∀ σ H,i<n->Pv i σ H->g (.int (lo+i)) σ H fun σ2 H2=>tb D' σ2 H2) (hd:∀ σ H,Pv n σ H->D.nx σ H) :
 ∃ W:Nat->Nat->St->Hp->Prop,(∃ m,W 0 m σ H)/\∀ i m σ H,W i m σ H->
   ((JA lo n).stop i H/\D.nx σ H)\/((JA lo n).go i H/\∃ N:St->Hp->Prop,(∀ σ' H',N σ' H'->∃ m',m'<m/\W (i+1) m' σ' H')/\∀ x H',(JA lo n).Jz i H x H'->g x σ H' fun σ2 H2=>tb { D with nx:=N,ct:=N,bk:=D.nx} σ2 H2) :=
 D5 Pv h0 (fun i σ H hi p=>hs i σ H hi p) hd
theorem dH{K:bX}{a:Addr}{xs:List V}{g:TG}{tb:TS}{D:Ends}{σ:St}{H:Hp}(Pv:Nat->St->Hp->Prop)(h0:Pv 0 σ H)(hl:∀ i σ H,i<=xs.length->Pv i σ H->aK K H a xs)
 (hs:∀ i x,let D' : Ends:={ D with nx:=Pv (i+1),ct:=Pv (i+1),bk:=D.nx};∀ σ H,xs[i]?=some x->Pv i σ H->g x σ H fun σ2 H2=>tb D' σ2 H2) (hd:∀ σ H,Pv xs.length σ H->D.nx σ H) :
 ∃ W:Nat->Nat->St->Hp->Prop,(∃ m,W 0 m σ H)/\∀ i m σ H,W i m σ H->
   ((JW K a).stop i H/\D.nx σ H)\/((JW K a).go i H/\∃ N:St->Hp->Prop,(∀ σ' H',N σ' H'->∃ m',m'<m/\W (i+1) m' σ' H')/\∀ x H',(JW K a).Jz i H x H'->g x σ H' fun σ2 H2=>tb { D with nx:=N,ct:=N,bk:=D.nx} σ2 H2) :=
 tE Pv h0 hl (fun i x σ H hi p=>hs i x σ H hi p) hd
theorem F8{X:Cx}{e:Expr}{T:String}{r:V->List V->Hp->VK->Prop}{to:TE}{t:TA}(K:bX)(p:PE X e (S3 X.K T r to t))(h:X.K=K:=by rfl):PE X e (S3 K T r to t):=by subst h;exact p
theorem bS{K:bX}{H:Hp}{a:Addr}{xs:List V}{k:Int}{v:V}{R:V->Prop}(hs:aQ K H a xs)(ha:D8 xs k=some v)(q:R v):∃ p ys k' w,V.ref a = .ref p/\V.int k = .int k'/\aQ K H p ys/\D8 ys k' = some w/\R w:=⟨a,xs,k,v,rfl,rfl,hs,ha,q⟩
theorem iy{K:bX}{H:Hp}{a:Addr}{xs:List V}{k:Int}{v:V}{R:V->Prop}(hs:aK K H a xs)(ha:D8 xs k=some v)(q:R v):∃ p ys k' w,V.ref a = .ref p/\V.int k = .int k'/\aK K H p ys/\D8 ys k' = some w/\R w:=⟨a,xs,k,v,rfl,rfl,hs,ha,q⟩
theorem bW{i j:Int}{R:Int->Int->Prop}(h:R i j):∃ i' j',V.int i = .int i'/\V.int j = .int j'/\R i' j':=⟨i,j,rfl,rfl,h⟩
theorem lS{K:bX}{H:Hp}{a:Addr}{xs:List V}{E:Addr->Prop}{R:List V->Prop}(e:E a)(h:aK K H a xs\/aQ K H a xs)(q:R xs):∃ p ys,E p/\(aK K H p ys\/aQ K H p ys)/\R ys:=⟨a,xs,e,h,q⟩
theorem aq{α:Type}{A R:α->Prop}{x:α}(h:A x)(r:R x):∃ x,A x/\R x:=⟨x,h,r⟩
open PySem PySem.Spec PyProof.Rows
section
variable {K:bX}{mg:mZ}{x:Str}{st:Stmt}{f c0 p0:Addr}{fd:FuncData}{ps:List Str}{h:Heap}
structure Dc(K:bX)(mg:mZ)(x:Str)(f:Addr)(fd:FuncData)(ps:List Str):Prop where
 m:mg x=some (.ref f)
 k:PySem.W.keepIn K (.ref f)=true
 b:Binds K fd ps []
structure Dk(K:bX)(x:Str)(st:Stmt)(f:Addr)(fd:FuncData):Prop where
 F:Kl K x x st f fd
 n:PySem.W.nsIn K mainGlobals x=some (some (.ref f))
structure NS(K:bX)(x:Str)(st:Stmt)(f:Addr)(fd:FuncData)(c0 p0:Addr):Prop where
 F:BS K x x st f fd c0 p0
 n:PySem.W.nsIn K mainGlobals x=some (some (.ref f))
structure Dn(K:bX)(mg:mZ)(x:Str)(st:Stmt)(f:Addr)(fd:FuncData)(ps:List Str):Prop where
 F:Kl K x x st f fd
 c:Dc K mg x f fd ps
structure Mh(K:bX)(mg:mZ)(x:Str)(st:Stmt)(f:Addr)(fd:FuncData)(ps:List Str)(c0 p0:Addr):Prop where
 F:BS K x x st f fd c0 p0
 c:Dc K mg x f fd ps
theorem dk{oc:Value}{od an:Option Addr}{osl:Array (Option Value)}{kV doc pm cdv ct:Value}(a:PySem.W.nsIn K mainGlobals x=some (some (.ref f)))
 (l:K.lookup f=some ⟨oc,od,.func (PySem.W.fnOf x x (dP st) (cf st) (ak st) .none kV doc pm an cdv ct),osl⟩) (c:PySem.W.codeIn K cdv x=true) (k:PySem.W.keepIn K (.ref f)=true) :
 Dk K x st f (PySem.W.fnOf x x (dP st) (cf st) (ak st) .none kV doc pm an cdv ct):=⟨MS l c k,a⟩
theorem YF{oc:Value}{od an:Option Addr}{osl:Array (Option Value)}{kV doc pm ct:Value}(a:PySem.W.nsIn K mainGlobals x=some (some (.ref f)))
 (l:K.lookup f=some ⟨oc,od,.func (PySem.W.fnOf x x (dP st) (cf st) (ak st) .none kV doc pm an (.ref c0) ct),osl⟩) (c:PySem.W.codeIn K (.ref c0) x=true) (k:PySem.W.keepIn K (.ref f)=true) (d:PySem.W.codeHdIn K c0 p0=true) :
 NS K x st f (PySem.W.fnOf x x (dP st) (cf st) (ak st) .none kV doc pm an (.ref c0) ct) c0 p0:=⟨Lf l c k d,a⟩
structure Ng(K:bX)(x:Str):Prop where
 n:PySem.W.nsIn K mainGlobals x=some none
def Bn(x:Str)(st:Stmt)(ps:List Str)(us:List Value):Prop:=∀(kV doc pm:Value) (an:Option Addr) (cdv ct:Value),bindArgs (PySem.W.fnOf x x (dP st) (cf st) (ak st) .none kV doc pm an cdv ct) ⟨us,[]⟩=pure (ps.zip us)
theorem Mi(h:∀ us:List Value,us.length=ps.length->Bn x st ps us)(kV doc pm:Value)(an:Option Addr)(cdv ct:Value)(us:List Value)(hl:us.length=ps.length):
 bindArgs (PySem.W.fnOf x x (dP st) (cf st) (ak st) .none kV doc pm an cdv ct) ⟨us,[]⟩=pure (ps.zip us):=h us hl kV doc pm an cdv ct
theorem Dk.dn(X:K.In h)(G:h.Ns mainGlobals mg)(D:Dk K x st f fd)(hb:∀ us:List Value,us.length=ps.length->Bn x st ps us):Dn K mg x st f fd ps:=⟨D.F,PySem.W.mg_of X G D.n,D.F.kp,D.F.binds (Mi hb)⟩
theorem NS.dn(X:K.In h)(G:h.Ns mainGlobals mg)(D:NS K x st f fd c0 p0)(hb:∀ us:List Value,us.length=ps.length->Bn x st ps us):Mh K mg x st f fd ps c0 p0:=⟨D.F,PySem.W.mg_of X G D.n,D.F.kp,D.F.binds (Mi hb)⟩
theorem YG{y:Str}(h:∀ a,Bn x st [y] [a])(us:List Value)(hl:us.length=[y].length):Bn x st [y] us:=by obtain⟨_,rfl⟩:=Tq us hl;exact h _
theorem VM{y z:Str}(h:∀ a b,Bn x st [y,z] [a,b])(us:List Value)(hl:us.length=[y,z].length):Bn x st [y,z] us:=by obtain⟨_,_,rfl⟩:=Tr us hl;exact h _ _
theorem VN{y z u:Str}(h:∀ a b c,Bn x st [y,z,u] [a,b,c])(us:List Value)(hl:us.length=[y,z,u].length):Bn x st [y,z,u] us:=by obtain⟨_,_,_,rfl⟩:=Tt us hl;exact h _ _ _
theorem YH{y z u v:Str}(h:∀ a b c d,Bn x st [y,z,u,v] [a,b,c,d])(us:List Value)(hl:us.length=[y,z,u,v].length):Bn x st [y,z,u,v] us:=by obtain⟨_,_,_,_,rfl⟩:=Tu us hl;exact h _ _ _ _
theorem EY{y:Str}(X:K.In h)(G:h.Ns mainGlobals mg)(D:Dk K x st f fd)(e:∀ a,Bn x st [y] [a]:=by intros;exact fun _ _ _ _ _ _=>rfl):Dn K mg x st f fd [y]:=D.dn X G (YG e)
theorem mY{y z:Str}(X:K.In h)(G:h.Ns mainGlobals mg)(D:Dk K x st f fd)(e:∀ a b,Bn x st [y,z] [a,b]:=by intros;exact fun _ _ _ _ _ _=>rfl):Dn K mg x st f fd [y,z]:=D.dn X G (VM e)
theorem OD{y z u:Str}(X:K.In h)(G:h.Ns mainGlobals mg)(D:Dk K x st f fd)(e:∀ a b c,Bn x st [y,z,u] [a,b,c]:=by intros;exact fun _ _ _ _ _ _=>rfl):Dn K mg x st f fd [y,z,u]:=D.dn X G (VN e)
theorem YI{y z u v:Str}(X:K.In h)(G:h.Ns mainGlobals mg)(D:Dk K x st f fd)(e:∀ a b c d,Bn x st [y,z,u,v] [a,b,c,d]:=by intros;exact fun _ _ _ _ _ _=>rfl):Dn K mg x st f fd [y,z,u,v]:=D.dn X G (YH e)
theorem YJ{y z:Str}(X:K.In h)(G:h.Ns mainGlobals mg)(D:NS K x st f fd c0 p0)(e:∀ a b,Bn x st [y,z] [a,b]:=by intros;exact fun _ _ _ _ _ _=>rfl):Mh K mg x st f fd [y,z] c0 p0:=D.dn X G (VM e)
theorem YK{y z u:Str}(X:K.In h)(G:h.Ns mainGlobals mg)(D:NS K x st f fd c0 p0)(e:∀ a b c,Bn x st [y,z,u] [a,b,c]:=by intros;exact fun _ _ _ _ _ _=>rfl):Mh K mg x st f fd [y,z,u] c0 p0:=D.dn X G (VN e)
theorem Dn.ok{P:Program}{w:World}{base:Heap}{N:List Str}{k:Nat}{sp:Sp}(D:Dn K mg x st f fd ps)(S:aE N ps (ak st))
 (hbody:∀(cdv:Value) (A:Around) (outer:List Env) (s:Shared) (H:Hp) (vs:List V) (Q:VK) (E:XK),eV k (A.deeper (envOfC x (ak st) s.heap.objs.size f cdv))->sp vs H Q E->
  ∃ t,vX (rS C5 P w K mg base N x (ak st) f cdv A outer s H E).A2 (cf st) t/\t { nx:=fun _ H'=>Q .dU H',rt:=Q} (start N vs) H)
 (len:∀ vs H Q E,sp vs H Q E->vs.length=ps.length:=by
  intro vs H Q E h
  first
  | (obtain⟨_,rfl,_⟩:=h;rfl)
  | (obtain⟨_,_,rfl,_⟩:=h;rfl)
  | (obtain⟨_,_,_,rfl,_⟩:=h;rfl)
  | (obtain⟨_,_,_,_,rfl,_⟩:=h;rfl)
  | (obtain⟨_,_,_,_,_,rfl,_⟩:=h;rfl)
  | (obtain⟨_,_,_,_,_,_,rfl,_⟩:=h;rfl)
  | (obtain⟨_,_,_,_,_,_,_,rfl,_⟩:=h;rfl)
  | (obtain⟨_,_,_,_,_,_,_,_,rfl,_⟩:=h;rfl)
  | (obtain⟨_,_,_,_,_,_,_,_,_,rfl,_⟩:=h;rfl)):lz P w K mg base C5 (k+1) f fd ps sp:=D.F.ok S len hbody
theorem Mh.ok{P:Program}{w:World}{base:Heap}{N:List Str}{k:Nat}{sp:Sp}(D:Mh K mg x st f fd ps c0 p0)(S:aE N ps (ak st))
 (hbody:∀(A:Around) (outer:List Env) (s:Shared) (H:Hp) (vs:List V) (Q:VK) (E:XK),eV k (A.deeper (envOfC x (ak st) s.heap.objs.size f (.ref c0)))->sp vs H Q E->
  ∃ t,vX (rS C5 P w K mg base N x (ak st) f (.ref c0) A outer s H E).A2 (cf st) t/\t { nx:=fun _ H'=>Q .dU H',rt:=Q} (start N vs) H)
 (len:∀ vs H Q E,sp vs H Q E->vs.length=ps.length:=by
  intro vs H Q E h
  first
  | (obtain⟨_,rfl,_⟩:=h;rfl)
  | (obtain⟨_,_,rfl,_⟩:=h;rfl)
  | (obtain⟨_,_,_,rfl,_⟩:=h;rfl)
  | (obtain⟨_,_,_,_,rfl,_⟩:=h;rfl)
  | (obtain⟨_,_,_,_,_,rfl,_⟩:=h;rfl)
  | (obtain⟨_,_,_,_,_,_,rfl,_⟩:=h;rfl)
  | (obtain⟨_,_,_,_,_,_,_,rfl,_⟩:=h;rfl)
  | (obtain⟨_,_,_,_,_,_,_,_,rfl,_⟩:=h;rfl)
  | (obtain⟨_,_,_,_,_,_,_,_,_,rfl,_⟩:=h;rfl)):lz P w K mg base C5 (k+1) f fd ps sp:=D.F.ok S len hbody
theorem Dn.F5{P:Program}{w:World}{base:Heap}{N:List Str}{k:Nat}{sp:Sp}(D:Dn K mg x st f fd ps)(S:aE N ps (ak st))
 (hbody:∀(cdv:Value) (A:Around) (outer:List Env) (s:Shared) (H:Hp) (vs:List V) (Q:VK) (E:XK),eV k (A.deeper (envOfC x (ak st) s.heap.objs.size f cdv))->sp vs H Q E->
  ∃ t,vX (rS (GO P w) P w K mg base N x (ak st) f cdv A outer s H E) (cf st) t/\t { nx:=fun _ H'=>Q .dU H',rt:=Q} (start N vs) H)
 (len:∀ vs H Q E,sp vs H Q E->vs.length=ps.length:=by
  intro vs H Q E h
  first
  | (obtain⟨_,rfl,_⟩:=h;rfl)
  | (obtain⟨_,_,rfl,_⟩:=h;rfl)
  | (obtain⟨_,_,_,rfl,_⟩:=h;rfl)
  | (obtain⟨_,_,_,_,rfl,_⟩:=h;rfl)
  | (obtain⟨_,_,_,_,_,rfl,_⟩:=h;rfl)
  | (obtain⟨_,_,_,_,_,_,rfl,_⟩:=h;rfl)
  | (obtain⟨_,_,_,_,_,_,_,rfl,_⟩:=h;rfl)
  | (obtain⟨_,_,_,_,_,_,_,_,rfl,_⟩:=h;rfl)
  | (obtain⟨_,_,_,_,_,_,_,_,_,rfl,_⟩:=h;rfl)):lz P w K mg base (GO P w) (k+1) f fd ps sp:=D.F.F5 S len hbody
theorem NT{y:Str}(D:Dk K x st f fd)(e:∀ a,Bn x st [y] [a]:=by intros;exact fun _ _ _ _ _ _=>rfl)(s:Shared)(v:Value):BindsTo s fd ⟨[v],[]⟩ [(y,v)]:=by
 obtain⟨oc,od,kV,doc,pm,an,cdv,ct,osl,rfl,lk,hcd⟩:=D.F.ex;exact .of_eq (e v kV doc pm an cdv ct)
end
section
variable {X:Cx}
theorem aI{CX:F3}{k r:Nat}{f:Addr}{fd:FuncData}{ps:List Str}{sp:Sp}{x:Str}{E:XK}{e:Expr}{es:List Expr}{t:TA}{p pos:Pos}
 (F:lz X.prog X.w X.K X.mg X.base CX k f fd ps sp) (hr:eV r X.A) (D:Dc X.K X.mg x f fd ps) (hx:Passes CX X E) (ha:PA X (e::es) t) (hk:k<=r:=by decide) (hg:Gl X x:=by rfl)
 (hdb:(x==("__debug__":Str))=false:=by decide) (he:starEach (e::es) X.env=(false,eval e X.env)::starEach es X.env:=by rfl) (hpl:(backTo pos (starEach es X.env)).any (·.1)=false:=by rfl) :
 PE X (.Call (.Name x p) (e::es) [] pos) (LN sp [] E t):=J7 F (hr.mono hk) hg D.m D.k D.b .nil hx ha hdb he hpl
theorem k7(l:List Str)(h:l.Nodup:=by decide +kernel):l.Nodup:=h
theorem bL{p pos:Pos}{e:Expr}{es:List Expr}{t:TA}(K:bX)(hm:X.mg "len"=none)(ha:PA X (e::es) t)(hK:X.K=K:=by rfl)(hg:Gl X "len":=by rfl)
 (he:starEach (e::es) X.env=(false,eval e X.env)::starEach es X.env:=by rfl) (hpl:(backTo pos (starEach es X.env)).any (·.1)=false:=by rfl):PE X (.Call (.Name "len" p) (e::es) [] pos) (SV (PU K) t) :=
 dm (Tc K hK) hg hm PySem.boot_len ha (by decide) (by decide) he hpl
theorem aB{a b:Expr}{ta tb:TE}{pos:Pos}{r:R2}(hr:Ot X r)(ha:PE X a ta)(hb:PE X b tb)(hs:C4 b:=by exact fun _ _=>rfl):PE X (.Subscript a b pos) (Ph r ta tb):=Px hr ha hb hs
theorem bu{x:Str}{pos:Pos}(i:Nat)(hN:X.N.Nodup)(hi:X.N[i]?=some x:=by exact rfl)(hx:Loc X.env.scope x:=by exact Or.inl rfl)(hf:X.fn x=true\/X.env.scope.names.lookup x=some .local:=by first | exact .inl rfl | exact .inr rfl | assumption):PG X (.Name x pos) (Gi i):=xK hN hi hx hf
end
end L2
set_option maxHeartbeats 4000000
namespace K32
open PySem L2 Ring
local macro_rules | `(tactic| trivial)=>`(tactic| exact⟨rfl,rfl,rfl,by decide +kernel,rfl,by decide +kernel,by decide +kernel⟩)
def top(i:Nat):Stmt:=PySem.Challenge.pw_ringbase_k32_whole_no_base_is_shorter.main.body.getD i (.Pass ⟨0,0,0,0⟩)
section
variable {iq iK je k8 sU A5 F9 JI JJ OE QA QB QC QD QE QF:TS}{jX JK RL:TT}{nS VO:TI}{nU VP:TG}{D:Ends}{σ:St}{H:Hp}
abbrev qu:Stmt:=top 6
theorem B3:aE ["tie_set","tie"] ["tie_set","tie"] (ak qu):=by trivial
abbrev mG:Stmt:=top 7
theorem B4:aE ["tie_set"] ["tie_set"] (ak mG):=by trivial
abbrev uM:Stmt:=top 8
theorem mH:aE ["web","ties","found","tie"] ["web","ties"] (ak uM):=by trivial
theorem xB(h:let cQ:=iq;let c7:=iK;let ez:=je;let gz:=(ay (cE jX ez bC) c7);let iz:=(ay (eG nS nU gz) cQ);(ay k8 iz) D σ H):(ay k8 (ay (eG nS nU (ay (cE jX je bC) iK)) iq)) D σ H:=h
abbrev nC:Stmt:=top 9
theorem As:aE ["web"] ["web"] (ak nC):=by trivial
abbrev uN:Stmt:=top 10
theorem EZ:aE ["web","number"] ["web","number"] (ak uN):=by trivial
abbrev lT:Stmt:=top 11
theorem yk:aE ["web","tie_set"] ["web","tie_set"] (ak lT):=by trivial
theorem ym(h:let cQ:=iq;(cE jX cQ bC) D σ H):(cE jX iq bC) D σ H:=h
abbrev iL:Stmt:=top 12
theorem vD:aE ["web","tie_set"] ["web","tie_set"] (ak iL):=by trivial
theorem m8(h:let cQ:=iq;(ay iK cQ) D σ H):(ay iK iq) D σ H:=h
abbrev jq:Stmt:=top 13
theorem yn:aE ["web","tie_set"] ["web","tie_set"] (ak jq):=by trivial
abbrev iM:Stmt:=top 14
theorem ff:aE ["web","tie_set","ends","one","other","length"] ["web","tie_set"] (ak iM):=by trivial
theorem m9(h:let cQ:=iq;let c7:=iK;let ez:=(ay je c7);let gz:=(ay (eG nS nU ez) cQ);(ay k8 gz) D σ H):(ay k8 (ay (eG nS nU (ay je iK)) iq)) D σ H:=h
abbrev eK:Stmt:=top 15
theorem gj:aE ["leasts","one","other","low","high"] ["leasts","one","other"] (ak eK):=by trivial
theorem jr(h:let cQ:=iq;let c7:=(ay iK cQ);(ay je c7) D σ H):(ay je (ay iK iq)) D σ H:=h
abbrev oY:Stmt:=top 16
theorem fN:aE ["web","tie_set","leasts","one","other","length","found","start"] ["web","tie_set"] (ak oY):=by trivial
theorem E1(h:let cQ:=iq;let c7:=iK;let ez:=(cE jX c7 bC);let gz:=(ay (eG nS nU ez) cQ);let iz:=(ay je gz);let oZ:=k8;let uO:=(ay (eG VO VP oZ) iz);(ay sU uO) D σ H):(ay sU (ay (eG VO VP k8) (ay je (ay (eG nS nU (cE jX iK bC)) iq)))) D σ H:=h
abbrev B5:Stmt:=top 17
theorem Lj:aE ["web"] ["web"] (ak B5):=by trivial
abbrev qv:Stmt:=top 19
theorem B6:aE ["web","tie_set"] ["web","tie_set"] (ak qv):=by trivial
abbrev fu:Stmt:=top 20
theorem aY:aE ["web","leasts","trails","tie","one","other","bridge","moved"] ["web"] (ak fu):=by trivial
theorem qw(h:let cQ:=iq;let c7:=iK;let ez:=(ay je c7);let gz:=(ay k8 ez);let iz:=(ay sU gz);let oZ:=(cE jX iz bC);let uO:=(ay A5 oZ);let DM:=(ay F9 uO);let DN:=(ay (eG nS nU DM) cQ);let DO:=(ay JI DN);(ay JJ DO) D σ H):(ay JJ (ay JI (ay (eG nS nU (ay F9 (ay A5 (cE jX (ay sU (ay k8 (ay je iK))) bC)))) iq))) D σ H:=h
abbrev uP:Stmt:=top 21
theorem mJ:aE ["web","found","trail"] ["web"] (ak uP):=by trivial
theorem xC(h:let cQ:=iq;let c7:=iK;let ez:=(ay (eG nS nU c7) cQ);(ay je ez) D σ H):(ay je (ay (eG nS nU iK) iq)) D σ H:=h
abbrev uQ:Stmt:=top 22
theorem E2:aE ["web"] ["web"] (ak uQ):=by trivial
abbrev jA:Stmt:=top 23
theorem lU:aE ["web","trails","chord","tie"] ["web","trails","chord"] (ak jA):=by trivial
abbrev kr:Stmt:=top 24
theorem vE:aE ["web","tie"] ["web","tie"] (ak kr):=by trivial
theorem g9(h:let cQ:=iq;let c7:=iK;(ay (cE jX c7 bC) cQ) D σ H):(ay (cE jX iK bC) iq) D σ H:=h
abbrev mK:Stmt:=top 26
theorem uR:aE ["web","tie_set","touched"] ["web","tie_set"] (ak mK):=by trivial
theorem B7(h:let cQ:=iq;let c7:=(ay iK cQ);let ez:=je;(ay (cE jX ez bC) c7) D σ H):(ay (cE jX je bC) (ay iK iq)) D σ H:=h
abbrev gH:Stmt:=top 27
theorem o4:aE ["web","number"] ["web","number"] (ak gH):=by trivial
abbrev jt:Stmt:=top 28
theorem yo:aE ["web","rings"] ["web","rings"] (ak jt):=by trivial
def gm:Pos:=⟨93,29,93,70⟩
abbrev uS:Stmt:=top 30
theorem E3:aE ["one","other"] ["one","other"] (ak uS):=by trivial
abbrev jB:Stmt:=top 31
theorem uT:aE ["tie_set","marks"] ["tie_set","marks"] (ak jB):=by trivial
abbrev qx:Stmt:=top 32
theorem ku:aE ["web","side","ahead","point"] ["web","side"] (ak qx):=by trivial
abbrev o5:Stmt:=top 33
theorem E4:aE ["web","side"] ["web","side"] (ak o5):=by trivial
abbrev mL:Stmt:=top 34
theorem kA:aE ["web","tie_set","trails","side","amiss"] ["web","tie_set"] (ak mL):=by trivial
theorem B8(h:let cQ:=iq;let c7:=iK;let ez:=(ay (cE jX c7 bC) cQ);let gz:=(ay je ez);let iz:=(ay k8 gz);let oZ:=(ay sU iz);(ay A5 oZ) D σ H):(ay A5 (ay sU (ay k8 (ay je (ay (cE jX iK bC) iq))))) D σ H:=h
abbrev eM:Stmt:=top 36
theorem cN:aE ["web","marks","steps","tie","ends","turn"] ["web","marks"] (ak eM):=by trivial
theorem o6(h:let cQ:=iq;let c7:=iK;let ez:=(ay je c7);let gz:=(ay k8 ez);let iz:=(ay (eG nS nU gz) cQ);(ay sU iz) D σ H):(ay sU (ay (eG nS nU (ay k8 (ay je iK))) iq)) D σ H:=h
abbrev gn:Stmt:=top 37
theorem bF:aE ["web","marks","start","steps","found","waiting","nearest","way","tie","point","turn","part","further"] ["web","marks","start"] (ak gn):=by trivial
theorem vF(h:let cQ:=iq;let c7:=iK;let ez:=(cE JK c7 bC);let gz:=(ay je ez);let iz:=(ay k8 gz);let oZ:=(eG nS nU iz);let uO:=(ay sU oZ);let DM:=(ay A5 uO);let DN:=(ay F9 DM);let DO:=(ay (nj jX DN) cQ);let uU:=(ay JI DO);let r9:=(ay JJ uU);(ay OE r9) D σ H):(ay OE (ay JJ (ay JI (ay (nj jX (ay F9 (ay A5 (ay sU (eG nS nU (ay k8 (ay je (cE JK iK bC)))))))) iq)))) D σ H:=h
def cU:Pos:=⟨131,35,131,63⟩
abbrev iA:Stmt:=top 38
theorem qy:aE ["way"] ["way"] (ak iA):=by trivial
abbrev eN:Stmt:=top 39
theorem o7:aE ["ways"] ["ways"] (ak eN):=by trivial
abbrev eO:Stmt:=top 41
theorem o8:aE ["web","marks"] ["web","marks"] (ak eO):=by trivial
abbrev fB:Stmt:=top 42
theorem qz:aE ["ways"] ["ways"] (ak fB):=by trivial
abbrev ju:Stmt:=top 43
theorem kB:aE ["web","marks","ways","rounds"] ["web","marks"] (ak ju):=by trivial
theorem yq(h:let cQ:=iq;let c7:=iK;let ez:=(ay (cE jX c7 bC) cQ);let gz:=(ay je ez);let iz:=(ay k8 gz);(ay sU iz) D σ H):(ay sU (ay k8 (ay je (ay (cE jX iK bC) iq)))) D σ H:=h
abbrev qA:Stmt:=top 45
theorem eA:aE ["rows","tie_set","left","used","lead","row","places"] ["rows","tie_set"] (ak qA):=by trivial
theorem B9(h:let cQ:=iq;let c7:=iK;let ez:=(ay je c7);let gz:=(cE jX ez bC);let iz:=(ay (eG nS nU gz) cQ);let oZ:=(ay k8 iz);(ay sU oZ) D σ H):(ay sU (ay k8 (ay (eG nS nU (cE jX (ay je iK) bC)) iq))) D σ H:=h
abbrev nE:Stmt:=top 46
theorem lV:aE ["rows","added","found","old"] ["rows","added"] (ak nE):=by trivial
theorem Au(h:let cQ:=iq;let c7:=iK;let ez:=je;let gz:=(cE jX c7 ez);let iz:=(ay (eG nS nU gz) cQ);(ay k8 iz) D σ H):(ay k8 (ay (eG nS nU (cE jX iK je)) iq)) D σ H:=h
abbrev qB:Stmt:=top 47
theorem gJ:aE ["sets","rows","place","tie_set","rest"] ["sets"] (ak qB):=by trivial
theorem uV(h:let cQ:=iq;let c7:=iK;let ez:=(cE jX c7 bC);let gz:=(ay je ez);let iz:=(ay (eG nS nU gz) cQ);(ay k8 iz) D σ H):(ay k8 (ay (eG nS nU (ay je (cE jX iK bC))) iq)) D σ H:=h
abbrev mO:Stmt:=top 48
theorem Ca:aE ["web","rings"] ["web","rings"] (ak mO):=by trivial
abbrev fh:Stmt:=top 49
theorem c6:aE ["web","waiting","found","marks","ring"] ["web"] (ak fh):=by trivial
theorem uW(h:let cQ:=iq;let c7:=iK;let ez:=(ay je c7);let gz:=(ay k8 ez);let iz:=(ay sU gz);let oZ:=(ay (nj jX iz) cQ);let uO:=(ay A5 oZ);(ay F9 uO) D σ H):(ay F9 (ay A5 (ay (nj jX (ay sU (ay k8 (ay je iK)))) iq))) D σ H:=h
abbrev mP:Stmt:=top 50
theorem Cb:aE ["web"] ["web"] (ak mP):=by trivial
abbrev jC:Stmt:=top 52
theorem uX:aE ["script","k"] ["script","k"] (ak jC):=by trivial
abbrev lW:Stmt:=top 53
theorem kC:aE ["cell","k","near","stir"] ["cell","k"] (ak lW):=by trivial
abbrev kD:Stmt:=top 54
theorem vG:aE ["cell","way"] ["cell","way"] (ak kD):=by trivial
theorem vH(h:let cQ:=iq;let c7:=iK;let ez:=(ay (cE jX c7 bC) cQ);let gz:=je;(ay (cE JK gz bC) ez) D σ H):(ay (cE JK je bC) (ay (cE jX iK bC) iq)) D σ H:=h
abbrev qC:Stmt:=top 55
theorem kE:aE ["cell","points","way","one","other"] ["cell","points","way"] (ak qC):=by trivial
theorem Cc(h:let cQ:=iq;let c7:=(ay iK cQ);let ez:=(ay je c7);(ay k8 ez) D σ H):(ay k8 (ay je (ay iK iq))) D σ H:=h
abbrev gM:Stmt:=top 56
theorem bH:aE ["script","most","ranked","head","points","way","cells","ties","marks","free","cell","tie","joined","old"] ["script","most","ranked"] (ak gM):=by trivial
theorem Cd(h:let cQ:=iq;let c7:=iK;let ez:=(ay je c7);let gz:=(ay k8 ez);let iz:=(ay sU gz);let oZ:=(cE jX iz bC);let uO:=(ay A5 oZ);let DM:=(ay F9 uO);let DN:=(ay (eG nS nU DM) cQ);let DO:=(ay JI DN);let uU:=(ay JJ DO);let r9:=(ay OE uU);let QG:=QA;let QH:=(ay QB QG);let QI:=(ay (cE JK QH bC) r9);let QJ:=(ay QC QI);let QK:=(ay QD QJ);let QL:=(ay QE QK);(ay QF QL) D σ H):(ay QF (ay QE (ay QD (ay QC (ay (cE JK (ay QB QA) bC) (ay OE (ay JJ (ay JI (ay (eG nS nU (ay F9 (ay A5 (cE jX (ay sU (ay k8 (ay je iK))) bC)))) iq))))))))) D σ H:=h
abbrev kF:Stmt:=top 58
theorem jD:aE ["web","some","counts","k"] ["web","some"] (ak kF):=by trivial
theorem nc(h:let cQ:=iq;let c7:=iK;let ez:=(ay je c7);let gz:=(cE jX ez bC);let iz:=(ay (eG nS nU gz) cQ);(ay k8 iz) D σ H):(ay k8 (ay (eG nS nU (cE jX (ay je iK) bC)) iq)) D σ H:=h
abbrev gp:Stmt:=top 59
theorem fj:aE ["web","some","marks","k","old"] ["web","some"] (ak gp):=by trivial
abbrev ja:Stmt:=top 62
theorem rP:aE ["web","some","counts"] ["web","some"] (ak ja):=by trivial
theorem rQ(h:let cQ:=iq;let c7:=iK;let ez:=(ay (cE jX c7 bC) cQ);(ay je ez) D σ H):(ay je (ay (cE jX iK bC) iq)) D σ H:=h
abbrev kG:Stmt:=top 63
theorem Av:aE ["web","some"] ["web","some"] (ak kG):=by trivial
abbrev qD:Stmt:=top 65
theorem eB:aE ["web","some","one","other","came","line","at","here","k","there"] ["web","some","one","other"] (ak qD):=by trivial
theorem Ce(h:let cQ:=iq;let c7:=iK;let ez:=(ay je c7);let gz:=(cE RL ez bC);let iz:=(ay k8 gz);let oZ:=(cE JK iz bC);let uO:=(eG nS nU oZ);let DM:=(ay sU uO);let DN:=(ay A5 DM);let DO:=(ay (nj jX DN) cQ);let uU:=(ay F9 DO);let r9:=(ay JI uU);(ay JJ r9) D σ H):(ay JJ (ay JI (ay F9 (ay (nj jX (ay A5 (ay sU (eG nS nU (cE JK (ay k8 (cE RL (ay je iK) bC)) bC))))) iq)))) D σ H:=h
abbrev gq:Stmt:=top 66
theorem bZ:aE ["web","order","some","rings","k","way"] ["web","order"] (ak gq):=by trivial
theorem nF(h:let cQ:=iq;let c7:=iK;let ez:=je;let gz:=(cE jX c7 ez);let iz:=(ay k8 gz);let oZ:=(ay (eG nS nU iz) cQ);let uO:=(ay sU oZ);(ay A5 uO) D σ H):(ay A5 (ay sU (ay (eG nS nU (ay k8 (cE jX iK je))) iq))) D σ H:=h
abbrev lX:Stmt:=top 67
theorem kH:aE ["cell","many","row","k"] ["cell","many"] (ak lX):=by trivial
abbrev iB:Stmt:=top 68
theorem eR:aE ["web","rings","cell","made","k","other"] ["web","rings","cell"] (ak iB):=by trivial
abbrev cO:Stmt:=top 69
theorem jc:aE ["web","rings","least","rising"] ["web","rings","least"] (ak cO):=by trivial
abbrev nG:Stmt:=top 70
theorem fO:aE ["web","row","ties","k","one","other","length"] ["web","row"] (ak nG):=by trivial
abbrev Aw:Stmt:=top 71
theorem kI:aE ["script","web","head","many","least","by_length_v","order","rings","others"] ["script"] (ak Aw):=by trivial
theorem NU(h:let cQ:=iq;let c7:=iK;let ez:=(cE jX c7 bC);let gz:=je;let iz:=(ay (cE JK gz bC) ez);let oZ:=(ay k8 iz);let uO:=(ay sU oZ);let DM:=(ay (eG nS nU uO) cQ);let DN:=(ay A5 DM);let DO:=(ay F9 DN);let uU:=(ay JI DO);let r9:=(ay JJ uU);(ay OE r9) D σ H):(ay OE (ay JJ (ay JI (ay F9 (ay A5 (ay (eG nS nU (ay sU (ay k8 (ay (cE JK je bC) (cE jX iK bC))))) iq)))))) D σ H:=h
end
set_option genInjectivity false
set_option genSizeOf false
structure Ug where
 E5:Addr
 E6:FuncData
 E7:Addr
 E8:FuncData
 II:Addr
 IJ:FuncData
 Cf:Addr
 Cg:FuncData
 IK:Addr
 IL:FuncData
 Ax:Addr
 Ay:FuncData
 yr:Addr
 yt:FuncData
 Az:Addr
 AA:FuncData
 yu:Addr
 yv:FuncData
 qF:Addr
 qG:FuncData
 IM:Addr
 IP:FuncData
 NV:Addr
 NW:FuncData
 E9:Addr
 Fb:FuncData
 se:Addr
 sj:FuncData
 IQ:Addr
 IS:FuncData
 IT:Addr
 IU:FuncData
 vI:Addr
 vJ:FuncData
 yw:Addr
 yx:FuncData
 Fc:Addr
 Fd:FuncData
 qH:Addr
 qI:FuncData
 AB:Addr
 AD:FuncData
 IV:Addr
 IW:FuncData
 vK:Addr
 vL:FuncData
 Fe:Addr
 Ff:FuncData
 IX:Addr
 IY:FuncData
 Fg:Addr
 Fi:FuncData
 qJ:Addr
 qK:FuncData
 yy:Addr
 yz:FuncData
 sq:Addr
 sr:FuncData
 qL:Addr
 qM:FuncData
 qN:Addr
 qO:FuncData
 su:Addr
 sy:FuncData
 AE:Addr
 AF:FuncData
 Fj:Addr
 Fl:FuncData
 Ci:Addr
 Cj:FuncData
 Fo:Addr
 Fp:FuncData
 Fq:Addr
 Ft:FuncData
 vM:Addr
 vN:FuncData
 Fv:Addr
 Fw:FuncData
 vO:Addr
 vP:FuncData
 AG:Addr
 AH:FuncData
 yC:Addr
 yD:FuncData
 Fy:Addr
 Fz:FuncData
 FA:Addr
 FD:FuncData
 yE:Addr
 yF:FuncData
 yG:Addr
 yH:FuncData
 Ck:Addr
 Cm:FuncData
 Cn:Addr
 Co:FuncData
 FE:Addr
 FF:FuncData
 o9:Addr
 pe:FuncData
 AI:Addr
 AJ:FuncData
 sA:Addr
 sC:FuncData
 pg:Addr
 pA:FuncData
 Cp:Addr
 Cq:FuncData
 QM:Addr
 QN:FuncData
 eE:Addr
 Cr:Addr
 qP:Addr
 AK:Addr
 ic:Addr
 yI:Addr
 dc:Addr
structure Txt(P:Program)(w:World)(base:Heap)(K:bX)(mg:mZ)(a:Ug):Prop where
 iS:Dn K mg "has_tie" qu a.E5 a.E6 ["tie_set","tie"]
 gO:Dn K mg "ties_in" mG a.E7 a.E8 ["tie_set"]
 uY:Dn K mg "set_of" uM a.II a.IJ ["web","ties"]
 jd:Dn K mg "all_ties" nC a.Cf a.Cg ["web"]
 pB:Dn K mg "is_set" uN a.IK a.IL ["web","number"]
 ie:Dn K mg "check_set" lT a.Ax a.Ay ["web","tie_set"]
 gr:Dn K mg "triples_in" iL a.yr a.yt ["web","tie_set"]
 jv:Dn K mg "length_of" jq a.Az a.AA ["web","tie_set"]
 kJ:Dn K mg "odd_points" iM a.yu a.yv ["web","tie_set"]
 eT:Dn K mg "drawn_together" eK a.qF a.qG ["leasts","one","other"]
 pC:Dn K mg "pieces" oY a.IM a.IP ["web","tie_set"]
 Cs:Dn K mg "rank" B5 a.NV a.NW ["web"]
 qQ:Dn K mg "is_even" qv a.E9 a.Fb ["web","tie_set"]
 dF:Dn K mg "forest_trails" fu a.se a.sj ["web"]
 uZ:Dn K mg "forest" uP a.IQ a.IS ["web"]
 pD:Dn K mg "chords" uQ a.IT a.IU ["web"]
 jE:Dn K mg "ring_closed" jA a.vI a.vJ ["web","trails","chord"]
 kK:Dn K mg "chord_ring" kr a.yw a.yx ["web","tie"]
 qR:Dn K mg "is_ring" mK a.Fc a.Fd ["web","tie_set"]
 gP:Dn K mg "is_ring_number" gH a.qH a.qI ["web","number"]
 jw:Mh K mg "by_length" jt a.AB a.AD ["web","rings"] a.AK a.ic
 u4:Dn K mg "common" uS a.IV a.IW ["one","other"]
 hU:Dn K mg "bears_oddly" jB a.vK a.vL ["tie_set","marks"]
 qS:Dn K mg "is_side" qx a.Fe a.Ff ["web","side"]
 u6:Dn K mg "cut_of" o5 a.IX a.IY ["web","side"]
 qT:Dn K mg "side_of" mL a.Fg a.Fi ["web","tie_set"]
 gQ:Dn K mg "steps_by_point" eM a.qJ a.qK ["web","marks"]
 iN:Mh K mg "least_ways" gn a.yy a.yz ["web","marks","start"] a.yI a.dc
 fC:Dn K mg "length_of_way" iA a.sq a.sr ["way"]
 gR:Dn K mg "worths_of_ways" eN a.qL a.qM ["ways"]
 gU:Dn K mg "all_least_ways" eO a.qN a.qO ["web","marks"]
 iC:Dn K mg "worths_of_all" fB a.su a.sy ["ways"]
 lY:Dn K mg "least_odd" ju a.AE a.AF ["web","marks"]
 qU:Dn K mg "reduced" qA a.Fj a.Fl ["rows","tie_set"]
 nH:Dn K mg "with_row" nE a.Ci a.Cj ["rows","added"]
 qV:Dn K mg "rows_of" qB a.Fo a.Fp ["sets"]
 qW:Dn K mg "is_base" mO a.Fq a.Ft ["web","rings"]
 jF:Dn K mg "least_rings" fh a.vM a.vN ["web"]
 mQ:Dn K mg "lengths" mP a.Fv a.Fw ["web"]
 h8:Dn K mg "_law_cell_at" jC a.vO a.vP ["script","k"]
 eF:Dn K mg "_law_mixed" lW a.AG a.AH ["cell","k"]
 kL:Dn K mg "_law_length" kD a.yC a.yD ["cell","way"]
 qX:Dn K mg "_law_tie" qC a.Fy a.Fz ["cell","points","way"]
 qY:Dn K mg "_law_web" gM a.FA a.FD ["script","most","ranked"]
 kM:Dn K mg "_law_counts" kF a.yE a.yF ["web","some"]
 kN:Dn K mg "_law_pieces" gp a.yG a.yH ["web","some"]
 nJ:Dn K mg "_law_ring" ja a.Ck a.Cm ["web","some"]
 nK:Dn K mg "_law_long" kG a.Cn a.Co ["web","some"]
 qZ:Dn K mg "_law_way" qD a.FE a.FF ["web","some","one","other"]
 gv:Dn K mg "_law_chord_rings" gq a.o9 a.pe ["web","order"]
 ig:Dn K mg "_law_order" lX a.AI a.AJ ["cell","many"]
 iD:Dn K mg "_law_exchanged" iB a.sA a.sC ["web","rings","cell"]
 dR:Dn K mg "_law_not_shorter" cO a.pg a.pA ["web","rings","least"]
 nL:Dn K mg "_law_anew" nG a.Cp a.Cq ["web","row"]
 Mj:Dn K mg "law" Aw a.QM a.QN ["script"]
 Ll:mg "ValueError"=none
 QO:mg "all"=none
 Uh:mg "bool"=none
 jx:mg "enumerate"=none
 IZ:mg "int"=none
 Lm:mg "isinstance"=none
 cz:mg "len"=none
 Ct:mg "list"=none
 Mk:mg "max"=none
 Ja:mg "min"=none
 bO:mg "range"=none
 QS:mg "set"=none
 u9:mg "sorted"=none
 Ml:mg "sum"=none
 sV:mg "tuple"=none
 QT:mg "zip"=none
 QU:mg "BadSet"=some (.ref a.eE)
 NX:mg "BadPoint"=some (.ref a.Cr)
 OF:mg "NoChord"=some (.ref a.qP)
 Jb:∀ h:Heap,K.In h->h.Ns mainGlobals mg->PyProof.Rows.OwnCls "BadSet" a.eE [.type "ValueError",.type "Exception",.type "BaseException",.type "object"] "ValueError.__new__" mg h
 FG:∀ h:Heap,K.In h->h.Ns mainGlobals mg->PyProof.Rows.OwnCls "NoChord" a.qP [.type "ValueError",.type "Exception",.type "BaseException",.type "object"] "ValueError.__new__" mg h
section
variable {P:Program}{w:World}{K:bX}{mg:mZ}{base:Heap}{a:Ug}{x:Str}{st:Stmt}{f c0 p0:Addr}{fd:FuncData}{ps:List Str}
abbrev Ok(_:Txt P w base K mg a)(_:Dn K mg x st f fd ps)(k:Nat)(sp:Sp):=lz P w K mg base C5 k f fd ps sp
abbrev JL(_:Txt P w base K mg a)(_:Dn K mg x st f fd ps)(k:Nat)(sp:Sp):=lz P w K mg base (GO P w) k f fd ps sp
abbrev VQ(_:Txt P w base K mg a)(_:Mh K mg x st f fd ps c0 p0)(k:Nat)(sp:Sp):=lz P w K mg base C5 k f fd ps sp
end
def Cu:Sp:=fun vs H Q _=>∃(S:Int) (k:Nat),vs=[.int S,.int (k:Int)]/\Q (.bl (bit S k)) H
def Cv:Sp:=fun vs H Q _=>∃ m:Nat,vs=[.int (m:Int)]/\Builtin.Int.intBits (m:Int)<=1000/\∀ D H',H D=none->au H H'->H' D=some (.lst (az (bx (m:Int))))->Q (.ref D) H'
def AL:Sp:=fun vs H Q _=>∃ w p ts,vs=[.ref w]/\bq H w p ts/\Ku p ts/\Q (.int (2^ts.length-1)) H
def FH:Sp:=fun vs H Q _=>∃ w p ts S,vs=[.ref w,.int S]/\bq H w p ts/\Ku p ts/\Q (.bl (decide (0<=S/\S<2^ts.length))) H
def pF(ts:List c9)(S:Int)(bad:Prop)(R:Nat->Prop):Prop:=(∃ m:Nat,S=(m:Int)/\m<2^ts.length/\R m)\/((S<0\/2^ts.length<=S)/\bad)
def yJ(C:Addr):Sp:=fun vs H Q E=>∃ w p ts S,vs=[.ref w,.int S]/\bq H w p ts/\Ku p ts/\pF ts S (E (.ref C) none H) fun _=>Q .dU H
def vQ(C:Addr):Sp:=fun vs H Q E=>∃ w p ts S,vs=[.ref w,.int S]/\bq H w p ts/\Ku p ts/\pF ts S (E (.ref C) none H) fun m =>
 ∀ D ys H',H D=none->au H H'->H' D=some (.lst ys)->Paired (TupAt H') ys ((bx (m:Int)).map (aU ts))->Q (.ref D) H'
def vR(C:Addr):Sp:=fun vs H Q E=>∃ w p ts S,vs=[.ref w,.int S]/\bq H w p ts/\Ku p ts/\pF ts S (∀ H',au H H'->E (.ref C) none H') fun m =>
 ∀ D H',au H H'->H' D=some (.lst (az (tN p ts (m:Int))))->Q (.ref D) H'
def Cw(C:Addr):Sp:=fun vs H Q E=>∃ w p ts S,vs=[.ref w,.int S]/\bq H w p ts/\Ku p ts/\pF ts S (∀ H',au H H'->E (.ref C) none H') fun m=>∀ H',au H H'->Q (.bl (decide (tN p ts (m:Int)=[]))) H'
section
variable {P:Program}{w:World}{K:bX}{mg:mZ}{base:Heap}{a:Ug}(T:Txt P w base K mg a)
theorem cI:Ok T T.iS 1 Cu:=by
 refine T.iS.ok B3 fun _ A _ s H vs Q E hr h=>?_
 ·obtain⟨S,k,rfl,q⟩:=h;refine⟨_,(av (aH (cV dW (aG Gm (aG tF (pv 0) (pv 1)) ah) ah (aM _)))),?_⟩;refine(aq rfl (aq rfl (bW ⟨(by lia),bW ⟨rfl,?_⟩⟩)))
  rw[Int.toNat_natCast,M8];exact q
theorem b7:Ok T T.gO 2 Cv:=by
 have cI:=cI T;refine T.gO.ok B4 fun _ A _ s H vs Q E hr h=>?_
 ·obtain⟨m,rfl,hm,k⟩:=h;refine⟨_,(av (aH (bM (own:=["tie"]) (fq:=["tie_set"]) (js:=[0]) (aD (ak mG) ["tie_set"]) rfl (aX (by rfl) T.bO (aa (GB PySem.F.plainAttrs_int PyProof.Rows.slot_int_bit_length PyProof.Rows.type_int_bit_length C8 (pv 0)) af)) (fun _ _ _ _=>(bu 0 (k7 ["tie","tie_set"]))) (fun _ _ _ _=>(fW (fT (aI cI hr T.iS.c aO (aa (pv 1) (aa (pv 0) af)))))) (fun _ _ _ _=>(pv 0))))),?_⟩
  refine(aq rfl ⟨rfl,aq rfl ⟨rfl,aq rfl ⟨(by lia),(by lia),fun D hD=>bN (lo:=0) (m:=Builtin.Int.intBits (m:Int)) (mU (bit (m:Int)) H D) (.start hD) (fun i acc H2 _ p=>p.len) (dl (Nat.ble_eq.mpr hm)) ?_ ?_⟩⟩⟩)
  ·intro i acc H2 hi p;rw[Int.zero_add];refine⟨rfl,aq rfl (aq rfl ⟨(m:Int),i,rfl,aq rfl (?_)⟩)⟩;cases hb:bit (m:Int) i with
   | true=>exact(aq rfl (p.yes hD (au.refl _) hb))
   | false=>exact p.no (au.refl _) hb
  ·intro acc H2 p;exact k D H2 hD p.1 (by rw[p.2.1,p.2.2];rfl)
theorem dh:Ok T T.jd 1 AL:=by
 refine T.jd.ok As fun _ A _ s H vs Q E hr h=>?_
 ·obtain⟨wb,p,ts,rfl,hw,W,q⟩:=h;refine⟨_,(av (aH (aG nq (aG jy ah (bL K T.cz (aa (aB (bR K) (pv 0) ah) af))) ah))),?_⟩;obtain⟨b,xs,h1,h2,h3⟩:=hw.ex;have hl:=h3.length;have wl:=W.len;refine(aq rfl (bS (aQ.of h1) (ai (j:=1) rfl) (lS rfl (.inr (aQ.of h2)) (bW ⟨⟨by lia,by lia,by decide⟩,bW (?_)⟩))))
  rw[Int.toNat_natCast,hl,Int.one_mul];exact q
theorem jU:Ok T T.pB 2 FH:=by
 have dh:=dh T;refine T.pB.ok EZ fun _ A _ s H vs Q E hr h=>?_
 ·obtain⟨wb,p,ts,S,rfl,hw,W,q⟩:=h;refine⟨_,(av (aH (A8 (cV Gs (pv 1) ah (aM _)) (A7 (cV Gr (pv 1) (aI dh hr T.jd.c aO (aa (pv 0) af)) (aM _)))))),?_⟩;refine(aq rfl (bW (aq rfl (mS (fun hlt=>?_) (fun hlt=>?_)))))
  ·have hlt:0<=S:=iG hlt;refine(aq rfl (aq rfl ⟨wb,p,ts,rfl,hw,W,_,_,rfl,rfl,?_⟩));have e:decide (S<=2^ts.length-1)=decide (0<=S/\S<2^ts.length):=decide_eq_decide.mpr ⟨fun z=>⟨hlt,by lia⟩,fun z=>by lia⟩
   rw[<-e]at q;exact q
  ·have hlt : ¬ 0<=S:=fun z=>hlt (cD z)
   rw[cR (fun z=>hlt z.1)]at q
   exact q
theorem cP:JL T T.ie 3 (yJ a.eE):=by
 have jU:=jU T;refine T.ie.F5 yk fun _ A _ s H vs Q E hr h=>?_
 ·obtain⟨wb,p,ts,S,rfl,hw,W,q⟩:=h;refine⟨_,(av (cG (pP (fT (aI jU hr T.pB.c aO (aa (pv 0) (aa (pv 1) af))))) (av (zf gE.Vk rfl (by rfl) T.Jb PySem.F.excBase_ValueError (aa sZ af))) bh)),?_⟩
  refine ym ?_;intro cQ;refine(aq rfl (aq rfl ⟨wb,p,ts,S,rfl,hw,W,?_⟩));have h2:((2:Int)^ts.length)=((2^ts.length:Nat):Int):=by simp
  rcases q with⟨m,rfl,hm,q⟩|⟨hS,q⟩
  ·rw[cD ⟨by lia,by lia⟩]
   exact(aq rfl (e8 q))
  ·rw[cR (by lia)]
   exact(aq rfl (gC ⟨dl rfl,q⟩))
theorem cy:JL T T.gr 4 (vQ a.eE):=by
 have cP:=cP T;have b7:=b7 T;refine T.gr.F5 vD fun _ A _ s H vs Q E hr h=>?_
 ·obtain⟨wb,p,ts,S,rfl,hw,W,q⟩:=h;refine⟨_,(aj (c8 (aI cP hr T.ie.c gE.passes (aa (pv 0) (aa (pv 1) af))))
   (av (aH (bM (own:=["tie"]) (fq:=["web"]) (js:=[0]) (aD (ak iL) ["web","tie_set"]) rfl (pL K (aI b7 hr T.gO.c aO (aa (pv 1) af))) (fun _ _ _ _=>(bu 0 (k7 ["tie","web"]))) (fun _ _ _ _=>bT) (fun _ _ _ _=>(aB (bR K) (aB (bR K) (pv 1) ah) (pv 0))))))),?_⟩
  refine m8 ?_;intro cQ;refine(aq rfl (aq rfl ⟨wb,p,ts,S,rfl,hw,W,?_⟩));rcases q with⟨m,rfl,hm,q⟩|⟨hS,q⟩
  ·refine .inl ⟨m,rfl,hm,?_⟩;have wl:=W.len;have hb:Builtin.Int.intBits (m:Int)<=ts.length:=bits_le hm;refine(aq rfl ⟨m,rfl,by lia,fun L H1 _ s1 hL=>⟨L,rfl,⟨_,aK.of hL⟩,fun D hD=>?_⟩⟩)
   obtain⟨b,xs,h1,h2,h3⟩:=(hw.same s1).ex;have sD:=h3.length;refine bQ (xs:=az (bx (m:Int))) (fun i acc H2=>au H1 H2/\H2 D=some (.lst acc)/\Paired (TupAt H2) acc (((bx (m:Int)).take i).map (aU ts))/\acc.length=i) ⟨au.new hD,ae,.nil,rfl⟩ ?_ ?_ ?_ ?_
   ·rintro i acc H2 _ ⟨s2,hd,pr,hac⟩;exact⟨aK.of (s2 _ _ hL),hd,Nat.le_of_eq hac⟩
   ·rw[aF];refine dl (Nat.ble_eq.mpr (Nat.le_trans (List.length_filter_le _ _) ?_));rw[List.length_range]
    lia
   ·rintro i x acc H2 hx ⟨s2,hd,pr,hac⟩;obtain⟨k,hk,rfl⟩:=fK hx;have jK:k<ts.length:=sI hm (gy hk);have hkx:k<xs.length:=by lia
    obtain⟨t,ht,c,hc,hct⟩:=Paired.tM h3 (i:=k) (x:=xs[k]) (by simp[hkx])
    have Qh:aU ts k=t:=by
     unfold aU;rw[List.getD_eq_getElem?_getD,ht];rfl
    refine⟨rfl,aq rfl (bS (aQ.of (s2 _ _ h1)) (ai (j:=1) rfl) (aq rfl (bS (v:=xs[k]) (aQ.of (s2 _ _ h2)) (ai (j:=k) (by simp[hkx])) (?_))))⟩
    rw[hc];refine⟨hd,s2.put hD,ae,?_,by rw[List.length_append,List.length_singleton,hac]⟩
    rw[List.take_add_one,hk,List.map_append];refine Paired.snoc (Paired.imp' (fun _ _ z=>z.tups (dz.put hd)) pr) ?_
    rw[Qh];exact⟨c,rfl,dz.put hd _ _ (s2 _ _ hct)⟩
   ·rintro acc H2 ⟨s2,hd,pr,hac⟩;rw[aF,List.take_length]at pr;exact q D acc H2 (s1.free hD) (s1.trans s2) hd pr
  ·exact .inr ⟨hS,q⟩
theorem kO:JL T T.kJ 5 (vR a.eE):=by
 have cy:=cy T;refine T.kJ.F5 ff fun _ A _ s H vs Q E hr h=>?_
 ·obtain⟨wb,p,ts,S,rfl,hw,W,q⟩:=h;refine⟨_,(aj (aC (i:=2) ff.nd rfl (Or.inr rfl) (aG Bm (cW (aa ah af)) (aB (bR K) (pv 0) ah)))
   (aj (xV rfl (pL K (aI cy hr T.gr.c gE.passes (aa (pv 0) (aa (pv 1) af)))) (JB K (n:=3) rfl (aV (bu 3 ff.nd) (aV (bu 4 ff.nd) (aV (bu 5 ff.nd) fU))))
   (aj (CP (pv 2) (pv 3) (getL K) ah CS set_list)
   (av (CP (pv 2) (pv 4) (getL K) ah CS set_list))))
   (av (aH (bM (own:=["point"]) (fq:=["ends"]) (js:=[2]) (aD (ak iM) ["web","tie_set","ends","one","other","length"]) rfl (aX (by rfl) T.bO (aa (aB (bR K) (pv 0) ah) af)) (fun _ _ _ _=>(bu 0 (k7 ["point","ends"]))) (fun _ _ _ _=>(fW (aL dW (aG cT (aB (iI K) (pv 1) (pv 0)) ah) ah (aM _)))) (fun _ _ _ _=>(pv 0))))))),?_⟩
  refine m9 ?_;intro cQ c7 ez gz;obtain⟨b,xs,h1,h2,h3⟩:=id hw.ex;have wp:=W.Vp;refine⟨dl rfl,fun l0 C6=>?_⟩
  have s0:au H (upd H l0 (.lst [.int 0])):=au.new C6;refine(aq rfl (bS (aQ.of (s0 _ _ h1)) (ai (j:=0) rfl) ⟨l0,(p:Int),aq rfl ⟨rfl,ae,by lia,by lia,(by rw[Int.toNat_natCast];show 1*p<=sizeLine;exact dl (Nat.ble_eq.mpr (by lia))),fun e he=>?_⟩⟩))
  have s1:=s0.trans (au.new (o:=.lst (List.replicate (p:Int).toNat [V.int 0]).flatten) he);have R6:upd (upd H l0 (.lst [.int 0])) e (.lst (List.replicate (p:Int).toNat [V.int 0]).flatten) e=some (.lst (lB (List.replicate p 0))):=by
   rw[ae,Int.toNat_natCast,GZ]
  generalize upd (upd H l0 (.lst [.int 0])) e (.lst (List.replicate (p:Int).toNat [V.int 0]).flatten)=H1 at s1 R6;have QV:H e=none:=s0.free he;refine(aq rfl (aq rfl ⟨wb,p,ts,S,rfl,hw.same s1,W,?_⟩));rcases q with⟨m,rfl,hm,q⟩|⟨hS,q⟩
  ·refine .inl ⟨m,rfl,hm,fun L ys H2 R7 s2 hL pr=>⟨L,rfl,⟨_,aK.of hL⟩,?_⟩⟩
   have s12:=s1.trans s2;have heL:e≠L:=aW R6 R7;have QW:ys.length<=24:=by
    rw[pr.length,List.length_map];have hb:Builtin.Int.intBits (m:Int)<=ts.length:=bits_le hm;have wl:=W.len;have:=List.length_filter_le (bit (m:Int)) (List.range (Builtin.Int.intBits (m:Int)));rw[List.length_range]at this;exact Nat.le_trans this (by lia)
   refine dH (K:=K) (a:=L) (xs:=ys) (fun i σ H3=>∃ v1 v2 v3,σ=[some (.ref wb),some (.int (m:Int)),some (.ref e),v1,v2,v3]/\(∀ x o,H2 x=some o->x≠e->H3 x=some o)/\H3 e=some (.lst (lB ((((bx (m:Int)).map (aU ts)).take i).foldl stepT (List.replicate p 0)))))
    ⟨none,none,none,rfl,fun _ _ z _=>z,s2 _ _ R6⟩ (fun i σ H3 _ ⟨_,_,_,_,z,_⟩=>aK.of (z _ _ hL (Ne.symm heL))) ?_ ?_
   ·rintro i y D' σ H3 hi ⟨v1,v2,v3,rfl,z3,FI⟩;obtain⟨t,ht,c,rfl,hc⟩:=Paired.tM pr hi;have hce:c≠e:=aS hc (s2 _ _ R6) (by intro z;cases z)
    have hc3:=z3 _ _ hc hce;have YL:t∈ts:=by
     obtain⟨k,hk,rfl⟩:=List.mem_map.mp (gy ht);unfold aU;have jK:=sI hm hk;rw[List.getD_eq_getElem?_getD];simp[jK]
    obtain⟨a0,a1,b0,b1⟩:=W.Vo.ends t YL;obtain⟨t1,t2,t3⟩:=t;dsimp only at a0 a1 b0 b1;obtain⟨j1,rfl⟩:=Int.eq_ofNat_of_zero_le a0;obtain⟨j2,rfl⟩:=Int.eq_ofNat_of_zero_le b0;generalize hE:(((bx (m:Int)).map (aU ts)).take i).foldl stepT (List.replicate p 0)=EE at FI;have VR:EE.length=p:=by rw[<-hE,pZ,List.length_replicate]
    have VS:j1<EE.length:=by lia
    have Io:j2<(bump EE (j1:Int)).length:=by rw[jL];lia
    refine⟨c,_,rfl,aQ.of hc3,rfl,_,_,rfl,_,_,rfl,_,_,rfl,rfl,?_⟩;refine(aq rfl (aq rfl ⟨e,_,j1,_,rfl,rfl,aK.of FI,p5 VS,_,_,rfl,rfl,e,_,_,j1,rfl,rfl,FI,l9 (by rw[lB,List.length_map];exact VS),?_⟩))
    rw[tP];refine(aq rfl (aq rfl ⟨e,_,j2,_,rfl,rfl,aK.of ae,p5 Io,_,_,rfl,rfl,e,_,_,j2,rfl,rfl,ae,l9 (by rw[lB,List.length_map];exact Io),?_⟩))
    rw[tP];refine⟨_,_,_,rfl,fun x o z hx=>by rw[ao hx,ao hx];exact z3 x o z hx,?_⟩
    rw[ae,List.take_add_one,ht,List.foldl_append,hE];rfl
   ·rintro σ H3 ⟨v1,v2,v3,rfl,z3,FI⟩;have hwe:wb≠e:=aW h1 QV;have pM:au H H3:=fun x o z=>z3 x o (s12 x o z) (aW z QV)
    have hE:H3 e=some (.lst (lB (jz p ts (m:Int)))):=by
     rw[FI,List.take_of_length_le (by rw[<-pr.length];exact Nat.le_refl _),wC hm]
    have VR:(jz p ts (m:Int)).length=p:=by rw[wC hm,pZ,List.length_replicate]
    refine(aq rfl (bS (aQ.of (pM _ _ h1)) (ai (j:=0) rfl) (aq rfl ⟨(by lia),(by lia),fun D hD=>bN (lo:=0) (m:=p) (mU (fun i=>decide ((jz p ts (m:Int)).getD i 0%2=1)) H3 D) (.start hD) (fun i acc H4 _ p=>p.len) (dl (Nat.ble_eq.mpr (by lia))) ?_ ?_⟩)))
    ·intro i acc H4 hi pk;rw[Int.zero_add];refine⟨rfl,aq rfl (aq rfl (iy (aK.of (pk.1 _ _ hE)) (ai (j:=i) (p5 (by rw[VR];exact hi))) (bW ⟨(mT rfl),rfl,aq rfl (?_)⟩)))⟩
     rw[Kw];cases hb:decide ((jz p ts (m:Int)).getD i 0%2=1) with
     | true=>exact(aq rfl (pk.yes hD (au.refl _) hb))
     | false=>exact pk.no (au.refl _) hb
    ·intro acc H4 pk;exact q D H4 (pM.trans pk.1) (by rw[pk.2.1,pk.2.2];rfl)
  ·exact .inr ⟨hS,q _ s1⟩
theorem q9:JL T T.qQ 6 (Cw a.eE):=by
 have kO:=kO T;refine T.qQ.F5 B6 fun _ A _ s H vs Q E hr h=>?_
 ·obtain⟨wb,p,ts,S,rfl,hw,W,q⟩:=h;refine⟨_,(av (aH (cV (Bp K hr.units) (aI kO hr T.kJ.c gE.passes (aa (pv 0) (aa (pv 1) af))) (cW af) (aM _)))),?_⟩;refine(aq rfl (aq rfl ⟨wb,p,ts,S,rfl,hw,W,?_⟩));rcases q with⟨m,rfl,hm,q⟩|⟨hS,q⟩
  ·refine .inl ⟨m,rfl,hm,fun D H1 s1 hD=>⟨dl rfl,fun l hl=>?_⟩⟩
   have s2:au H1 (upd H1 l (.lst [])):=au.new hl;refine⟨_,_,.lst (aK.of (s2 _ _ hD)) (zo _),.lst (aK.of ae) .nil,zq _,rfl,?_⟩;rw[Kv];exact q _ (s1.trans s2)
  ·exact .inr ⟨hS,q⟩
def Jc:Sp:=fun vs H Q _=>∃(l:Addr) (L:Nat->Nat) (p u v:Nat),vs=[.ref l,.int (u:Int),.int (v:Int)]/\H l=some (.lst (cu L p))/\p<=10/\u<p/\v<p/\
 ∀ D H',H D=none->au H H'->H' D=some (.lst (cu (RM.join L u v) p))->Q (.ref D) H'
def FJ(C:Addr):Sp:=fun vs H Q E=>∃ w p ts,∃ g:aA p ts,∃ S,vs=[.ref w,.int S]/\bq H w p ts/\pF ts S (∀ H',au H H'->E (.ref C) none H') fun m =>
 ∀ D ys H',H D=none->au H H'->H' D=some (.lst ys)->Paired (LZ D H H') ys ((eJ (bJ p ts g m) p).map (pieceOf (bJ p ts g m) p))->Q (.ref D) H'
def Ln:Sp:=fun vs H Q _=>∃ w p ts,∃ g:aA p ts,vs=[.ref w]/\bq H w p ts/\∀ H',au H H'->Q (.int (g.N.aN.length:Int)) H'
theorem cC:Ok T T.eT 1 Jc:=by
 refine T.eT.ok gj fun _ A _ s H vs Q E hr h=>?_
 ·obtain⟨l,L,p,u,v,rfl,hl,hp,hu,hv,q⟩:=h;refine⟨_,(aj (aC (i:=3) gj.nd rfl (Or.inr rfl) (dm (D6 rfl) (by rfl) T.Ja PyProof.Rows.boot_min (aa (aB (iI K) (pv 0) (pv 1)) (aa (aB (iI K) (pv 0) (pv 2)) af))))
   (aj (aC (i:=4) gj.nd rfl (Or.inr rfl) (dm (wg rfl) (by rfl) T.Mk PyProof.Rows.boot_max (aa (aB (iI K) (pv 0) (pv 1)) (aa (aB (iI K) (pv 0) (pv 2)) af))))
   (av (aH (bM (own:=["least"]) (fq:=["low","high"]) (js:=[3,4]) (aD (ak eK) ["leasts","one","other","low","high"]) rfl (pL K (pv 0)) (fun _ _ _ _=>(bu 0 (k7 ["least","low","high"]))) (fun _ _ _ _=>bT) (fun _ _ _ _=>(ly (aL dW (pv 0) (pv 2) (aM _)) (pv 1) (pv 0)))))))),?_⟩
  refine jr ?_;intro cQ c7;refine(aq rfl (aq rfl (iy (aK.of hl) (ai (j:=u) (bI hu)) (aq rfl (aq rfl (iy (aK.of hl) (ai (j:=v) (bI hv)) ⟨_,_,rfl,?_⟩))))));refine(aq rfl (aq rfl (iy (aK.of hl) (ai (j:=u) (bI hu)) (aq rfl (aq rfl (iy (aK.of hl) (ai (j:=v) (bI hv)) ⟨_,_,rfl,?_⟩))))));refine(aq rfl ⟨l,rfl,⟨_,aK.of hl⟩,fun D hD=>bQ (xs:=cu L p) (tV (RM.join L u v) H D) (.start hD) (fun i acc H2 _ pd=>⟨aK.of (pd.1 _ _ hl),pd.len⟩) (by rw[b8];exact dl (Nat.ble_eq.mpr (by lia))) ?_ ?_⟩)
  ·intro i x acc H2 hx pd;obtain⟨hi,rfl⟩:=kh hx;refine⟨rfl,aq rfl (aq rfl ⟨rfl,aq rfl (?_)⟩)⟩;rw[Di,jj]
   by_cases hm:L i=max (L u) (L v)
   ·rw[cD hm];refine gC (aq rfl (pd.next hD (au.refl _) ?_));rw[KC];unfold RM.join;rw[if_pos hm]
   ·rw[cR hm];refine e8 (aq rfl (pd.next hD (au.refl _) ?_));unfold RM.join;rw[if_neg hm]
  ·intro acc H2 pd;rw[b8]at pd;exact q D H2 hD pd.1 (by rw[pd.2.1,pd.2.2])
theorem jV:JL T T.pC 5 (FJ a.eE):=by
 have cy:=cy T;have cC:=cC T;refine T.pC.F5 fN fun _ A _ s H vs Q E hr h=>?_
 ·obtain⟨wb,p,ts,g,S,rfl,hw,q⟩:=h;refine⟨_,(aj (aC (i:=2) fN.nd rfl (Or.inr rfl) (cA (LX rfl) (by rfl) T.Ct PyProof.Rows.boot_list (aa (cA zh (by rfl) T.bO PyProof.Rows.boot_range (aa (aB (bR K) (pv 0) ah) af)) af)))
   (aj (xV rfl (pL K (aI cy hr T.gr.c gE.passes (aa (pv 0) (aa (pv 1) af)))) (JB K (n:=3) rfl (aV (bu 3 fN.nd) (aV (bu 4 fN.nd) (aV (bu 5 fN.nd) fU))))
   (av (aC (i:=2) fN.nd rfl (Or.inr rfl) (aI cC hr T.eT.c aO (aa (pv 2) (aa (pv 3) (aa (pv 4) af)))))))
   (aj (aC (i:=6) fN.nd rfl (Or.inl rfl) (cW af))
   (aj (xV rfl (aX (by rfl) T.bO (aa (aB (bR K) (pv 0) ah) af)) (xK (i:=7) fN.nd rfl (Or.inr rfl))
   (av (cG (aL dW (aB (iI K) (pv 2) (pv 7)) (pv 7) (aM _)) (av (c8 (F8 K (kX PySem.F.plainAttrs_list PySem.F.slot_list_append PySem.F.type_list_append cX (pv 6) (aa (bM (own:=["point"]) (fq:=["leasts","start"]) (js:=[2,7]) (aD (ak oY) ["web","tie_set","leasts","one","other","length","found","start"]) rfl (aX (by rfl) T.bO (aa (aB (bR K) (pv 0) ah) af)) (fun _ _ _ _=>(bu 0 (k7 ["point","leasts","start"]))) (fun _ _ _ _=>(fW (aL dW (aB (iI K) (pv 1) (pv 0)) (pv 2) (aM _)))) (fun _ _ _ _=>(pv 0))) af))))) bh)))
   (av (aH (pv 6))))))),?_⟩
  refine E1 ?_;intro cQ c7 ez gz iz oZ uO;obtain⟨b,xs,h1,h2,h3⟩:=id hw.ex;have W:=g.G0;have wp:=W.Vp;have wl:=W.len;refine(aq rfl (bS (aQ.of h1) (ai (j:=0) rfl) (aq rfl (fun r hr=>⟨r,p,rfl,ae,by lia,fun l hl=>?_⟩))))
  have s1:au H (upd (upd H r (.DV 0 (p:Int))) l (.lst (vy p))):=(au.new hr).trans (au.new hl);have hl1:upd (upd H r (.DV 0 (p:Int))) l (.lst (vy p)) l=some (.lst (cu (fun x=>x) p)):=ae
  generalize upd (upd H r (.DV 0 (p:Int))) l (.lst (vy p))=H1 at s1 hl1;refine(aq rfl (aq rfl ⟨wb,p,ts,S,rfl,hw.same s1,W,?_⟩));rcases q with⟨m,rfl,hm,q⟩|⟨hS,q⟩
  ·refine .inl ⟨m,rfl,hm,fun T0 ys H2 Vl s2 hT pr=>⟨T0,rfl,⟨_,aK.of hT⟩,?_⟩⟩
   have QW:ys.length<=24:=by
    rw[pr.length,List.length_map];have hb:Builtin.Int.intBits (m:Int)<=ts.length:=bits_le hm;have:=List.length_filter_le (bit (m:Int)) (List.range (Builtin.Int.intBits (m:Int)));rw[List.length_range]at this;exact Nat.le_trans this (by lia)
   refine dH (K:=K) (a:=T0) (xs:=ys) (fun i σ H3=>∃ la v3 v4 v5,σ=[some (.ref wb),some (.int (m:Int)),some (.ref la),v3,v4,v5,none,none]/\au H2 H3/\H3 la=some (.lst (cu (rH p ts g ((bx (m:Int)).take i)) p)))
    ⟨l,none,none,none,rfl,au.refl _,s2 _ _ hl1⟩ (fun i σ H3 _ ⟨_,_,_,_,_,z,_⟩=>aK.of (z _ _ hT)) ?_ ?_
   ·rintro i y D' σ H3 hi ⟨la,v3,v4,v5,rfl,s3,hla⟩;obtain⟨t,ht,c,rfl,hc⟩:=Paired.tM pr hi;have hc3:=s3 _ _ hc;rw[List.getElem?_map]at ht;obtain⟨k,hk,hkt⟩:=vn.mp ht;have jK:=sI hm (gy hk);have ea:=zA (g:=g) jK;have eb:=zB (g:=g) jK;rw[hkt]at ea eb;have la':=g.N.al k jK;have lb':=g.N.bl k jK;refine⟨c,_,rfl,aQ.of hc3,rfl,_,_,rfl,_,_,rfl,_,_,rfl,rfl,?_⟩;refine(aq rfl (aq rfl (aq rfl ⟨la,rH p ts g ((bx (m:Int)).take i),p,g.N.a k,g.N.b k,?_,hla,wp,la',lb',fun D H4 OG s4 hD=>?_⟩)))
    ·rw[<-ea,<-eb];rfl
    ·refine⟨D,_,_,_,rfl,s3.trans s4,?_⟩;rw[hD,List.take_add_one,hk];show _=some (HO.lst (cu (rH p ts g ((bx (m:Int)).take i++[k])) p));rw[Br]
   ·rintro σ H3 ⟨la,v3,v4,v5,rfl,s3,hla⟩;have hys:ys.length=(bx (m:Int)).length:=by rw[pr.length,List.length_map]
    rw[hys,List.take_length,Bs hm]at hla;have pM:au H H3:=(s1.trans s2).trans s3;refine⟨dl rfl,fun D hD=>?_⟩
    have t0:tX (bJ p ts g m) p H3 D 0 (upd H3 D (.lst [])):=tX.start hD;generalize upd H3 D (.lst [])=H4 at t0;refine(aq rfl (bS (aQ.of (t0.1 _ _ (pM _ _ h1))) (ai (j:=0) rfl) (aq rfl ⟨(by lia),(by lia),?_⟩)))
    refine fJ (lo:=0) (n:=(p:Int).toNat) (fun i σ H5=>∃ v7,σ=[some (.ref wb),some (.int (m:Int)),some (.ref la),v3,v4,v5,some (.ref D),v7]/\tX (bJ p ts g m) p H3 D i H5) ⟨none,rfl,t0⟩ ?_ ?_
    ·rintro i D' σ H5 hi ⟨v7,rfl,t5⟩;rw[Int.toNat_natCast]at hi;rw[Int.zero_add];have QX:=t5.1 _ _ hla;refine(aq rfl (aq rfl (iy (aK.of QX) (ai (j:=i) (bI hi)) (aq rfl ⟨rfl,aq rfl (?_)⟩))));rw[jj]
     by_cases hr:bJ p ts g m i=i
     ·rw[cD hr];obtain⟨ys0,Jd⟩:∃ ys,H5 D=some (.lst ys):=let⟨_,ys,z,_⟩:=t5;⟨ys,z⟩;refine gC (aq rfl ⟨.inl ⟨rfl,_,aK.of Jd⟩,aq rfl (bS (aQ.of (t5.1 _ _ (pM _ _ h1))) (ai (j:=0) rfl) (aq rfl ⟨(by lia),(by lia),fun B hB=>bN (lo:=0) (m:=(p:Int).toNat) (mU (fun x=>decide (bJ p ts g m x=i)) H5 B) (.start hB) (fun i acc H6 _ pk=>pk.len) (dl (Nat.ble_eq.mpr (by lia))) ?_ ?_⟩))⟩)
      ·intro x acc H6 hx pk;rw[Int.toNat_natCast]at hx;rw[Int.zero_add];refine⟨rfl,aq rfl (aq rfl (iy (aK.of (pk.1 _ _ QX)) (ai (j:=x) (bI hx)) (aq rfl ⟨rfl,aq rfl (?_)⟩)))⟩;rw[jj];cases hb:decide (bJ p ts g m x=i) with
       | true=>exact(aq rfl (pk.yes hB (au.refl _) hb))
       | false=>exact pk.no (au.refl _) hb
      ·intro acc H6 pk;have YM:H6 B=some (.lst (az (pieceOf (bJ p ts g m) p i))):=by rw[pk.2.1,pk.2.2,Int.toNat_natCast];rfl
       obtain⟨YN,Ui,hl1,t7⟩:=t5.push hD hr pk.1 hB YM;exact⟨D,YN,_,rfl,rfl,Ui,dY (by lia),aq rfl (t7)⟩
     ·rw[cR hr];exact e8 (aq rfl (t5.skip hr))
    ·rintro σ H5 ⟨v7,rfl,t5⟩;rw[Int.toNat_natCast]at t5;obtain⟨s5,YO,Jd,YQ,hl5⟩:=t5;exact(aq rfl (q D YO H5 (pM.free hD) (pM.trans s5) Jd (Paired.imp' (fun _ _ ⟨e,he,hn,h0,z⟩=>⟨e,he,hn,pM.free h0,z⟩) YQ)))
  ·exact .inr ⟨hS,q _ s1⟩
theorem Cy:Ok T T.Cs 6 Ln:=by
 have jV:=jV T;have dh:=dh T;refine T.Cs.ok Lj fun _ A _ s H vs Q E hr h=>?_
 ·obtain⟨wb,p,ts,g,rfl,hw,q⟩:=h;refine⟨_,(av (aH (aG cS (aG nq (bL K T.cz (aa (aB (bR K) (pv 0) ah) af)) (aB (bR K) (pv 0) ah)) (bL K T.cz (aa (aI jV hr T.pC.c zg (aa (pv 0) (aa (aI dh hr T.jd.c aO (aa (pv 0) af)) af))) af))))),?_⟩;obtain⟨b,xs,h1,h2,h3⟩:=id hw.ex;have sD:=h3.length;have e2:((2:Int)^ts.length-1)=((2^ts.length-1:Nat):Int):=by
   have h:((2:Int)^ts.length)=((2^ts.length:Nat):Int):=by simp
   have:=Nat.two_pow_pos ts.length
   lia
  have hlt:2^ts.length-1<2^ts.length:=by have:=Nat.two_pow_pos ts.length;lia
  refine(aq rfl (bS (aQ.of h1) (ai (j:=1) rfl) (lS rfl (.inr (aQ.of h2)) (aq rfl (bS (aQ.of h1) (ai (j:=0) rfl) (bW (?_)))))));refine(aq rfl (aq rfl ⟨wb,p,ts,rfl,hw,g.G0,wb,p,ts,g,_,rfl,hw,.inl ⟨2^ts.length-1,e2,hlt,fun D ys H' OG s' hD pr=>(lS rfl (.inl (aK.of hD)) (bW (?_)))⟩⟩))
  have hv:=KA (g:=g);have hy:ys.length=(eJ (bJ p ts g (2^ts.length-1)) p).length:=by rw[pr.length,List.length_map]
  show Q (.int ((xs.length:Int)-(p:Int)+(ys.length:Int))) H';rw[sD,hy,hv];exact q H' s'
def Cz(C:Addr):Sp:=fun vs H Q E=>∃ w p ts,∃ g:aA p ts,∃ S,vs=[.ref w,.int S]/\bq H w p ts/\pF ts S (∀ H',au H H'->E (.ref C) none H') fun m=>∀ H',au H H'->Q (.bl (rK p ts g m)) H'
theorem rf:JL T T.qR 7 (Cz a.eE):=by
 have q9:=q9 T;have jV:=jV T;have b7:=b7 T;refine T.qR.F5 uR fun _ A _ s H vs Q E hr h=>?_
 ·obtain⟨wb,p,ts,g,S,rfl,hw,q⟩:=h;refine⟨_,(aj (cG (pP (fT (aI q9 hr T.qQ.c gE.passes (aa (pv 0) (aa (pv 1) af))))) (av (aH nX)) bh)
   (aj (g7 (i:=2) uR.nd rfl rfl (own:=["piece"]) (fq:=[]) (js:=[]) (aD (ak mK) ["web","tie_set","touched"]) rfl (pL K (aI jV hr T.pC.c gE.passes (aa (pv 0) (aa (pv 1) af)))) (fun _ _ _ _=>(bu 0 (k7 ["piece"]))) (fun _ _ _ _=>(fW (aL we (bL K T.cz (aa (pv 0) af)) ah (aM _)))) (fun _ _ _ _=>(pv 0)))
   (av (aH (A8 (cV dW (bL K T.cz (aa (pv 2) af)) ah (aM _)) (A7 (cV dW (bL K T.cz (aa (aB (iI K) (pv 2) ah) af)) (bL K T.cz (aa (aI b7 hr T.gO.c aO (aa (pv 1) af)) af)) (aM _)))))))),?_⟩
  refine B7 ?_;intro cQ c7 ez;have W:=g.G0;have wp:=g.p2;have wl:=g.len;refine(aq rfl (aq rfl ⟨wb,p,ts,S,rfl,hw,W,?_⟩));rcases q with⟨m,rfl,hm,q⟩|⟨hS,q⟩
  ·refine .inl ⟨m,rfl,hm,fun H1 s1=>(aq rfl (?_))⟩
   by_cases ev:tN p ts (m:Int)=[]
   ·rw[cD ev];rw[By ev]at q;refine e8 (aq rfl (aq rfl ⟨wb,p,ts,g,_,rfl,hw.same s1,.inl ⟨m,rfl,hm,fun D ys H2 OG s2 hD pr=>⟨D,rfl,⟨_,aK.of hD⟩,fun C hC=>?_⟩⟩⟩))
    have QW:ys.length<=10:=by
     rw[pr.length,List.length_map];unfold eJ;have:=List.length_filter_le (fun x=>decide (bJ p ts g m x=x)) (List.range p)
     rw[List.length_range]at this;exact Nat.le_trans this wp
    refine bQ (xs:=ys) (ue (fun l=>decide (1<l.length)) ((eJ (bJ p ts g m) p).map (pieceOf (bJ p ts g m) p)) H2 C) (.start hC) (fun i acc H3 _ sf=>⟨aK.of (sf.1 _ _ hD),sf.len⟩) (dQ (by lia)) ?_ ?_
    ·intro i x acc H3 hx sf;obtain⟨l,hl,b,rfl,hbn,hb0,hb⟩:=Paired.tM pr hx;refine⟨rfl,aq rfl (lS rfl (.inl (aK.of (sf.1 _ _ hb))) (bW (aq rfl (?_))))⟩;cases Je:decide (1<l.length) with
     | true =>
       have e:decide ((1:Int)<((az l).length:Int))=true:=cD (by have:=iG Je;rw[aF];lia)
       show if decide ((1:Int)<((az l).length:Int))=true then _ else _
       rw[e];exact gC (aq rfl (sf.yes hC hl Je ⟨b,rfl,hb⟩))
     | false =>
       have e:decide ((1:Int)<((az l).length:Int))=false:=cR (by have:=of_decide_eq_false Je;rw[aF];lia)
       show if decide ((1:Int)<((az l).length:Int))=true then _ else _
       rw[e];exact e8 (sf.no hl Je)
    ·intro acc H3 sf;have pa:Paired (Nh H2) acc ((dG (bJ p ts g m) p).map (pieceOf (bJ p ts g m) p)):=by
      have h:=sf.2.2;rw[pr.length,List.take_length,List.filter_map]at h;exact h
     have hal:=pa.length;rw[List.length_map]at hal;refine(aq rfl (lS rfl (.inl (aK.of sf.2.1)) ⟨rfl,aq rfl (?_)⟩));have pM:=(s1.trans s2).trans sf.1;have YR:Builtin.Int.intBits (m:Int)<=ts.length:=bits_le hm;generalize dG (bJ p ts g m) p=tl at q pa hal;cases tl with
     | nil =>
       have hal:acc.length=0:=hal;rw[hal];exact e8 (q H3 pM)
     | cons s r =>
       cases r with
       | nil =>
         cases pa with
         | cons hy pn =>
           cases pn;obtain⟨b,rfl,hb⟩:=hy;refine gC (aq rfl (iy (aK.of sf.2.1) (ai (j:=0) rfl) (lS rfl (.inl (aK.of (sf.1 _ _ hb))) (aq rfl ⟨m,rfl,by lia,fun D4 H4 YS s4 Jf=>(lS rfl (.inl (aK.of Jf)) ⟨rfl,?_⟩)⟩))))
           rw[aF,aF,jj];exact q H4 (pM.trans s4)
       | cons t r =>
         have hal:acc.length=r.length+2:=hal;have e:decide (V.int ((acc.length:Nat):Int)=V.int 1)=false:=cR fun z=>by
          have:=V.int.inj z
          lia
         rw[e];exact e8 (q H3 pM)
   ·rw[cR ev];have er:rK p ts g m=false:=by
     unfold rK;rw[cR ev,Bool.false_and]
    rw[er]at q;exact gC (q H1 s1)
  ·exact .inr ⟨hS,q⟩
def pG:Sp:=fun vs H Q _=>∃ w p ts,∃ g:aA p ts,∃ S:Int,vs=[.ref w,.int S]/\bq H w p ts/\∀ H' (d:Bool),au H H'->(d=true↔∃ m:Nat,S=(m:Int)/\m<2^ts.length/\g.N.Ring m)->Q (.bl d) H'
theorem gV:Ok T T.gP 8 pG:=by
 have jU:=jU T;have rf:=rf T;refine T.gP.ok o4 fun _ A _ s H vs Q E hr h=>?_
 ·obtain⟨wb,p,ts,g,S,rfl,hw,q⟩:=h;refine⟨_,(av (aH (A8 (aI jU hr T.pB.c aO (aa (pv 0) (aa (pv 1) af))) (A7 (aI rf hr T.qR.c zg (aa (pv 0) (aa (pv 1) af))))))),?_⟩;have h2n:((2:Int)^ts.length)=((2^ts.length:Nat):Int):=by simp
  refine(aq rfl (aq rfl ⟨wb,p,ts,S,rfl,hw,g.G0,_,rfl,?_⟩))
  by_cases hs:0<=S/\S<2^ts.length
  ·rw[cD hs];obtain⟨m,rfl⟩:=Int.eq_ofNat_of_zero_le hs.1;have hm:m<2^ts.length:=by lia
   refine gC (aq rfl (aq rfl ⟨wb,p,ts,g,_,rfl,hw,.inl ⟨m,rfl,hm,fun H1 s1=>q H1 _ s1 ?_⟩⟩))
   rw[Es g hm];exact⟨fun r=>⟨m,rfl,hm,r⟩,fun⟨m',e,_,r⟩=>by
    have:m=m':=by lia
    rw[this];exact r⟩
  ·rw[cR hs];refine e8 (q H false (au.refl _) ⟨fun z=>(Bool.false_ne_true z).elim,fun⟨m',e,hm,_⟩=>absurd ⟨by lia,by lia⟩ hs⟩)
def FL:Sp:=fun vs H Q _=>∃ w p ts,∃ g:aA p ts,vs=[.ref w]/\bq H w p ts/\∀ D H',H D=none->au H H'->H' D=some (.lst (cu (g.N.trail ts.length) p))->Q (.ref D) H'
def FN:Sp:=fun vs H Q _=>∃ w p ts,∃ g:aA p ts,vs=[.ref w]/\bq H w p ts/\∀ H',au H H'->Q (.int ((jk p ts g:Nat):Int)) H'
def FO:Sp:=fun vs H Q _=>∃ w p ts,∃ g:aA p ts,vs=[.ref w]/\bq H w p ts/\∀ D H',H D=none->au H H'->H' D=some (.lst (az g.N.aN))->Q (.ref D) H'
def vc:Sp:=fun vs H Q _=>∃ w p ts,∃ g:aA p ts,∃(D:Addr) (c:Nat),vs=[.ref w,.ref D,.int (c:Int)]/\bq H w p ts/\H D=some (.lst (cu (g.N.trail ts.length) p))/\c<ts.length/\Q (.int ((g.N.ring c:Nat):Int)) H
theorem CA{H:Hp}{xs:List V}{p:Nat}{ts:List c9}{g:aA p ts}{k:Nat}(h3:Paired (TupAt H) xs ts)(hk:k<ts.length):∃ c,xs[k]?=some (.ref c)/\H c=some (.tup [.int ((g.N.a k:Nat):Int),.int ((g.N.b k:Nat):Int),.int (aU ts k).2.2]):=by
 have hkx:k<xs.length:=by rw[h3.length];exact hk
 obtain⟨t,ht,c,hc,hct⟩:=Paired.tM h3 (i:=k) (x:=xs[k]) (by simp[hkx])
 have Qh:t=aU ts k:=by
  have z:=p8 hk;rw[ht]at z;exact Option.some.inj z
 refine⟨c,by rw[<-hc];simp[hkx],?_⟩
 rw[hct,<-zA hk,<-zB hk,Qh];rfl
theorem bG:Ok T T.dF 2 FL:=by
 have cC:=cC T;refine T.dF.ok aY fun _ A _ s H vs Q E hr h=>?_
 ·obtain⟨wb,p,ts,g,rfl,hw,q⟩:=h;refine⟨_,(aj (aC (i:=1) aY.nd rfl (Or.inl rfl) (cA (LX rfl) (by rfl) T.Ct PyProof.Rows.boot_list (aa (cA zh (by rfl) T.bO PyProof.Rows.boot_range (aa (aB (bR K) (pv 0) ah) af)) af)))
   (aj (aC (i:=2) aY.nd rfl (Or.inl rfl) (aG Bm (cW (aa ah af)) (aB (bR K) (pv 0) ah)))
   (aj (dN PassesOwn.never rfl (aX (by rfl) T.bO (aa (bL K T.cz (aa (aB (bR K) (pv 0) ah) af)) af)) (bu 3 aY.nd)
   (aj (aC (i:=4) aY.nd rfl (Or.inl rfl) (aB (bR K) (aB (bR K) (aB (bR K) (pv 0) ah) (pv 3)) ah))
   (aj (aC (i:=5) aY.nd rfl (Or.inl rfl) (aB (bR K) (aB (bR K) (aB (bR K) (pv 0) ah) (pv 3)) ah))
   (av (cG (aL wc (aB (iI K) (pv 1) (pv 4)) (aB (iI K) (pv 1) (pv 5)) (aM _)) (aj (aC (i:=6) aY.nd rfl (Or.inr rfl) (aG fE (aG fE (aB (iI K) (pv 2) (pv 4)) (aB (iI K) (pv 2) (pv 5))) (aG jy ah (pv 3))))
   (aj (aC (i:=7) aY.nd rfl (Or.inr rfl) (dm (wg rfl) (by rfl) T.Mk PyProof.Rows.boot_max (aa (aB (iI K) (pv 1) (pv 4)) (aa (aB (iI K) (pv 1) (pv 5)) af))))
   (aj (g7 (i:=2) aY.nd rfl rfl (own:=["trail","least"]) (fq:=["bridge","moved"]) (js:=[6,7]) (aD (ak fu) ["web","leasts","trails","tie","one","other","bridge","moved"]) rfl (M6 K (by rfl) T.QT (aa (pv 2) (aa (pv 1) af))) (fun _ _ _ _=>(JB K (n:=2) rfl (aV (bu 0 (k7 ["trail","least","bridge","moved"])) (aV (bu 1 (k7 ["trail","least","bridge","moved"])) fU)))) (fun _ _ _ _=>bT) (fun _ _ _ _=>(ly (aL dW (pv 1) (pv 3) (aM _)) (aG fE (pv 0) (pv 2)) (pv 0))))
   (av (aC (i:=1) aY.nd rfl (Or.inl rfl) (aI cC hr T.eT.c aO (aa (pv 1) (aa (pv 4) (aa (pv 5) af))))))))) bh)))))
   (av (aH (pv 2)))))),?_⟩
  refine qw ?_;intro cQ c7 ez gz iz oZ uO DM DN DO;obtain⟨bt,xs,h1,h2,h3⟩:=id hw.ex;have wp:=g.p2;have wl:=g.len;have sD:=h3.length;refine(aq rfl (bS (aQ.of h1) (ai (j:=0) rfl) (aq rfl (fun r hr=>⟨r,p,rfl,ae,by lia,fun l hl=>?_⟩))))
  have s1:au H (upd (upd H r (.DV 0 (p:Int))) l (.lst (vy p))):=(au.new hr).trans (au.new hl);have hl1:upd (upd H r (.DV 0 (p:Int))) l (.lst (vy p)) l=some (.lst (cu (g.N.eY 0) p)):=ae;generalize upd (upd H r (.DV 0 (p:Int))) l (.lst (vy p))=H1 at s1 hl1;refine⟨dl rfl,fun l0 C6=>?_⟩
  have s0:au H1 (upd H1 l0 (.lst [.int 0])):=au.new C6;refine(aq rfl (bS (aQ.of (s0 _ _ (s1 _ _ h1))) (ai (j:=0) rfl) ⟨l0,(p:Int),aq rfl ⟨rfl,ae,by lia,by lia,(by rw[Int.toNat_natCast];show 1*p<=sizeLine;exact dl (Nat.ble_eq.mpr (by lia))),fun e he=>?_⟩⟩))
  have s2:=s0.trans (au.new (o:=.lst (List.replicate (p:Int).toNat [V.int 0]).flatten) he);have Kq:upd (upd H1 l0 (.lst [.int 0])) e (.lst (List.replicate (p:Int).toNat [V.int 0]).flatten) e=some (.lst (cu (g.N.trail 0) p)):=by
   rw[ae,Int.toNat_natCast,zD];rfl
  generalize upd (upd H1 l0 (.lst [.int 0])) e (.lst (List.replicate (p:Int).toNat [V.int 0]).flatten)=H2 at s2 Kq;refine(aq rfl (bS (aQ.of ((s1.trans s2) _ _ h1)) (ai (j:=1) rfl) (lS rfl (.inr (aQ.of ((s1.trans s2) _ _ h2))) (aq rfl ⟨(by lia),(by lia),?_⟩))))
  refine fJ (lo:=0) (n:=(xs.length:Int).toNat) (fun k σ H3=>∃ la ta v3 v4 v5 v6 v7,σ=[some (.ref wb),some (.ref la),some (.ref ta),v3,v4,v5,v6,v7]/\au H H3/\H3 la=some (.lst (cu (g.N.eY k) p))/\H3 ta=some (.lst (cu (g.N.trail k) p))/\H ta=none)
   ⟨l,e,none,none,none,none,none,rfl,s1.trans s2,s2 _ _ hl1,Kq,s1.free (s0.free he)⟩ ?_ ?_
  ·rintro k D' σ H3 hk ⟨la,ta,v3,v4,v5,v6,v7,rfl,s3,hla,Mm,Ox⟩;rw[Int.toNat_natCast,sD]at hk;rw[Int.zero_add];obtain⟨c,hxc,hct⟩:=CA (g:=g) h3 hk;have hA:=g.N.al k hk;have hB:=g.N.bl k hk;have hls:=RM.zw (N:=g.N) k;have Lp:g.N.kc k = !decide (g.N.eY k (g.N.a k)=g.N.eY k (g.N.b k)):=rfl;have htr:g.N.trail (k+1)=if g.N.kc k=true then fun v=>if g.N.eY k v=max (g.N.eY k (g.N.a k)) (g.N.eY k (g.N.b k)) then g.N.trail k v^^^(g.N.trail k (g.N.a k)^^^g.N.trail k (g.N.b k)^^^2^k) else g.N.trail k v else g.N.trail k:=rfl
   generalize g.N.a k=A0 at *;generalize g.N.b k=B0 at *;refine(aq rfl (bS (aQ.of (s3 _ _ h1)) (ai (j:=1) rfl) (aq rfl (bS (aQ.of (s3 _ _ h2)) (ai (j:=k) hxc) (bS (aQ.of (s3 _ _ hct)) (ai (j:=0) rfl) (?_))))));refine(aq rfl (bS (aQ.of (s3 _ _ h1)) (ai (j:=1) rfl) (aq rfl (bS (aQ.of (s3 _ _ h2)) (ai (j:=k) hxc) (bS (aQ.of (s3 _ _ hct)) (ai (j:=1) rfl) (?_))))));refine(aq rfl (aq rfl (iy (aK.of hla) (ai (j:=A0) (bI hA)) (aq rfl (aq rfl (iy (aK.of hla) (ai (j:=B0) (bI hB)) ⟨rfl,aq rfl (?_)⟩))))));rw[jj]
   by_cases he:g.N.eY k A0=g.N.eY k B0
   ·rw[cD he]at Lp;rw[Lp,if_neg (by decide)]at hls htr
    rw[cD he];exact e8 ⟨la,ta,_,_,_,_,_,rfl,s3,by rw[hls];exact hla,by rw[htr];exact Mm,Ox⟩
   ·rw[cR he]at Lp;rw[Lp,if_pos (by rfl)]at hls htr
    rw[cR he];have YT:Builtin.bitXor (Builtin.bitXor ((g.N.trail k A0:Nat):Int) ((g.N.trail k B0:Nat):Int)) (1*2^(k:Int).toNat)=((g.N.trail k A0^^^g.N.trail k B0^^^2^k:Nat):Int):=by
     rw[ji,xor_int,xor_int]
    refine gC (aq rfl (aq rfl (iy (aK.of Mm) (ai (j:=A0) (bI hA)) (aq rfl (aq rfl (iy (aK.of Mm) (ai (j:=B0) (bI hB)) (bW (aq rfl (bW ⟨⟨by lia,by lia,by decide⟩,bW (?_)⟩)))))))))
    refine(aq rfl (aq rfl (iy (aK.of hla) (ai (j:=A0) (bI hA)) (aq rfl (aq rfl (iy (aK.of hla) (ai (j:=B0) (bI hB)) ⟨_,_,rfl,?_⟩))))));refine(aq rfl (aq rfl ⟨ta,la,rfl,⟨_,aK.of Mm⟩,⟨_,aK.of hla⟩,fun D hD=>GV (xs:=cu (g.N.trail k) p) (ys:=cu (g.N.eY k) p) (by rw[b8,b8]) (tV (g.N.trail (k+1)) H3 D) (.start hD) (fun i acc H4 _ pd=>⟨aK.of (pd.1 _ _ Mm),aK.of (pd.1 _ _ hla),pd.len⟩) (by rw[b8];exact dl (Nat.ble_eq.mpr (by lia))) ?_ ?_⟩))
    ·intro i x y T0 acc H4 hx hy pd hT;obtain⟨hi,rfl⟩:=kh hx;obtain⟨_,rfl⟩:=kh hy;refine⟨T0,_,rfl,aQ.of ae,rfl,_,_,rfl,_,_,rfl,rfl,rfl,aq rfl (aq rfl ⟨rfl,aq rfl (?_)⟩)⟩;rw[Di,jj]
     by_cases hm:g.N.eY k i=max (g.N.eY k A0) (g.N.eY k B0)
     ·rw[cD hm];refine gC (aq rfl (aq rfl (bW (pd.next hD (au.new hT) ?_))));show V.int (Builtin.bitXor _ (Builtin.bitXor (Builtin.bitXor _ _) _))=_;rw[YT,xor_int,htr];show _=V.int (((if _ then _ else _:Nat)):Int)
      rw[if_pos hm]
     ·rw[cR hm];refine e8 (aq rfl (pd.next hD (au.new hT) ?_));rw[htr];show _=V.int (((if _ then _ else _:Nat)):Int)
      rw[if_neg hm]
    ·intro acc H4 pd;rw[b8]at pd;have Jf:H4 D=some (.lst (cu (g.N.trail (k+1)) p)):=by rw[pd.2.1,pd.2.2]
     refine(aq rfl (aq rfl (aq rfl ⟨la,g.N.eY k,p,A0,B0,rfl,pd.1 _ _ hla,wp,hA,hB,fun D2 H5 hn5 s5 gx=>?_⟩)))
     exact⟨D2,D,_,_,_,_,_,rfl,(s3.trans pd.1).trans s5,by rw[hls];exact gx,s5 _ _ Jf,s3.free hD⟩
  ·rintro σ H3 ⟨la,ta,v3,v4,v5,v6,v7,rfl,s3,hla,Mm,Ox⟩;rw[Int.toNat_natCast,sD]at Mm;exact(aq rfl (q ta H3 Ox s3 Mm))
theorem vd:Ok T T.uZ 3 FN:=by
 have bG:=bG T;refine T.uZ.ok mJ fun _ A _ s H vs Q E hr h=>?_
 ·obtain⟨wb,p,ts,g,rfl,hw,q⟩:=h;refine⟨_,(aj (aC (i:=1) mJ.nd rfl (Or.inl rfl) ah)
   (aj (dN PassesOwn.never rfl (pL K (aI bG hr T.dF.c aO (aa (pv 0) af))) (bu 2 mJ.nd)
   (av (xN (i:=1) mJ.nd rfl (Or.inl rfl) (pv 2) Gp)))
   (av (aH (pv 1))))),?_⟩
  refine xC ?_;intro cQ c7 ez;refine(aq rfl ⟨wb,p,ts,g,rfl,hw,fun D H1 OG s1 hD=>⟨D,rfl,⟨_,aK.of hD⟩,?_⟩⟩)
  refine dH (K:=K) (a:=D) (xs:=cu (g.N.trail ts.length) p) (fun i σ H2=>∃ v2,σ=[some (.ref wb),some (.int ((Ow (g.N.trail ts.length) i:Nat):Int)),v2]/\H2=H1) ⟨none,rfl,rfl⟩ (fun i σ H2 _ ⟨_,_,z⟩=>by rw[z];exact aK.of hD) ?_ ?_
  ·rintro i x D' σ H2 hx ⟨v2,rfl,rfl⟩;obtain⟨hi,rfl⟩:=kh hx;refine(aq rfl (aq rfl (bW ⟨some (.int ((g.N.trail ts.length i:Nat):Int)),?_,rfl⟩)));show[_,some (V.int (Builtin.bitOr _ _)),_]=_;rw[or_int];rfl
  ·rintro σ H2 ⟨v2,rfl,rfl⟩;rw[b8,Bu];exact(aq rfl (q _ s1))
theorem jW:Ok T T.pD 4 FO:=by
 have vd:=vd T;have dh:=dh T;have b7:=b7 T;refine T.pD.ok E2 fun _ A _ s H vs Q E hr h=>?_
 ·obtain⟨wb,p,ts,g,rfl,hw,q⟩:=h;refine⟨_,(av (aH (aI b7 hr T.gO.c aO (aa (aG fE (aI dh hr T.jd.c aO (aa (pv 0) af)) (aI vd hr T.uZ.c aO (aa (pv 0) af))) af)))),?_⟩;have wl:=g.len;refine(aq rfl ⟨wb,p,ts,rfl,hw,g.G0,_,rfl,wb,p,ts,g,rfl,hw,fun H1 s1=>(bW ⟨(2^ts.length-1)^^^jk p ts g,?_,?_,fun D H2 OG s2 hD=>?_⟩)⟩)
  ·show[V.int (Builtin.bitXor _ _)]=_;rw[KG,xor_int]
  ·exact Nat.le_trans (bits_le wM) (by lia)
  ·rw[zE]at hD;exact q D H2 (s1.free OG) (s1.trans s2) hD
theorem jG:Ok T T.jE 1 vc:=by
 refine T.jE.ok lU fun _ A _ s H vs Q E hr h=>?_
 ·obtain⟨wb,p,ts,g,D,c,rfl,hw,hD,hc,q⟩:=h;refine⟨_,(aj (aC (i:=3) lU.nd rfl (Or.inl rfl) (aB (bR K) (aB (bR K) (pv 0) ah) (pv 2)))
   (av (aH (aG fE (aG fE (aB (iI K) (pv 1) (aB (bR K) (pv 3) ah)) (aB (iI K) (pv 1) (aB (bR K) (pv 3) ah))) (aG jy ah (pv 2)))))),?_⟩
  refine m8 ?_;intro cQ;obtain⟨bt,xs,h1,h2,h3⟩:=id hw.ex;have wl:=g.len;obtain⟨b,hxc,hct⟩:=CA (g:=g) h3 hc;have hA:=g.N.al c hc;have hB:=g.N.bl c hc;refine(aq rfl (bS (aQ.of h1) (ai (j:=1) rfl) (aq rfl (bS (aQ.of h2) (ai (j:=c) hxc) (?_)))));refine(aq rfl (aq rfl (bS (aQ.of hct) (ai (j:=0) rfl) (iy (aK.of hD) (ai (j:=g.N.a c) (bI hA)) (aq rfl (aq rfl (bS (aQ.of hct) (ai (j:=1) rfl) (iy (aK.of hD) (ai (j:=g.N.b c) (bI hB)) (bW (aq rfl (bW ⟨⟨by lia,by lia,by decide⟩,bW (?_)⟩)))))))))))
  show Q (V.int (Builtin.bitXor (Builtin.bitXor _ _) _)) H;rw[ji,xor_int,xor_int];exact q
def vS(C:Addr):Sp:=fun vs H Q E=>∃ w p ts,∃ g:aA p ts,∃ S,vs=[.ref w,.int S]/\bq H w p ts/\
 ((∃ c:Nat,S=(c:Int)/\c∈g.N.aN/\∀ H',au H H'->Q (.int ((g.N.ring c:Nat):Int)) H')\/((∀ c∈g.N.aN,S≠((c:Nat):Int))/\∀ H',au H H'->E (.ref C) none H'))
theorem kP:JL T T.kK 5 (vS a.qP):=by
 have jW:=jW T;have bG:=bG T;have jG:=jG T;refine T.kK.F5 vE fun _ A _ s H vs Q E hr h=>?_
 ·obtain⟨wb,p,ts,g,S,rfl,hw,q⟩:=h;refine⟨_,(aj (cG (aL (GJ K) (pv 1) (aI jW hr T.pD.c aO (aa (pv 0) af)) (by with_unfolding_all rfl)) (av (zf gE.Vk rfl (by rfl) T.FG PySem.F.excBase_ValueError (aa sZ af))) bh)
   (av (aH (aI jG hr T.jE.c aO (aa (pv 0) (aa (aI bG hr T.dF.c aO (aa (pv 0) af)) (aa (pv 1) af))))))),?_⟩
  refine g9 ?_;intro cQ c7;refine(aq rfl (aq rfl ⟨wb,p,ts,g,rfl,hw,fun D H1 OG s1 hD=>(lS rfl (.inl (aK.of hD)) ⟨rfl,p9 _,_,rfl,?_⟩)⟩))
  rcases q with⟨c,rfl,hc,q⟩|⟨hS,q⟩
  ·rw[oG,cD hc];refine e8 (aq rfl (aq rfl ⟨wb,p,ts,g,rfl,hw.same s1,fun D2 H2 hn2 s2 gx=>(aq rfl ⟨wb,p,ts,g,D2,c,rfl,hw.same (s1.trans s2),gx,(RM.cg.mp hc).1,q _ (s1.trans s2)⟩)⟩))
  ·rw[Nd hS];exact gC ⟨dl rfl,q _ s1⟩
def FP:Sp:=fun vs H Q _=>∃ S1 S2,∃ a b:Nat,vs=[.int S1,.int S2]/\S1=(a:Int)/\S2=(b:Int)/\Builtin.Int.intBits ((a&&&b:Nat):Int)<=1000/\∀ H',au H H'->Q (.int (((bx ((a&&&b:Nat):Int)).length:Nat):Int)) H'
def Jg:Sp:=fun vs H Q _=>∃ S1 S2,∃ a b:Nat,vs=[.int S1,.int S2]/\S1=(a:Int)/\S2=(b:Int)/\Builtin.Int.intBits ((a&&&b:Nat):Int)<=1000/\∀ H',au H H'->Q (.bl (decide ((bx ((a&&&b:Nat):Int)).length%2=1))) H'
structure NY(p:Nat)(xs:List Nat):Prop where
 up:xs.Pairwise (· < ·)
 lt:∀ x∈xs,x<p
def CB:Sp:=fun vs H Q _=>∃ w p ts,∃(l:Addr) (xs:List Nat),vs=[.ref w,.ref l]/\bq H w p ts/\H l=some (.lst (az xs))/\NY p xs/\Q (.bl true) H
def FQ:Sp:=fun vs H Q _=>∃ w p ts,∃(l:Addr) (ks:List Nat),vs=[.ref w,.ref l]/\bq H w p ts/\Ku p ts/\H l=some (.lst (az ks))/\(∀ k∈ks,k<ts.length)/\Q (.int ((orM ks:Nat):Int)) H
def FT:Sp:=fun vs H Q _=>∃ w p ts,∃ g:aA p ts,∃(l:Addr) (xs:List Nat),vs=[.ref w,.ref l]/\bq H w p ts/\H l=some (.lst (az xs))/\NY p xs/\
 ∀ H',au H H'->Q (.int ((g.N.cut (fun x=>decide (x∈xs)):Nat):Int)) H'
theorem AM(p:Nat)(f:Nat->Bool):NY p ((List.range p).filter f):=⟨Bt,fun x hx=>List.mem_range.mp (List.mem_filter.mp hx).1⟩
theorem Lq(n:Nat):decide (V.int (((n:Nat):Int)%2)=V.int 1)=decide (n%2=1):=decide_eq_decide.mpr ⟨fun z=>by have:=V.int.inj z;lia,fun z=>congrArg V.int (by lia)⟩
theorem ve:Ok T T.u4 3 FP:=by
 have b7:=b7 T;refine T.u4.ok E3 fun _ A _ s H vs Q E hr h=>?_
 ·obtain⟨S1,S2,u,v,rfl,rfl,rfl,hb,q⟩:=h;refine⟨_,(av (aH (bL K T.cz (aa (aI b7 hr T.gO.c aO (aa (aG Gm (pv 0) (pv 1)) af)) af)))),?_⟩;refine(aq rfl (aq rfl (bW ⟨u&&&v,?_,hb,fun D H1 hn s1 hD=>(lS rfl (.inl (aK.of hD)) (?_))⟩)))
  ·show[V.int (Builtin.bitAnd _ _)]=_;rw[and_int]
  ·rw[aF];exact q H1 s1
theorem dI:Ok T T.hU 4 Jg:=by
 have ve:=ve T;refine T.hU.ok uT fun _ A _ s H vs Q E hr h=>?_
 ·obtain⟨S1,S2,u,v,rfl,rfl,rfl,hb,q⟩:=h;refine⟨_,(av (aH (cV dW (aG cT (aI ve hr T.u4.c aO (aa (pv 0) (aa (pv 1) af))) ah) ah (aM _)))),?_⟩;refine(aq rfl (aq rfl ⟨_,_,u,v,rfl,rfl,rfl,hb,fun H1 s1=>(bW ⟨(mT rfl),rfl,?_⟩)⟩))
  rw[Lq];exact q H1 s1
theorem rg:Ok T T.qS 1 CB:=by
 refine T.qS.ok ku fun _ A _ s H vs Q E hr h=>?_
 ·obtain⟨wb,p,ts,l,zs,rfl,hw,hl,sd,q⟩:=h;refine⟨_,(aj (aC (i:=2) ku.nd rfl (Or.inl rfl) (Pj MJ ah))
   (aj (dN PassesOwn.never rfl (pL K (pv 1)) (bu 3 ku.nd)
   (aj (cG (PW.pt (vY (aL Gr (pv 3) (pv 2) (aM _)) (pO (aL Gs (pv 3) (aB (bR K) (pv 0) ah) (aM _))))) (av (aH nX)) bh)
   (av (aC (i:=2) ku.nd rfl (Or.inl rfl) (pv 3)))))
   (av (aH nX)))),?_⟩
  refine xB ?_;intro cQ c7 ez gz iz;obtain⟨bt,xs,h1,h2,h3⟩:=id hw.ex;refine(aq rfl (aq rfl ⟨l,rfl,⟨_,aK.of hl⟩,tE (K:=K) (a:=l) (xs:=az zs) (fun i σ H2=>∃ z v3,σ=[some (.ref wb),some (.ref l),some (.int z),v3]/\H2=H/\∀ x∈zs.drop i,z<(x:Int)) ⟨_,none,rfl,rfl,fun x _=>by show(-1:Int)<_;lia⟩ (fun i σ H2 _ ⟨_,_,_,z,_⟩=>by rw[z];exact aK.of hl) ?_ ?_⟩))
  ·rintro i y σ H2 hy ⟨z,v3,rfl,rfl,hz⟩;obtain⟨x,hx,rfl⟩:=fK hy;have hdr:zs.drop i=x::zs.drop (i+1):=by
    obtain⟨hi,e⟩:=iH.mp hx;rw[List.drop_eq_getElem_cons hi,e]
   have hzx:=hz x (by rw[hdr];exact List.mem_cons_self)
   have hxp:=sd.lt x (gy hx);refine(aq rfl (aq rfl (bW (aq rfl (Bo (by lia) (aq rfl (aq rfl (bS (aQ.of h1) (ai (j:=0) rfl) (bW (aq rfl (Bo (by lia) ?_)))))))))))
   refine(aq rfl ⟨(x:Int),aq rfl ⟨rfl,fun y hy=>?_⟩⟩)
   have pw:(zs.drop i).Pairwise (· < ·):=sd.up.sublist (List.drop_sublist _ _);rw[hdr]at pw;have:=(List.pairwise_cons.mp pw).1 y hy
   lia
  ·rintro σ H2 ⟨z,v3,rfl,rfl,_⟩;exact q
theorem vf:Ok T T.uY 1 FQ:=by
 refine T.uY.ok mH fun _ A _ s H vs Q E hr h=>?_
 ·obtain⟨wb,p,ts,l,ks,rfl,hw,W,hl,hk,q⟩:=h;refine⟨_,(aj (aC (i:=2) mH.nd rfl (Or.inl rfl) ah)
   (aj (dN PassesOwn.never rfl (pL K (pv 1)) (bu 3 mH.nd)
   (aj (cG (PW.pt (vY (aL y9 (pv 3) ah (aM _)) (pO (aL Gs (pv 3) (bL K T.cz (aa (aB (bR K) (pv 0) ah) af)) (aM _))))) vZ bh)
   (av (xN (i:=2) mH.nd rfl (Or.inl rfl) (aG jy ah (pv 3)) Gp))))
   (av (aH (pv 2))))),?_⟩
  refine xB ?_;intro cQ c7 ez gz iz;obtain⟨bt,xs,h1,h2,h3⟩:=id hw.ex;have sD:=h3.length;have wl:=W.len;refine(aq rfl ⟨l,rfl,⟨_,aK.of hl⟩,tE (K:=K) (a:=l) (xs:=az ks) (fun i σ H2=>∃ v3,σ=[some (.ref wb),some (.ref l),some (.int ((orM (ks.take i):Nat):Int)),v3]/\H2=H) ⟨none,rfl,rfl⟩ (fun i σ H2 _ ⟨_,_,z⟩=>by rw[z];exact aK.of hl) ?_ ?_⟩)
  ·rintro i x σ H2 hx ⟨v3,rfl,rfl⟩;obtain⟨k,hki,rfl⟩:=fK hx;have hkn:=hk k (gy hki);refine(aq rfl (bW (aq rfl (Bo (by lia) (aq rfl (aq rfl (bS (aQ.of h1) (ai (j:=1) rfl) (lS rfl (.inr (aQ.of h2)) (bW (aq rfl (Bo (by lia) ?_)))))))))))
   refine(aq rfl (aq rfl (bW ⟨⟨by lia,by lia,by decide⟩,bW ⟨some (.int (k:Int)),?_,rfl⟩⟩)))
   show[_,_,some (V.int (Builtin.bitOr _ (1*2^(k:Int).toNat))),_]=_;rw[ji,or_int,List.take_add_one,hki];unfold Ring.orM;rw[List.foldl_append];rfl
  ·rintro σ H2 ⟨v3,rfl,rfl⟩;rw[aF,List.take_length];exact(aq rfl (q))
theorem vg:Ok T T.u6 2 FT:=by
 have rg:=rg T;have vf:=vf T;refine T.u6.ok E4 fun _ A _ s H vs Q E hr h=>?_
 ·obtain⟨wb,p,ts,g,l,zs,rfl,hw,hl,sd,q⟩:=h;refine⟨_,(aj (cG (pP (fT (aI rg hr T.qS.c aO (aa (pv 0) (aa (pv 1) af))))) vZ bh)
   (av (aH (aI vf hr T.uY.c aO (aa (pv 0) (aa (bM (own:=["k","tie"]) (fq:=["side"]) (js:=[1]) (aD (ak o5) ["web","side"]) rfl (zH K (by rfl) T.jx (aa (aB (bR K) (pv 0) ah) af)) (fun _ _ _ _=>(JB K (n:=2) rfl (aV (bu 0 (k7 ["k","tie","side"])) (aV (bu 1 (k7 ["k","tie","side"])) fU)))) (fun _ _ _ _=>(fW (aL wc (cV (Tf K) (aB (bR K) (pv 1) ah) (pv 2) (by with_unfolding_all rfl)) (cV (Tf K) (aB (bR K) (pv 1) ah) (pv 2) (by with_unfolding_all rfl)) (aM _)))) (fun _ _ _ _=>(pv 0))) af)))))),?_⟩
  refine g9 ?_;intro cQ c7;obtain⟨bt,xs,h1,h2,h3⟩:=id hw.ex;have sD:=h3.length;have wl:=g.len;refine(aq rfl (aq rfl ⟨wb,p,ts,l,zs,rfl,hw,hl,sd,_,rfl,e8 ?_⟩));refine(aq rfl (aq rfl (bS (aQ.of h1) (ai (j:=1) rfl) ⟨bt,rfl,⟨_,aQ.of h2⟩,fun D hD=>BD (xs:=xs) (mU (fun k=>decide (g.N.a k∈zs)^^decide (g.N.b k∈zs)) H D) (.start hD) (fun i acc H2 _ pk=>⟨aQ.of (pk.1 _ _ h2),pk.len⟩) (dQ (by lia)) ?_ ?_⟩)))
  ·intro i x T0 acc H2 hx pk hT;have hi:i<ts.length:=by have:=(iH.mp hx).1;lia
   obtain⟨b,hxb,hct⟩:=CA (g:=g) h3 hi;rw[hx]at hxb;cases hxb;have QY:upd H2 T0 (.tup [.int (i:Int),.ref b]) b=some _:=au.new hT _ _ (pk.1 _ _ hct);have hl2:upd H2 T0 (.tup [.int (i:Int),.ref b]) l=some _:=au.new hT _ _ (pk.1 _ _ hl);refine⟨T0,_,rfl,aQ.of ae,rfl,_,_,rfl,_,_,rfl,rfl,rfl,?_⟩;refine(aq rfl (bS (aQ.of QY) (ai (j:=0) rfl) (aq rfl (lS rfl (.inl (aK.of hl2)) ⟨rfl,p9 _,_,rfl,bS (aQ.of QY) (ai (j:=1) rfl) (aq rfl (lS rfl (.inl (aK.of hl2)) ⟨rfl,p9 _,rfl,aq rfl (?_)⟩))⟩))));rw[oG,oG];cases e1:decide (g.N.a i∈zs)<;>cases e2:decide (g.N.b i∈zs)
   ·exact pk.no (au.new hT) (by rw[e1,e2];rfl)
   ·exact(aq rfl (pk.yes hD (au.new hT) (by rw[e1,e2];rfl)))
   ·exact(aq rfl (pk.yes hD (au.new hT) (by rw[e1,e2];rfl)))
   ·exact pk.no (au.new hT) (by rw[e1,e2];rfl)
  ·intro acc H2 pk;refine⟨wb,p,ts,D,_,rfl,hw.same pk.1,g.G0,by rw[pk.2.1,pk.2.2],fun k hk=>?_,?_⟩
   ·have:=List.mem_range.mp (List.mem_filter.mp hk).1
    lia
   ·rw[BE,sD];exact q H2 pk.1
def rR(p:Nat)(ts:List c9)(g:aA p ts)(m:Nat):List Nat:=(List.range p).filter fun x=>g.N.par (g.N.trail ts.length x) m
def Told(p:Nat)(ts:List c9)(g:aA p ts)(m:Nat)(H H' : Hp)(t:Addr):Prop :=
 (m=g.N.cut (fun x=>decide (x∈rR p ts g m))/\∃ l,H l=none/\H' t=some (.tup [.str "side",.ref l])/\H' l=some (.lst (az (rR p ts g m))))\/
 (∃ c,c∈g.N.aN/\g.N.par (g.N.ring c) m=true/\H' t=some (.tup [.str "ring",.int ((g.N.ring c:Nat):Int)]))
def CC(C:Addr):Sp:=fun vs H Q E=>∃ w p ts,∃ g:aA p ts,∃ S,vs=[.ref w,.int S]/\bq H w p ts/\pF ts S (E (.ref C) none H) fun m=>∀ t H',H t=none->au H H'->Told p ts g m H H' t->Q (.ref t) H'
theorem AN{p:Nat}{ts:List c9}{g:aA p ts}{m:Nat}:g.N.cut (fun x=>decide (x∈rR p ts g m))=g.N.cut fun x=>g.N.par (g.N.trail g.N.n x) m:=RM.Ew fun x hx=>by
 unfold rR;rw[Bool.eq_iff_iff,decide_eq_true_eq,List.mem_filter,List.mem_range];exact⟨fun z=>z.2,fun z=>⟨hx,z⟩⟩
theorem CD{m:Nat}(h:m≠0):∃ c,(bx (m:Int))[0]?=some c/\m.testBit c=true:=by
 obtain⟨k,hk⟩:=Nat.exists_testBit_of_ne_zero h;have hm:k∈bx (m:Int):=by
  unfold bx;refine List.mem_filter.mpr ⟨List.mem_range.mpr (Nat.lt_of_not_le fun z=>?_),by rw[fk];exact hk⟩
  have:=zm z;rw[fk,hk]at this;cases this
 cases e:bx (m:Int) with
 | nil =>
   rw[e]at hm;cases hm
 | cons c r =>
   have hc:c∈bx (m:Int):=by rw[e];exact List.mem_cons_self
   unfold bx at hc;have:=(List.mem_filter.mp hc).2;rw[fk]at this;exact⟨c,rfl,this⟩
theorem dZ{u v:Nat}(h:u^^^v=0):u=v:=by
 have:=congrArg (fun x=>x^^^v) h
 simpa[Nat.xor_assoc]using this
theorem Jh(n:Nat):decide (V.int ((n:Nat):Int)=V.int 0)=decide (n=0):=decide_eq_decide.mpr ⟨fun z=>by have:=V.int.inj z;lia,fun z=>by rw[z];rfl⟩
theorem rh:JL T T.qT 6 (CC a.eE):=by
 have cP:=cP T;have bG:=bG T;have dI:=dI T;have vg:=vg T;have b7:=b7 T;have kP:=kP T;refine T.qT.F5 kA fun _ A _ s H vs Q E hr h=>?_
 ·obtain⟨wb,p,ts,g,S,rfl,hw,q⟩:=h;refine⟨_,(aj (c8 (aI cP hr T.ie.c gE.passes (aa (pv 0) (aa (pv 1) af))))
   (aj (aC (i:=2) kA.nd rfl (Or.inr rfl) (aI bG hr T.dF.c aO (aa (pv 0) af)))
   (aj (g7 (i:=3) kA.nd rfl rfl (own:=["point"]) (fq:=["tie_set","trails"]) (js:=[1,2]) (aD (ak mL) ["web","tie_set","trails","side","amiss"]) rfl (aX (by rfl) T.bO (aa (aB (bR K) (pv 0) ah) af)) (fun _ _ _ _=>(bu 0 (k7 ["point","tie_set","trails"]))) (fun _ _ _ _=>(fW (fT (aI dI hr T.hU.c aO (aa (aB (iI K) (pv 2) (pv 0)) (aa (pv 1) af)))))) (fun _ _ _ _=>(pv 0)))
   (aj (aC (i:=4) kA.nd rfl (Or.inl rfl) (aG fE (pv 1) (aI vg hr T.u6.c aO (aa (pv 0) (aa (pv 3) af)))))
   (aj (cG (aL dW (pv 4) ah (aM _)) (av (aH (cH (aa sZ (aa (pv 3) af))))) bh)
   (av (aH (cH (aa sZ (aa (aI kP hr T.kK.c gE.passes (aa (pv 0) (aa (aB (iI K) (aI b7 hr T.gO.c aO (aa (pv 4) af)) ah) af))) af)))))))))),?_⟩
  refine B8 ?_;intro cQ c7 ez gz iz oZ;obtain⟨bt,xs,h1,h2,h3⟩:=id hw.ex;have wl:=g.len;have wp:=g.p2;have W:=g.G0;rcases q with⟨m,rfl,hm,q⟩|⟨hS,q⟩
  case inr=>exact(aq rfl (aq rfl ⟨wb,p,ts,_,rfl,hw,W,.inr ⟨hS,q⟩⟩))
  refine(aq rfl (aq rfl ⟨wb,p,ts,_,rfl,hw,W,.inl ⟨m,rfl,hm,?_⟩⟩));refine(aq rfl ⟨wb,p,ts,g,rfl,hw,fun D H1 hn1 s1 hD=>?_⟩)
  refine(aq rfl (bS (aQ.of (s1 _ _ h1)) (ai (j:=0) rfl) (aq rfl ⟨(by lia),(by lia),fun C hC=>bN (lo:=0) (m:=(p:Int).toNat) (mU (fun x=>g.N.par (g.N.trail ts.length x) m) H1 C) (.start hC) (fun i acc H2 _ pk=>pk.len) (dQ (by lia)) ?_ ?_⟩)))
  ·intro i acc H2 hi pk;rw[Int.toNat_natCast]at hi;rw[Int.zero_add];have Ji:Builtin.Int.intBits ((g.N.trail ts.length i&&&m:Nat):Int)<=1000:=Nat.le_trans (bits_le (Nat.and_lt_two_pow _ hm)) (by lia)
   refine⟨rfl,aq rfl (aq rfl (iy (aK.of (pk.1 _ _ hD)) (ai (j:=i) (bI hi)) (aq rfl ⟨_,_,g.N.trail ts.length i,m,rfl,rfl,rfl,Ji,fun H3 s3=>(aq rfl (?_))⟩)))⟩
   rw[Dt (g:=g) hm];cases hb:g.N.par (g.N.trail ts.length i) m with
   | true=>exact(aq rfl (pk.yes hC s3 hb))
   | false=>exact pk.no s3 hb
  ·intro acc H2 pk;have CF:H2 C=some (.lst (az (rR p ts g m))):=by rw[pk.2.1,pk.2.2,Int.toNat_natCast];rfl
   have s12:=s1.trans pk.1;refine(aq rfl (aq rfl (aq rfl ⟨wb,p,ts,g,C,_,rfl,hw.same s12,CF,AM p _,fun H3 s3=>(bW (?_))⟩)))
   have pM:=s12.trans s3;dsimp only;rw[xor_int,AN];have ac:=fun k=>RM.zJ (N:=g.N) (m:=m) (k:=k) hm
   have hlt:(m^^^g.N.cut fun x=>g.N.par (g.N.trail g.N.n x) m)<2^ts.length:=Nat.xor_lt_two_pow hm (RM.Nj _)
   have hz:(m^^^g.N.cut fun x=>g.N.par (g.N.trail g.N.n x) m)=0->m=g.N.cut (fun x=>decide (x∈rR p ts g m)):=fun z=>by rw[AN];exact dZ z
   generalize (m^^^g.N.cut fun x=>g.N.par (g.N.trail g.N.n x) m)=A at ac hlt hz
   refine(aq rfl ⟨rfl,aq rfl (?_)⟩);rw[Jh]
   by_cases hA:A=0
   ·rw[cD hA];refine gC (aq rfl ⟨dl rfl,fun t ht=>q t _ (pM.free ht) (pM.trans (au.new ht)) (.inl ⟨hz hA,C,s1.free hC,ae,au.new ht _ _ (s3 _ _ CF)⟩)⟩)
   ·rw[cR hA];obtain⟨c,hc0,hcb⟩:=CD hA;obtain⟨hcn,hcf,hcp⟩:=ac c hcb;refine e8 (aq rfl (aq rfl ⟨A,rfl,Nat.le_trans (bits_le hlt) (by lia),fun D4 H4 YS s4 Jf=>(iy (aK.of Jf) (ai (j:=0) (jl hc0)) ⟨wb,p,ts,g,_,rfl,hw.same (pM.trans s4),.inl ⟨c,rfl,RM.cg.mpr ⟨hcn,hcf⟩,fun H5 s5=>⟨dl rfl,fun t ht=>?_⟩⟩⟩)⟩))
    have R8:=(pM.trans s4).trans s5;exact q t _ (R8.free ht) (R8.trans (au.new ht)) (.inr ⟨c,RM.cg.mpr ⟨hcn,hcf⟩,hcp,ae⟩)
def yK(C:Addr):Sp:=fun vs H Q E=>∃ w p ts S,vs=[.ref w,.int S]/\bq H w p ts/\Ku p ts/\pF ts S (∀ H',au H H'->E (.ref C) none H') fun m=>∀ H',au H H'->Q (.int (lenOf ts m)) H'
theorem fP:JL T T.jv 5 (yK a.eE):=by
 have cy:=cy T;refine T.jv.F5 yn fun _ A _ s H vs Q E hr h=>?_
 ·obtain⟨wb,p,ts,S,rfl,hw,W,q⟩:=h;refine⟨_,(av (aH (dm (sumK K rfl) (by rfl) T.Ml PyProof.Rows.boot_sum (aa (bM (own:=["tie"]) (fq:=[]) (js:=[]) (aD (ak jq) ["web","tie_set"]) rfl (pL K (aI cy hr T.gr.c gE.passes (aa (pv 0) (aa (pv 1) af)))) (fun _ _ _ _=>(bu 0 (k7 ["tie"]))) (fun _ _ _ _=>bT) (fun _ _ _ _=>(aB (bR K) (pv 0) ah))) af)))),?_⟩
  refine(aq rfl (aq rfl ⟨wb,p,ts,S,rfl,hw,W,?_⟩));rcases q with⟨m,rfl,hm,q⟩|⟨hS,q⟩
  ·refine .inl ⟨m,rfl,hm,fun L ys H1 R7 s1 hL pr=>⟨L,rfl,⟨_,aK.of hL⟩,fun D hD=>?_⟩⟩
   have wl:=W.len;have QW:ys.length=(bx (m:Int)).length:=by rw[pr.length,List.length_map]
   have Uj:ys.length<=24:=by
    rw[QW];have hb:Builtin.Int.intBits (m:Int)<=ts.length:=bits_le hm;have:=List.length_filter_le (bit (m:Int)) (List.range (Builtin.Int.intBits (m:Int)));rw[List.length_range]at this;exact Nat.le_trans this (by lia)
   refine bQ (xs:=ys) (vA (fun k=>(aU ts k).2.2) (bx (m:Int)) H1 D) (.start hD) (fun i acc H2 _ pm=>⟨aK.of (pm.1 _ _ hL),pm.len⟩) (dQ Uj) ?_ ?_
   ·intro i x acc H2 hx pm;obtain⟨t,ht,c,rfl,hc⟩:=Paired.tM pr hx;rw[List.getElem?_map]at ht;obtain⟨k,hk,rfl⟩:=vn.mp ht;exact⟨rfl,aq rfl (bS (aQ.of (pm.1 _ _ hc)) (ai (j:=2) rfl) (pm.next hD (au.refl _) hk rfl))⟩
   ·intro acc H2 pm;rw[QW]at pm;exact⟨D,_,rfl,aK.of pm.fin,q H2 (s1.trans pm.1)⟩
  ·exact .inr ⟨hS,q _ (au.refl _)⟩
def ng(ts:List c9)(x y:Nat):Prop:=lenOf ts x<lenOf ts y\/(lenOf ts x=lenOf ts y/\x<=y)
def Jj(t:Addr)(lp:Pos):Sp:=fun vs H Q _=>∃ w p ts,∃ g:aA p ts,∃(l:Addr) (ms:List Nat),vs=[.ref w,.ref l]/\bq H w p ts/\H l=some (.lst (az ms))/\ms.length<64/\(∀ m∈ms,m<2^ts.length)/\H t=some (.jJ (fc (r6 "by_length") lp))/\
 ∀ D ms' H',H D=none->au H H'->H' D=some (.lst (az ms'))->ms'.Perm ms->ms'.Pairwise (ng ts)->Q (.ref D) H'
theorem Mn:∀{l:List Int},(∀ x∈l,0<=x)->∃ ms:List Nat,l=ms.map (fun x=>((x:Nat):Int))
 | [],_=>⟨[],rfl⟩
 | x::r,h=>by
   obtain⟨ms,e⟩:=Mn (l:=r) fun y hy=>h y (jY _ hy)
   have hx:=h x List.mem_cons_self;refine⟨x.toNat::ms,?_⟩;rw[List.map_cons,<-e]
   congr 1
   lia
theorem lZ:VQ T T.jw 9 (Jj a.ic gm):=by
 have fP:=fP T;refine T.jw.ok yo fun A _ s H vs Q E hr h=>?_
 ·obtain⟨wb,p,ts,g,l,ms,rfl,hw,hl,h64,hms,htb,q⟩:=h;refine⟨_,(av (aH (IB (x:="ring") (fq:=["web"]) (js:=[0]) hr (aD (ak jt) ["web","rings"]) rfl (by rfl) T.u9 rfl T.jw.F.hd (aa (pv 1) af) (fun _ _ _ _ hr=>(cH (aa (aI fP hr T.jv.c zg (aa (pv 1) (aa (pv 0) af))) (aa (pv 0) af))))))),?_⟩
  have W:=g.G0;have wl:=g.len;have big:(2:Nat)^ts.length<=2^24:=Nat.pow_le_pow_right (by decide) wl
  have NZ:∀ n,n∈ms.map (fun x=>((x:Nat):Int))->∃ m:Nat,n=(m:Int)/\m∈ms:=fun n hn=>by
   obtain⟨m,hm,rfl⟩:=List.mem_map.mp hn;exact⟨m,rfl,hm⟩
  refine(aq rfl ⟨l,ms.map (fun x=>((x:Nat):Int)),fun z=>(lenOf ts z.toNat,z),rfl,by rw[<-ki];exact hl,by rw[List.length_map];exact h64,fun n hn=>?_,htb,fun H3 hk n hn=>?_,fun D ns' H4 hD s4 Jf hp hs=>?_⟩)
  ·obtain⟨m,rfl,hm⟩:=NZ n hn;have:=hms m hm;exact⟨by show(0:Int)<=(m:Int);lia,by show(m:Int)<1073741824;lia⟩
  ·obtain⟨m,rfl,hm⟩:=NZ n hn;have tp:dz H H3:=fun b xs e=>hk b _ e (fun y z=>nomatch z) (fun y z=>nomatch z)
   refine(aq rfl (aq rfl ⟨wb,p,ts,_,rfl,hw.tups tp,W,.inl ⟨m,rfl,hms m hm,fun H4 s4=>(aq rfl ⟨dl rfl,fun d hd=>?_⟩)⟩⟩))
   exact⟨s4.trans (au.new hd),d,rfl,ae⟩
  ·obtain⟨ms',rfl⟩:∃ ms' : List Nat,ns' = ms'.map (fun x=>((x:Nat):Int)):=by
    refine Mn fun x hx=>?_
    obtain⟨m,rfl,_⟩:=NZ x (hp.mem_iff.mp hx)
    lia
   have Uk:ms'.Perm ms:=by
    have:=hp.map Int.toNat;rw[List.map_map,List.map_map]at this;have e:∀ l:List Nat,l.map (Int.toNat∘fun x=>((x:Nat):Int))=l:=fun l=>by
     induction l with
     | nil=>rfl
     | cons x r ih=>rw[List.map_cons,ih];rfl
    rw[e,e]at this;exact this
   refine q D ms' H4 hD s4 (by rw[ki];exact Jf) Uk ?_
   rw[List.pairwise_map]at hs;refine List.Pairwise.imp_of_mem (fun {x y} hx hy h=>?_) hs
   have hx:=hms x (Uk.mem_iff.mp hx);have hy:=hms y (Uk.mem_iff.mp hy);have h:lenOf ts x*1073741824+(x:Int)<=lenOf ts y*1073741824+(y:Int):=h;unfold ng
   lia
def Jk:Sp:=fun vs H Q _=>∃ w p ts,∃ g:aA p ts,∃ m:Nat,vs=[.ref w,.int (m:Int)]/\bq H w p ts/\m<2^ts.length/\
 ∀ D es S H',es.length=p->ER m H D es S H'->Mf g.N ts.length S->Q (.ref D) H'
theorem N1{b:Bool}{σ:St}{f:VK}{H:Hp}(h:f (.int (b.toNat:Int)) H):if b=true then tC (.int 1) σ H f else tC (.int 0) σ H f:=by
 cases b<;>exact h
theorem gW:Ok T T.gQ 2 Jk:=by
 have cI:=cI T;refine T.gQ.ok cN fun _ A _ s H vs Q E hr h=>?_
 ·obtain⟨wb,p,ts,g,m,rfl,hw,hm,q⟩:=h;refine⟨_,(aj (g7 (i:=2) cN.nd rfl rfl (own:=["point"]) (fq:=[]) (js:=[]) (aD (ak eM) ["web","marks","steps","tie","ends","turn"]) rfl (aX (by rfl) T.bO (aa (aB (bR K) (pv 0) ah) af)) (fun _ _ _ _=>(bu 0 (k7 ["point"]))) (fun _ _ _ _=>bT) (fun _ _ _ _=>(cW af)))
   (aj (dN PassesOwn.never rfl (zH K (by rfl) T.jx (aa (aB (bR K) (pv 0) ah) af)) (JB K (n:=2) rfl (aV (bu 3 cN.nd) (aV (bu 4 cN.nd) fU)))
   (aj (aC (i:=5) cN.nd rfl (Or.inl rfl) (ly (fT (aI cI hr T.iS.c aO (aa (pv 1) (aa (pv 3) af)))) ah ah))
   (aj (c8 (F8 K (kX PySem.F.plainAttrs_list PySem.F.slot_list_append PySem.F.type_list_append cX (aB (iI K) (pv 2) (aB (bR K) (pv 4) ah)) (aa (cH (aa (pv 3) (aa (aB (bR K) (pv 4) ah) (aa (pv 5) af)))) af))))
   (av (c8 (F8 K (kX PySem.F.plainAttrs_list PySem.F.slot_list_append PySem.F.type_list_append cX (aB (iI K) (pv 2) (aB (bR K) (pv 4) ah)) (aa (cH (aa (pv 3) (aa (aB (bR K) (pv 4) ah) (aa (pv 5) af)))) af))))))))
   (av (aH (pv 2))))),?_⟩
  refine o6 ?_;intro cQ c7 ez gz iz;obtain⟨bt,xs,h1,h2,h3⟩:=id hw.ex;have sD:=h3.length;have wp:=g.p2;have wl:=g.len;refine(aq rfl (bS (aQ.of h1) (ai (j:=0) rfl) (aq rfl ⟨(by lia),(by lia),fun D hD=>bN (lo:=0) (m:=p) (Me m H D) (.start hD) (fun i acc H2 _ z=>z.len) (dl (Nat.ble_eq.mpr (by lia))) ?_ ?_⟩)))
  ·rintro i acc H2 hi f2;exact⟨rfl,dl rfl,fun l hl=>f2.next hl⟩
  rintro acc H2 ⟨es,rfl,hel,f2⟩;refine(aq rfl (bS (aQ.of (f2.same _ _ h1)) (ai (j:=1) rfl) ⟨bt,rfl,⟨_,aQ.of (f2.same _ _ h2)⟩,?_⟩));refine EC (K:=K) (a:=bt) (xs:=xs) (fun k σ H3=>∃ v3 v4 v5,σ=[some (.ref wb),some (.int (m:Int)),some (.ref D),v3,v4,v5]/\∃ S,ER m H D es S H3/\Mf g.N k S) ⟨none,none,none,rfl,_,f2,Mf.start⟩ (fun k σ H3 _ ⟨_,_,_,_,_,z,_⟩=>aQ.of (z.same _ _ h2)) ?_ ?_
  ·rintro k x T0 σ H3 hk ⟨v3,v4,v5,rfl,S,f3,k3⟩ hT;have hkx:k<xs.length:=(iH.mp hk).1;have jK:k<ts.length:=by lia
   obtain⟨ct,ex,hct⟩:=kj (g:=g) h3 jK;rw[hk]at ex;cases ex;have s4:au H3 (upd H3 T0 (.tup [.int (k:Int),.ref ct])):=au.new hT;have RO:upd H3 T0 (.tup [.int (k:Int),.ref ct]) T0=some (.tup [.int (k:Int),.ref ct]):=ae;have f4:=f3.go s4;generalize upd H3 T0 (.tup [.int (k:Int),.ref ct])=H4 at f4 RO;refine⟨T0,_,rfl,aQ.of RO,rfl,_,_,rfl,_,_,rfl,rfl,?_⟩;refine(aq rfl (aq rfl ⟨(m:Int),k,rfl,aq rfl (?_)⟩));rw[fk];have ha:g.N.a k<p:=g.N.al k jK;have hb:g.N.b k<p:=g.N.bl k jK;have N2:=f4.same _ _ hct;refine N1 ?_;obtain⟨b1,Ul,e1,YU,hb1,q1⟩:=f4.get (i:=g.N.a k) (by lia)
   refine(aq rfl (aq rfl (bS (aQ.of N2) (ai (j:=0) rfl) (iy (aK.of f4.lst) (ai e1) (?_)))));have l1:Ul.length<=2*k:=by rw[q1.length];exact k3.len _
   refine⟨.inl ⟨rfl,_,aK.of hb1⟩,aq rfl (aq rfl (bS (aQ.of N2) (ai (j:=1) rfl) (aq rfl ⟨dl rfl,fun t1 Lr=>?_⟩)))⟩
   have s5:au H4 (upd H4 t1 (.tup [.int (k:Int),.int (g.N.b k:Int),.int ((m.testBit k).toNat:Int)])):=au.new Lr;have u5:i9 m (upd H4 t1 (.tup [.int (k:Int),.int (g.N.b k:Int),.int ((m.testBit k).toNat:Int)])) t1 (k,g.N.b k):=ae;have f5:=f4.go s5;have VT:=s5 _ _ hb1;have YV:=s5 _ _ N2;have q5:Paired (i9 m (upd H4 t1 (.tup [.int (k:Int),.int (g.N.b k:Int),.int ((m.testBit k).toNat:Int)]))) Ul (S (g.N.a k)):=Paired.xG q1 fun _ _ z=>s5 _ _ z
   refine⟨b1,_,_,rfl,rfl,VT,dY (by rw[List.length_map];lia),?_⟩
   have f6:=f5.put YU VT q5 u5;have N3:=f6.same _ _ hct;generalize upd (upd H4 t1 (.tup [.int (k:Int),.int (g.N.b k:Int),.int ((m.testBit k).toNat:Int)])) b1 (.lst (Ul.map V.ref++[.ref t1]))=H6 at f6 N3;obtain⟨b2,YW,e2,YX,Je,q2⟩:=f6.get (i:=g.N.b k) (by lia)
   refine(aq rfl (aq rfl (bS (aQ.of N3) (ai (j:=1) rfl) (iy (aK.of f6.lst) (ai e2) (?_)))));have l2:YW.length<=2*k+1:=by
    rw[q2.length];unfold uH;have:=k3.len (g.N.b k)
    split
    ·rw[List.length_append,List.length_singleton];lia
    ·lia
   refine⟨.inl ⟨rfl,_,aK.of Je⟩,aq rfl (aq rfl (bS (aQ.of N3) (ai (j:=0) rfl) (aq rfl ⟨dl rfl,fun t2 Ls=>?_⟩)))⟩
   have s7:au H6 (upd H6 t2 (.tup [.int (k:Int),.int (g.N.a k:Int),.int ((m.testBit k).toNat:Int)])):=au.new Ls;have u7:i9 m (upd H6 t2 (.tup [.int (k:Int),.int (g.N.a k:Int),.int ((m.testBit k).toNat:Int)])) t2 (k,g.N.a k):=ae;have f7:=f6.go s7;have OH:=s7 _ _ Je;refine⟨b2,_,_,rfl,rfl,OH,dY (by rw[List.length_map];lia),?_⟩
   exact⟨_,_,_,rfl,_,f7.put YX OH (Paired.xG q2 fun _ _ z=>s7 _ _ z) u7,k3.next⟩
  ·rintro σ H3 ⟨v3,v4,v5,rfl,S,f3,k3⟩;refine(aq rfl (q D es S H3 hel f3 ?_));rw[<-sD];exact k3
def jH(p:Nat)(N:RM.Net)(L:Nat->Int)(m u:Nat)(D:Addr)(F:RM.OW)(H0 H:Hp):Prop:=∃ es:List Addr,es.length=p/\H D=some (.lst (es.map V.ref))/\
 (∀(i:Nat) b,es[i]?=some b->∃ v0 v1,H b=some (.lst [v0,v1])/\wV H (F i false) v0/\wV H (F i true) v1)/\(∀ x s,RM.HH N L m u x s ((F x s).map (·.1)))/\(∀ x s d,F x s=some d->RM.Wz N L m u x s d.1 d.2)/\(∀ b∈es,H0 b=none)/\RM.Fx N L m u F
theorem Lu(a b:Bool):Builtin.bitXor ((a.toNat:Nat):Int) ((b.toNat:Nat):Int)=(((a^^b).toNat:Nat):Int):=by
 cases a<;>cases b<;>decide
def vU(t:Addr)(lp:Pos):Sp:=fun vs H Q _=>∃ w p ts,∃ g:aA p ts,∃(m u:Nat),vs=[.ref w,.int (m:Int),.int (u:Int)]/\bq H w p ts/\m<2^ts.length/\u<p/\H t=some (.jJ (fc (r6 "least_ways") lp))/\
 ∀ D F H',H D=none->au H H'->jH p g.N (bj ts) m u D F H H'->Q (.ref D) H'
theorem kQ:VQ T T.iN 5 (vU a.dc cU):=by
 have gW:=gW T;refine T.iN.ok bF fun A _ s H vs Q E hr h=>?_
 ·obtain⟨wb,p,ts,g,m,u,rfl,hw,hm,hu,htb,q⟩:=h;refine⟨_,(aj (aC (i:=3) bF.nd rfl (Or.inl rfl) (aI gW hr T.gQ.c aO (aa (pv 0) (aa (pv 1) af))))
   (aj (g7 (i:=4) bF.nd rfl rfl (own:=["point"]) (fq:=[]) (js:=[]) (aD (ak gn) ["web","marks","start","steps","found","waiting","nearest","way","tie","point","turn","part","further"]) rfl (aX (by rfl) T.bO (aa (aB (bR K) (pv 0) ah) af)) (fun _ _ _ _=>(bu 0 (k7 ["point"]))) (fun _ _ _ _=>bT) (fun _ _ _ _=>(cW (aa ni (aa ni af)))))
   (aj (aC (i:=5) bF.nd rfl (Or.inr rfl) (Ij (by exact oh hr) (cH (aa (pv 2) (aa ah af))) (cH (aa ah (aa ah af)))))
   (aj (tD PassesOwn.never (aL we (dm T3 (by rfl) T.cz PySem.boot_len (aa (pv 5) af)) ah (aM _)) (aj (aC (i:=6) bF.nd rfl (Or.inl rfl) (Lb (x:="place") (fq:=["waiting"]) (js:=[5]) hr (aD (ak gn) ["web","marks","start","steps","found","waiting","nearest","way","tie","point","turn","part","further"]) rfl (by rfl) T.Ja rfl T.iN.F.hd (aa (pv 5) af) (fun _ _ _ _ hr=>(Du (by exact oh hr) (pv 1) (pv 0) (fun _ _=>rfl)))))
   (aj (aC (i:=7) bF.nd rfl (Or.inl rfl) (Ii (by exact oh hr) (pv 5) (pv 6) ⟨rfl,rfl,rfl,rfl⟩))
   (aj (tw (pv 7) (xM (aB (iI K) (pv 4) (aB (bR K) (pv 6) ah)) (aB (bR K) (pv 6) ah) set_list))
   (av (dN PassesOwn.never rfl (pL K (aB (iI K) (pv 3) (aB (bR K) (pv 6) ah))) (JB K (n:=3) rfl (aV (bu 8 bF.nd) (aV (bu 9 bF.nd) (aV (bu 10 bF.nd) fU))))
   (aj (aC (i:=11) bF.nd rfl (Or.inl rfl) (aG fE (aB (bR K) (pv 6) ah) (pv 10)))
   (aj (aC (i:=12) bF.nd rfl (Or.inl rfl) (cH (aa (aG cS (aB (bR K) (pv 7) ah) (aB (bR K) (aB (bR K) (aB (bR K) (pv 0) ah) (pv 8)) ah)) (aa (aG fE (aB (bR K) (pv 7) ah) (aG jy ah (pv 8))) af))))
   (av (cG (PW.pt (xJ (aL Bd (aB (iI K) (aB (iI K) (pv 4) (pv 9)) (pv 11)) ni (aM _)) (sF (aL (NP hr.Be) (pv 12) (Hv (by exact oh hr) (pv 5) (cH (aa (pv 9) (aa (pv 11) af))) (pv 12) ⟨rfl,rfl,rfl,rfl⟩) (aM _))))) (av (Dv (by exact oh hr) (pv 5) (cH (aa (pv 9) (aa (pv 11) af))) (pv 12) rfl)) bh))))))))))
   (av (aH (pv 4))))))),?_⟩
  refine vF ?_;intro cQ c7 ez gz iz oZ uO DM DN DO uU r9;obtain⟨bt,xs,h1,h2,h3⟩:=id hw.ex;have sD:=h3.length;have wp:=g.p2;have wl:=g.len;refine(aq rfl (aq rfl ⟨wb,p,ts,g,m,rfl,hw,hm,fun Ds ess S H1 hel1 f1 k1=>?_⟩))
  have s1:=f1.same;refine(aq rfl (bS (aQ.of (s1 _ _ h1)) (ai (j:=0) rfl) (aq rfl ⟨(by lia),(by lia),fun D hD=>bN (lo:=0) (m:=p) (zV H1 D) (.start hD) (fun i acc H2 _ z=>z.len) (dl (Nat.ble_eq.mpr (by lia))) ?_ ?_⟩)))
  ·rintro i acc H2 hi f2;exact⟨rfl,dl rfl,fun l hl=>f2.next hl⟩
  rintro acc H2 ⟨es,rfl,hel,f2⟩;refine fun wd VU=>(aq rfl ⟨dl rfl,fun t1 Lr=>⟨dl rfl,fun t2 Ls=>?_⟩⟩)
  have VW:au (upd H2 wd (.dT [])) (upd (upd H2 wd (.dT [])) t1 (.tup [.int (u:Int),.int 0])):=au.new Lr;have Um:au (upd (upd H2 wd (.dT [])) t1 (.tup [.int (u:Int),.int 0])) (upd (upd (upd H2 wd (.dT [])) t1 (.tup [.int (u:Int),.int 0])) t2 (.tup [.int 0,.int 0])):=au.new Ls;have f3:=((f2.go (au.new VU (o:=.dT []))).go VW).go Um;have w3:=Um _ _ (VW _ _ (ae (H:=H2) (a:=wd) (o:=.dT [])));have u3:=Um _ _ (ae (H:=upd H2 wd (.dT [])) (a:=t1) (o:=.tup [.int (u:Int),.int 0]));have v3:(upd (upd (upd H2 wd (.dT [])) t1 (.tup [.int (u:Int),.int 0])) t2 (.tup [.int 0,.int 0])) t2=some (.tup [.int 0,.int 0]):=ae;generalize upd (upd (upd H2 wd (.dT [])) t1 (.tup [.int (u:Int),.int 0])) t2 (.tup [.int 0,.int 0])=H3 at f3 w3 u3 v3;refine⟨t1,ky u false,rfl,u3,w3,?_⟩;have YY:=uG.start f3 hu w3 (f2.same.free VU) v3;have Uo:=s1 _ _ htb;have hL:∀ k,k<g.N.n->0<=bj ts k:=xh g;have N4:∀ k,k<g.N.n->0<bj ts k:=fun k hk=>by
   have:=(g.vz _ (eI hk)).l0;unfold bj
   lia
  refine⟨fun n σ H4=>∃ v6 v7 v8 v9 v10 v11 Ga,σ=[some (.ref wb),some (.int (m:Int)),some (.int (u:Int)),some (.ref Ds),some (.ref D),some (.ref wd),v6,v7,v8,v9,v10,v11,Ga]/\∃ kvs F W,uG p H1 D wd es kvs F W H4/\RM.Dx g.N (bj ts) m u F W none (fun _ _=>False)/\n=RM.left F p,⟨_,none,none,none,none,none,none,none,rfl,_,_,_,YY,RM.Dx.start,rfl⟩,?_⟩
  rintro n σ H4 ⟨v6,v7,v8,v9,v10,v11,Ga,rfl,kvs,F,W,lw,dj,rfl⟩;refine(aq rfl ⟨wd,kvs,rfl,.inl lw.dt,_,_,rfl,rfl,aq rfl (mS (fun hlen=>?_) (fun hlen=>?_))⟩)
  case refine_2 =>
   have hl : ¬(0:Int)<(kvs.length:Int):=fun z=>hlen (cD z)
   have e:kvs=[]:=List.eq_nil_of_length_eq_zero (by lia)
   subst e;have hW:∀ x s,W x s=none:=fun x s=>by
    rcases lw.val x s with⟨z,_⟩|⟨_,_,_,z,_⟩
    ·exact z
    ·rw[uf]at z;cases z
   exact(aq rfl (q D F H4 (s1.free lw.Dn) (s1.trans lw.same) ⟨es,hel,lw.lst,lw.at_,dj.dj.best hW,dj.dj.fw,fun b hb=>s1.free (lw.fr b hb),dj.fin N4 hu hW⟩))
  have hlen:(0:Int)<(kvs.length:Int):=iG hlen;refine⟨fun σ' H'=>∃ v6 v7 v8 v9 v10 v11 Ga,σ' = [some (.ref wb),some (.int (m:Int)),some (.int (u:Int)),some (.ref Ds),some (.ref D),some (.ref wd),v6,v7,v8,v9,v10,v11,Ga]/\∃ kvs' F' W',uG p H1 D wd es kvs' F' W' H'/\RM.Dx g.N (bj ts) m u F' W' none (fun _ _=>False)/\RM.left F' p<RM.left F p,fun σ' H' ⟨a6,a7,a8,a9,Uq,Ur,Us,e,kvs',F',W',b1,b2,b3⟩=>⟨_,b3,a6,a7,a8,a9,Uq,Ur,Us,e,kvs',F',W',b1,b2,rfl⟩,?_⟩
  refine(aq rfl ⟨wd,kvs,Iq W kvs,rfl,lw.dt,(by lia),lw.same _ _ Uo,fun ob H5 EJ YZ i kv b hkv hb=>?_,fun i kv b H5 hkv hmin s5 hb=>?_⟩)
  ·obtain⟨x,t,d,c,hx,ek,QZ,Ut,_,hc,Uu⟩:=lw.entry hkv;have hcw:c≠wd:=aS hc lw.dt (by intro z;cases z)
   refine(aq rfl (aq rfl ⟨wd,.ref c,rfl,.inr ⟨kvs,ky x t,b,.inr ⟨ob,YZ⟩,rfl,by rw[<-ek];exact hb,Ut.symm⟩,au.refl _,c,rfl,?_⟩))
   rw[Uu];exact aQ.of (EJ c _ hc hcw (by intro y z;cases z) (by intro y z;cases z))
  obtain⟨x,t,d,c,hx,ek,QZ,Ut,_,hc,Uu⟩:=lw.entry hkv;rw[ek]at hb;have hmn:∀ y t' d',W y t' = some d'->d.1<=d'.1:=fun y t' d' Y0=>by
   obtain⟨j,VB,hj,_,ej⟩:=lw.find Y0;have:=hmin j (iH.mp hj).1;rw[ej,Uu]at this;exact yf this
  have Lv:=lw.go s5;have hc5:=s5 _ _ hc;have hF:F x t=none:=dj.dj.dj x t d QZ;refine(aq rfl ⟨wd,rfl,.inr ⟨kvs,.inl Lv.dt⟩,aq rfl ⟨kvs,ky x t,b,.ref c,Lv.dt,rfl,hb,Ut,?_⟩⟩);obtain⟨rb,r0,r1,er,Y3,hrb,hr0,hr1⟩:=Lv.row (i:=x) (by lia)
  have bw:b≠wd:=aS hb Lv.dt (by intro z;cases z)
  have Y4:rb≠wd:=aS hrb Lv.dt (by intro z;cases z)
  have VX:upd H5 wd (.dT (dD kvs (ky x t))) b=some (.tup [.int (x:Int),.int (t.toNat:Int)]):=by rw[ao bw];exact hb
  have Ui:upd H5 wd (.dT (dD kvs (ky x t))) D=some (.lst (es.map V.ref)):=by rw[ao (Ne.symm Lv.wD)];exact Lv.lst
  have Y5:upd H5 wd (.dT (dD kvs (ky x t))) rb=some (.lst [r0,r1]):=by rw[ao Y4];exact hrb
  refine(aq rfl (aq rfl (aq rfl (bS (aQ.of VX) (ai (j:=0) rfl) (iy (aK.of Ui) (ai er) (aq rfl (bS (aQ.of VX) (ai (j:=1) rfl) ⟨rb,_,_,t.toNat,rfl,rfl,Y5,l9 (n:=2) (j:=t.toNat) (by cases t<;>decide),?_⟩)))))))
  have OI:=Lv.take QZ hc5 Y3 hrb;have Uv:=dj.pop QZ hmn;have hd0:0<=d.1:=by
   obtain⟨pre,w0⟩:=dj.dj.ww x t d QZ;exact(RM.oN hL hu w0).2.2.2.2.2
  have hlt:RM.left (RM.i8 F x t d) p<RM.left F p:=RM.Ai hF hx;have VY:dz H5 (upd (upd H5 wd (.dT (dD kvs (ky x t)))) rb (.lst (([r0,r1]:List V).set t.toNat (.ref c)))):=fun z ys e=>by
   rw[ao (aS e hrb (by intro z;cases z)),ao (aS e Lv.dt (by intro z;cases z))]
   exact e
  have OH:=VY _ _ hb;have OJ:=VY _ _ hc5;generalize upd (upd H5 wd (.dT (dD kvs (ky x t)))) rb (.lst (([r0,r1]:List V).set t.toNat (.ref c)))=H7 at OI OH OJ;generalize RM.ye W x t=W7 at OI Uv;have R9:RM.i8 F x t d x t=some d:=RM.bV _ _ _ _;generalize RM.i8 F x t d=F7 at OI Uv hlt R9;obtain⟨sb,cs,Y6,Y7,Qm,Uw⟩:=f1.get (i:=x) (by lia)
  have hlS:=k1.len x;refine(aq rfl (aq rfl (bS (aQ.of OH) (ai (j:=0) rfl) (iy (aK.of (OI.same _ _ f1.lst)) (ai Y6) ⟨sb,rfl,⟨_,aK.of (OI.same _ _ Qm)⟩,?_⟩))));refine dH (K:=K) (a:=sb) (xs:=cs.map V.ref) (fun j σ H8=>∃ v8 v9 v10 v11 Ga,σ=[some (.ref wb),some (.int (m:Int)),some (.int (u:Int)),some (.ref Ds),some (.ref D),some (.ref wd),some (.ref b),some (.ref c),v8,v9,v10,v11,Ga]/\dz H7 H8/\∃ yL W8,uG p H1 D wd es yL F7 W8 H8/\RM.Dx g.N (bj ts) m u F7 W8 (some (x,t)) (fun k y=>∃ j',j'<j/\(S x)[j']?=some (k,y)))
   ⟨_,_,_,_,_,rfl,(au.refl _).tups,_,_,OI,?_⟩ (fun j σ H8 _ ⟨_,_,_,_,_,_,_,_,_,z,_⟩=>aK.of (z.same _ _ Qm)) ?_ ?_
  ·exact Uv.less fun k y ⟨j',h0,_⟩=>absurd h0 (Nat.not_lt_zero _)
  ·rintro j y Y8 σ H8 hj ⟨v8,v9,v10,v11,Ga,rfl,Sa,yL,W8,N5,Q0⟩;obtain⟨cc,hcc,rfl⟩:∃ cc,cs[j]?=some cc/\y = .ref cc:=by
    rw[List.getElem?_map]at hj;obtain⟨cc,h1,h2⟩:=vn.mp hj;exact⟨cc,h1,h2.symm⟩
   have HS:j<(S x).length:=by rw[<-Uw.length];exact(iH.mp hcc).1
   have eS:(S x)[j]?=some (S x)[j]:=List.getElem?_eq_getElem HS;have VZ:=L2.qp Uw hcc eS;generalize hkw:(S x)[j]=kw at eS VZ;obtain⟨k,y⟩:=kw;have hmem:=(k1.mem x (k,y)).mp (gy eS);obtain⟨hk,yT⟩:=hmem;have hk:k<ts.length:=hk;have yT:RM.Jn g.N k x y:=yT;have hy:y<p:=yT.lt hk;have Ux:=N5.same _ _ VZ;have Ux:H8 cc=some (.tup [.int (k:Int),.int (y:Int),.int ((m.testBit k).toNat:Int)]):=Ux;refine⟨cc,_,rfl,aQ.of Ux,rfl,_,_,rfl,_,_,rfl,_,_,rfl,rfl,?_⟩;have Y9:=Sa _ _ OH;have V0:=Sa _ _ OJ;refine(aq rfl (bS (aQ.of Y9) (ai (j:=1) rfl) (aq rfl (bW (?_)))));dsimp only;rw[Lu];obtain⟨ct,ex,hct⟩:=kj (g:=g) h3 hk;have Za:=N5.same _ _ (s1 _ _ h1);have Zb:=N5.same _ _ (s1 _ _ h2);have Uy:=N5.same _ _ (s1 _ _ hct);refine(aq rfl (bS (aQ.of V0) (ai (j:=0) rfl) (aq rfl (bS (aQ.of Za) (ai (j:=1) rfl) (aq rfl (bS (aQ.of Zb) (ai (j:=k) ex) (bS (aQ.of Uy) (ai (j:=2) rfl) (?_))))))));refine(bW (aq rfl (bS (aQ.of V0) (ai (j:=1) rfl) (aq rfl (bW ⟨⟨by lia,by lia,by decide⟩,bW ⟨dl rfl,fun f hf=>?_⟩⟩)))))
   have ef:Builtin.bitXor ((d.2:Nat):Int) (1*2^((k:Nat):Int).toNat)=((d.2^^^2^k:Nat):Int):=by
    rw[Int.toNat_natCast,Int.one_mul,show((2:Int)^k)=((2^k:Nat):Int) by simp]
    exact xor_int _ _
   dsimp only;rw[ef];have s9:au H8 (upd H8 f (.tup [.int (d.1+(aU ts k).2.2),.int ((d.2^^^2^k:Nat):Int)])):=au.new hf;have V1:upd H8 f (.tup [.int (d.1+(aU ts k).2.2),.int ((d.2^^^2^k:Nat):Int)]) f=some (.tup [.int (d.1+bj ts k),.int ((d.2^^^2^k:Nat):Int)]):=ae;have OL:=N5.go s9;have Uz:dz H7 (upd H8 f (.tup [.int (d.1+(aU ts k).2.2),.int ((d.2^^^2^k:Nat):Int)])):=fun z ys e=>s9 _ _ (Sa _ _ e)
   generalize upd H8 f (.tup [.int (d.1+(aU ts k).2.2),.int ((d.2^^^2^k:Nat):Int)])=H9 at OL V1 Uz;obtain⟨rb2,q0,q1,Zc,Zd,UA,Bx,hq1⟩:=OL.row (i:=y) (by lia)
   obtain⟨vv,Ze,OM⟩:∃ vv,([q0,q1]:List V)[(t^^m.testBit k).toNat]?=some vv/\wV H9 (F7 y (t^^m.testBit k)) vv:=by
    cases(t^^m.testBit k) with
    | false=>exact⟨q0,rfl,Bx⟩
    | true=>exact⟨q1,rfl,hq1⟩
   have Lk:=hL k hk;refine(aq rfl (aq rfl (iy (aK.of OL.lst) (ai Zc) (aq rfl (iy (aK.of UA) (ai Ze) (?_))))));refine⟨rfl,aq rfl (?_)⟩;have dn:∀{DQ:Nat->Nat->Prop} {Wx:RM.OW},RM.Dx g.N (bj ts) m u F7 Wx (some (x,t)) (fun k' y'=>(∃ j',j'<j/\(S x)[j']?=some (k',y'))\/(k' = k/\y' = y))->
    RM.Dx g.N (bj ts) m u F7 Wx (some (x,t)) (fun k' y'=>∃ j',j'<j+1/\(S x)[j']?=some (k',y')):=fun {DQ Wx} h =>
    h.less fun k' y' ⟨j',h0,h5⟩=>by
     by_cases ej:j' = j
     ·subst ej;rw[eS]at h5;cases h5;exact .inr ⟨rfl,rfl⟩
     ·exact .inl ⟨j',by lia,h5⟩
   cases Sb:F7 y (t^^m.testBit k) with
   | some d2 =>
     rw[Sb]at OM;obtain⟨c2,rfl,hc2⟩:=OM;refine Bo (fun z=>nomatch z) ?_
     exact⟨_,_,_,_,_,rfl,Uz,yL,W8,OL,dn (DQ:=fun _ _=>False) (Q0.skip R9 (N4 k hk) (.inl Sb))⟩
   | none =>
     rw[Sb]at OM;have OM:vv = .dU:=OM;subst OM;refine MW rfl ?_;refine(aq rfl (aq rfl ⟨wd,rfl,.inr ⟨yL,.inl OL.dt⟩,aq rfl (aq rfl ⟨dl rfl,fun t3 Zf=>?_⟩)⟩))
     have JM:au H9 (upd H9 t3 (.tup [.int (y:Int),.int ((t^^m.testBit k).toNat:Int)])):=au.new Zf;have Q2:upd H9 t3 (.tup [.int (y:Int),.int ((t^^m.testBit k).toNat:Int)]) t3=some (.tup ((ky y (t^^m.testBit k)).map kV)):=ae;have FU:=OL.go JM;have Jl:=JM _ _ V1;have N6:dz H7 (upd H9 t3 (.tup [.int (y:Int),.int ((t^^m.testBit k).toNat:Int)])):=fun z ys e=>JM _ _ (Uz _ _ e)
     generalize upd H9 t3 (.tup [.int (y:Int),.int ((t^^m.testBit k).toNat:Int)])=ON at FU Jl Q2 N6;refine(aq rfl ⟨dB yL (ky y (t^^m.testBit k)),.inr ⟨yL,ky y (t^^m.testBit k),t3,.inl FU.dt,rfl,Q2,rfl⟩,?_⟩);have V2:=FU.len;have put:(∀ d',W8 y (t^^m.testBit k)=some d'->RM.lx (RM.stp (bj ts) d k) d')->c7 Y8 [some (.ref wb),some (.int (m:Int)),some (.int (u:Int)),some (.ref Ds),some (.ref D),some (.ref wd),some (.ref b),some (.ref c),some (.int (k:Int)),some (.int (y:Int)),some (.int ((m.testBit k).toNat:Int)),some (.int ((t^^m.testBit k).toNat:Int)),some (.ref f)] ON:=fun hle=>by
      refine(aq rfl (aq rfl (aq rfl (aq rfl ⟨dl rfl,fun t4 UB=>?_⟩))))
      have Jm:au ON (upd ON t4 (.tup [.int (y:Int),.int ((t^^m.testBit k).toNat:Int)])):=au.new UB;have UC:upd ON t4 (.tup [.int (y:Int),.int ((t^^m.testBit k).toNat:Int)]) t4=some (.tup ((ky y (t^^m.testBit k)).map kV)):=ae;have N7:=FU.go Jm;have UD:=Jm _ _ Jl;refine⟨wd,_,rfl,zO.t N7.dt UC (iO (by lia)),?_⟩
      have UE:=N7.wait (x:=y) (s:=(t^^m.testBit k)) (d:=(d.1+bj ts k,d.2^^^2^k)) hy UD;refine⟨_,_,_,_,_,rfl,fun z ys e=>?_,_,_,UE,dn (DQ:=fun _ _=>False) (Q0.put R9 hd0 hk (N4 k hk) yT Sb hle)⟩
      have V3:=Jm _ _ (N6 _ _ e);rw[ao (aS V3 N7.dt (by intro z;cases z))]
      exact V3
     rcases FU.val y (t^^m.testBit k) with⟨Zg,Zh⟩|⟨d2,c2,V4,hvs,hc2⟩
     ·rw[Zh];refine⟨f,f,_,_,_,_,rfl,rfl,aQ.of Jl,aQ.of Jl,_,rfl,mS (fun _=>put fun d' e=>by rw[Zg]at e;cases e) fun z=>absurd ((HT.yc _ _ _ _).mpr (.inr ⟨rfl,Int.le_refl _⟩)) z⟩
     ·rw[hvs];refine⟨f,c2,_,_,_,_,rfl,rfl,aQ.of Jl,aQ.of hc2,_,rfl,mS (fun hl=>?_) (fun hl=>?_)⟩
      ·have hl:=(HT.yc _ _ _ _).mp hl;refine put fun d' e=>?_
       rw[V4]at e;cases e;unfold RM.lx RM.stp;simp only
       lia
      ·have hl:=fun z=>hl ((HT.yc _ _ _ _).mpr z)
       refine⟨_,_,_,_,_,rfl,N6,yL,W8,FU,dn (DQ:=fun _ _=>False) (Q0.skip R9 (N4 k hk) (.inr ⟨V4,?_⟩))⟩
       have h6 : ¬ d.1+bj ts k<d2.1:=fun z=>hl (.inl z)
       have h7 : ¬(d.1+bj ts k=d2.1/\((d.2^^^2^k:Nat):Int)<=(d2.2:Int)):=fun z=>hl (.inr z)
       unfold RM.lx RM.stp;simp only
       lia
  ·rintro σ H8 ⟨v8,v9,v10,v11,Ga,rfl,Sa,yL,W8,N5,Q0⟩;refine⟨_,_,_,_,_,_,_,rfl,yL,F7,W8,N5,Q0.all fun k y hk yT=>?_,hlt⟩
   have hm':=(k1.mem x (k,y)).mpr ⟨hk,yT⟩;obtain⟨j',hj'⟩:=List.getElem?_of_mem hm';have UG:=(iH.mp hj').1;exact⟨j',by rw[List.length_map,Uw.length];exact UG,hj'⟩
def FW:Sp:=fun vs H Q _=>∃ v o,vs=[v]/\wV H o v/\Q (oV (o.map (·.1))) H
abbrev yM(F:RM.OW):Nat->Bool->Option Int:=fun x s=>(F x s).map (·.1)
def AO:Sp:=fun vs H Q _=>∃(D:Addr) (es:List Addr) (F:RM.OW),vs=[.ref D]/\H D=some (.lst (es.map V.ref))/\es.length<=900/\(∀(i:Nat) b,es[i]?=some b->∃ v0 v1,H b=some (.lst [v0,v1])/\wV H (F i false) v0/\wV H (F i true) v1)/\
 ∀ b ys H',au H H'->H' b=some (.tup ys)->Paired (i0 H') ys (kZ (yM F) es.length)->Q (.ref b) H'
theorem fD:Ok T T.fC 1 FW:=by
 refine T.fC.ok qy fun _ A _ s H vs Q E hr h=>?_
 ·obtain⟨v,o,rfl,hv,q⟩:=h;refine⟨_,(av (aH (ly (aL Bd (pv 0) ni (aM _)) ni (aB (bR K) (pv 0) ah)))),?_⟩;cases o with
  | none =>
    have hv:v = .dU:=hv;subst hv;exact(aq rfl ⟨rfl,aq rfl (MW rfl q)⟩)
  | some d =>
    obtain⟨c,rfl,hc⟩:=hv;exact(aq rfl ⟨rfl,aq rfl (Bo (fun z=>nomatch z) (aq rfl (bS (aQ.of hc) (ai (j:=0) rfl) (q))))⟩)
theorem gX:Ok T T.gR 2 AO:=by
 have fD:=fD T;refine T.gR.ok o7 fun _ A _ s H vs Q E hr h=>?_
 ·obtain⟨D,es,F,rfl,hD,hl,yN,q⟩:=h;refine⟨_,(av (aH (cA (C9 K) (by rfl) T.sV PyProof.Rows.boot_tuple (aa (bM (own:=["even","odd"]) (fq:=[]) (js:=[]) (aD (ak eN) ["ways"]) rfl (pL K (pv 0)) (fun _ _ _ _=>(T8 K rfl (aV (bu 0 (k7 ["even","odd"])) (aV (bu 1 (k7 ["even","odd"])) fU)))) (fun _ _ _ _=>bT) (fun _ _ _ _=>(cH (aa (aI fD hr T.fC.c aO (aa (pv 0) af)) (aa (aI fD hr T.fC.c aO (aa (pv 1) af)) af))))) af)))),?_⟩
  refine(aq rfl ⟨D,rfl,⟨_,aK.of hD⟩,fun L hL=>bQ (K:=K) (a:=D) (xs:=es.map V.ref) (fun i acc H2=>au H H2/\H2 L=some (.lst acc)/\Paired (i0 H2) acc (kZ (yM F) i)) ⟨au.new hL,ae,.nil⟩ (fun i acc H2 _ z=>⟨aK.of (z.1 _ _ hD),z.2.1,by rw[z.2.2.length,DE];exact Nat.le_refl _⟩) (dl (Nat.ble_eq.mpr (by rw[List.length_map];lia))) ?_ ?_⟩)
  ·rintro i x acc H2 hx ⟨s2,Lw,pr⟩;obtain⟨b,hb,rfl⟩:∃ b,es[i]?=some b/\x = .ref b:=by
    rw[List.getElem?_map]at hx;obtain⟨b,h1,h2⟩:=vn.mp hx;exact⟨b,h1,h2.symm⟩
   obtain⟨v0,v1,hv,w0,w1⟩:=yN i b hb;refine⟨b,v0,v1,rfl,aK.of (s2 _ _ hv),_,_,rfl,_,_,rfl,rfl,rfl,aq rfl ⟨v0,_,rfl,w0.tups s2.tups,_,rfl,v1,_,rfl,w1.tups s2.tups,dl rfl,fun t ht=>?_⟩⟩
   have s3:au H2 (upd H2 t (.tup [oV (yM F i false),oV (yM F i true)])):=au.new ht;have tL:t≠L:=fun z=>by rw[z,Lw]at ht;cases ht
   have Qt:H L=none:=hL;refine⟨s3 _ _ Lw,(s2.trans s3).put Qt,ae,?_⟩;rw[HJ];have keep:∀ z pr,i0 H2 z pr->i0 (upd (upd H2 t (.tup [oV (yM F i false),oV (yM F i true)])) L (.lst (acc++[.ref t]))) z pr:=fun z pr ⟨b,e,hb⟩=>⟨b,e,by rw[ao (aS hb Lw (by intro z;cases z))];exact s3 _ _ hb⟩
   exact Paired.snoc (Paired.imp' (fun _ _ z=>keep _ _ z) pr) ⟨t,rfl,by rw[ao tL,ae]⟩
  ·rintro acc H2 ⟨s2,Lw,pr⟩;rw[List.length_map]at pr;refine⟨L,_,rfl,.inl ⟨aK.of Lw,fun l hl=>?_⟩⟩
   exact q l acc _ (s2.trans (au.new hl)) ae (Paired.imp' (fun _ _ ⟨b,e,hb⟩=>⟨b,e,au.new hl _ _ hb⟩) pr)
theorem jH.same{p:Nat}{N:RM.Net}{L:Nat->Int}{m u:Nat}{D:Addr}{F:RM.OW}{H0 H H' : Hp}(h:jH p N L m u D F H0 H)(s:au H H'):jH p N L m u D F H0 H':=by
 obtain⟨es,e1,e2,e3,e4,e5,e6⟩:=h;exact⟨es,e1,s _ _ e2,fun i b hb=>let⟨v0,v1,q1,q2,q3⟩:=e3 i b hb;⟨v0,v1,s _ _ q1,q2.tups s.tups,q3.tups s.tups⟩,e4,e5,e6⟩
theorem jH.put{p:Nat}{N:RM.Net}{L:Nat->Int}{m u:Nat}{D X:Addr}{F:RM.OW}{H0 H:Hp}{xs ys:List V}(h:jH p N L m u D F H0 H)(hD:H0 D=none)(hX:H X=some (.lst xs))(Zi:∃ o,H0 X=some o):jH p N L m u D F H0 (upd H X (.lst ys)):=by
 obtain⟨es,e1,e2,e3,e4,e5,e6⟩:=h;obtain⟨o,ho⟩:=Zi;have ne:∀ b,H0 b=none->b≠X:=fun b hb z=>by rw[z,ho]at hb;cases hb
 have tp:dz H (upd H X (.lst ys)):=dz.put hX;refine⟨es,e1,by rw[ao (ne D hD)];exact e2,fun i b hb=>?_,e4,e5,e6⟩
 obtain⟨v0,v1,q1,q2,q3⟩:=e3 i b hb;exact⟨v0,v1,by rw[ao (ne b (e6.1 b (gy hb)))];exact q1,q2.tups tp,q3.tups tp⟩
def DR(p:Nat)(N:RM.Net)(L:Nat->Int)(m i:Nat)(ds:List Addr)(Fs:Nat->RM.OW)(H:Hp):Prop:=ds.length=i/\∀(j:Nat) d,ds[j]?=some d->∃ H0,jH p N L m j d (Fs j) H0 H
def AQ(t:Addr)(lp:Pos):Sp:=fun vs H Q _=>∃ w p ts,∃ g:aA p ts,∃ m:Nat,vs=[.ref w,.int (m:Int)]/\bq H w p ts/\m<2^ts.length/\H t=some (.jJ (fc (r6 "least_ways") lp))/\
 ∀ D ds Fs H',H D=none->au H H'->H' D=some (.lst (ds.map V.ref))->DR p g.N (bj ts) m p ds Fs H'->Q (.ref D) H'
theorem gY:Ok T T.gU 6 (AQ a.dc cU):=by
 have kQ:=kQ T;refine T.gU.ok o8 fun _ A _ s H vs Q E hr h=>?_
 ·obtain⟨wb,p,ts,g,m,rfl,hw,hm,htb,q⟩:=h;refine⟨_,(av (aH (bM (own:=["start"]) (fq:=["web","marks"]) (js:=[0,1]) (aD (ak eO) ["web","marks"]) rfl (aX (by rfl) T.bO (aa (aB (bR K) (pv 0) ah) af)) (fun _ _ _ _=>(bu 0 (k7 ["start","web","marks"]))) (fun _ _ _ _=>bT) (fun _ _ _ _=>(aI kQ hr T.iN.c aO (aa (pv 1) (aa (pv 2) (aa (pv 0) af)))))))),?_⟩
  obtain⟨bt,xs,h1,h2,h3⟩:=id hw.ex;have wp:=g.p2;refine(aq rfl (bS (aQ.of h1) (ai (j:=0) rfl) (aq rfl ⟨(by lia),(by lia),fun D hD=>bN (lo:=0) (m:=(p:Int).toNat) (fun i acc H2=>au H H2/\H2 D=some (.lst acc)/\∃ ds Fs,acc=ds.map V.ref/\ds.length=i/\∀(j:Nat) d,ds[j]?=some d->∃ H0,jH p g.N (bj ts) m j d (Fs j) H0 H2/\H0 d=none/\∃ o,H0 D=some o) ⟨au.new hD,ae,[],fun _ _ _=>none,rfl,rfl,fun j d e=>by cases e⟩ (fun i acc H2 _ ⟨_,z,ds,_,e,l,_⟩=>⟨z,by rw[e,List.length_map];lia⟩) (dl (Nat.ble_eq.mpr (by lia))) ?_ ?_⟩)))
  ·rintro i acc H2 hi ⟨s2,gx,ds,Fs,rfl,hl,all⟩;rw[Int.toNat_natCast]at hi;rw[Int.zero_add];refine⟨rfl,aq rfl (aq rfl (aq rfl ⟨wb,p,ts,g,m,i,rfl,hw.same s2,hm,hi,s2 _ _ htb,fun d F H3 hd s3 wa=>?_⟩))⟩
   have pJ:=s3 _ _ gx;refine⟨pJ,(s2.trans s3).put hD,ae,ds++[d],fun j=>if j=i then F else Fs j,by simp,by simp[hl],fun j d' e=>?_⟩
   by_cases ej:j<ds.length
   ·rw[List.getElem?_append_left ej]at e;obtain⟨H0,w0,n0,o0⟩:=all j d' e;dsimp only;rw[if_neg (show ¬ j=i by lia)]
    exact⟨H0,(w0.same s3).put n0 pJ o0,n0,o0⟩
   ·rw[List.getElem?_append_right (by lia)]at e
    have hj:j=i:=by
     have:=(iH.mp e).1;simp at this
     lia
    subst hj;rw[hl,Nat.sub_self]at e;have e:d=d':=by simpa using e
    subst e;dsimp only;rw[if_pos rfl];exact⟨H2,wa.put hd pJ ⟨_,gx⟩,hd,_,gx⟩
  ·rintro acc H2 ⟨s2,gx,ds,Fs,rfl,hl,all⟩;rw[Int.toNat_natCast]at hl;exact q D ds Fs H2 hD s2 gx ⟨hl,fun j d e=>let⟨H0,w0,_⟩:=all j d e;⟨H0,w0⟩⟩
def yO:Sp:=fun vs H Q _=>∃(D:Addr) (ds:List Addr) (Fs:Nat->RM.OW),∃ p N L m,vs=[.ref D]/\H D=some (.lst (ds.map V.ref))/\p<=900/\DR p N L m p ds Fs H/\
 ∀ b H',au H H'->lK H' b ((List.range p).map fun i=>kZ (yM (Fs i)) p)->Q (.ref b) H'
theorem iE:Ok T T.iC 3 yO:=by
 have gX:=gX T;refine T.iC.ok qz fun _ A _ s H vs Q E hr h=>?_
 ·obtain⟨D,ds,Fs,p,N,L,m,rfl,hD,hp,⟨hl,all⟩,q⟩:=h;refine⟨_,(av (aH (cA (C9 K) (by rfl) T.sV PyProof.Rows.boot_tuple (aa (bM (own:=["from_point"]) (fq:=[]) (js:=[]) (aD (ak fB) ["ways"]) rfl (pL K (pv 0)) (fun _ _ _ _=>(bu 0 (k7 ["from_point"]))) (fun _ _ _ _=>bT) (fun _ _ _ _=>(aI gX hr T.gR.c aO (aa (pv 0) af)))) af)))),?_⟩
  refine(aq rfl ⟨D,rfl,⟨_,aK.of hD⟩,fun X hX=>bQ (K:=K) (a:=D) (xs:=ds.map V.ref) (fun i acc H2=>au H H2/\H2 X=some (.lst acc)/\Paired (RowW H2) acc ((List.range i).map fun i=>kZ (yM (Fs i)) p)) ⟨au.new hX,ae,.nil⟩ (fun i acc H2 _ z=>⟨aK.of (z.1 _ _ hD),z.2.1,by rw[z.2.2.length,List.length_map,List.length_range];exact Nat.le_refl _⟩) (dl (Nat.ble_eq.mpr (by rw[List.length_map];lia))) ?_ ?_⟩)
  ·rintro i x acc H2 hx ⟨s2,hX2,pr⟩;obtain⟨d,hd,rfl⟩:∃ d,ds[i]?=some d/\x = .ref d:=by
    rw[List.getElem?_map]at hx;obtain⟨b,h1,h2⟩:=vn.mp hx;exact⟨b,h1,h2.symm⟩
   obtain⟨H0,wa⟩:=all i d hd;obtain⟨es,e1,e2,e3,_⟩:=wa.same s2;refine⟨rfl,aq rfl ⟨d,es,Fs i,rfl,e2,(by lia),e3,fun b ys H3 s3 hb OO=>?_⟩⟩
   have A6:=s3 _ _ hX2;refine⟨A6,(s2.trans s3).put hX,ae,?_⟩;rw[List.range_succ,List.map_append,e1]at *;exact Paired.snoc (Paired.imp' (fun _ _ z=>z.tups (s3.tups.trans (dz.put A6))) pr) (RowW.tups (dz.put A6) ⟨b,ys,rfl,hb,OO⟩)
  ·rintro acc H2 ⟨s2,hX2,pr⟩;rw[List.length_map,hl]at pr;refine⟨X,_,rfl,.inl ⟨aK.of hX2,fun l hl=>?_⟩⟩
   exact q l _ (s2.trans (au.new hl)) ⟨acc,ae,Paired.imp' (fun _ _ z=>z.same (au.new hl)) pr⟩
theorem Q3{x y:V}{A B:Prop}(h:x≠y)(ha:A):if(!decide (x=y))=true then A else B:=by
 rw[cR h];exact gC ha
def Lx(p:Nat)(ts:List c9)(g:aA p ts)(m:Nat)(H H' : Hp)(t:Addr):Prop :=
 ((∀ x z,x<p->¬ RM.Wy g.N (bj ts) m x x true z)/\m=g.N.cut (fun x=>decide (x∈rR p ts g m))/\∃ l,H l=none/\H' t=some (.tup [.str "side",.ref l])/\H' l=some (.lst (az (rR p ts g m))))\/
 ∃(z:Int) (e:Nat) (b:Addr) (W:List (List Pr)),RM.Lo g.N (bj ts) m z e/\RM.uI g.N (bj ts) m z e/\H' t=some (.tup [.str "ring",.int (e:Int),.ref b])/\lK H' b W/\W.length=p/\(∀ R∈W,R.length=p)/\Qj p ts g m W
def yP(C t:Addr)(lp:Pos):Sp:=fun vs H Q E=>∃ w p ts,∃ g:aA p ts,∃ S,vs=[.ref w,.int S]/\bq H w p ts/\H t=some (.jJ (fc (r6 "least_ways") lp))/\pF ts S (E (.ref C) none H) fun m=>∀ r H',H r=none->au H H'->Lx p ts g m H H' r->Q (.ref r) H'
def vh(H:Hp)(v:V)(d:Int×Nat):Prop:=∃ c,v = .ref c/\H c=some (.tup [.int d.1,.int (d.2:Int)])
theorem vh.tups{H H' : Hp}{v:V}{d:Int×Nat}(h:vh H v d)(s:dz H H'):vh H' v d:=let⟨c,e,q⟩:=h;⟨c,e,s _ _ q⟩
def nM(d:Int×Nat):PyData:=.tuple [.int d.1,.int (d.2:Int)]
theorem AR{K:bX}{H:Hp}:∀{ys:List V} {R:List (Int×Nat)},Paired (vh H) ys R->DatVs K H ys (R.map nM)
 | _,_,.nil=>.nil
 | _,_,.cons h r=>by
   obtain⟨b,rfl,hb⟩:=h;exact .cons (.tup (aQ.of hb) (.cons (.int _) (.cons (.int _) .nil))) (AR r)
theorem Jo:∀ l:List (Int×Nat),PyData.eqv (.list (l.map nM)) (.list [])=decide (l=[])
 | []=>rfl
 | _::_=>rfl
theorem AS:∀ R:List (Int×Nat),PyData.canLayAll0 (R.map nM)=true
 | []=>rfl
 | q::r=>by
   have ih:=AS r;have e:(nM q).canLay0=true:=by simp[nM,PyData.canLay0,PyData.canLayAll0]
   simp only[List.map_cons,PyData.canLayAll0,ih,Bool.and_true,e]
theorem xD:∀ R:List (Int×Nat),PyData.depthAll (R.map nM)<=1
 | []=>Nat.zero_le _
 | q::r=>by
   have ih:=xD r;show max (PyData.depth (nM q)) (PyData.depthAll (r.map nM))<=1;have e:PyData.depth (nM q)=1:=by simp[nM,PyData.depth,PyData.depthAll]
   lia
theorem xE{H:Hp}:∀{ys:List V} {R:List (Int×Nat)},Paired (vh H) ys R->∃ cs:List Addr,ys=cs.map V.ref/\Paired (fun(c:Addr) (d:Int×Nat)=>H c=some (.tup [.int d.1,.int (d.2:Int)])) cs R
 | _,_,.nil=>⟨[],rfl,.nil⟩
 | _,_,.cons h r=>by
   obtain⟨b,rfl,hb⟩:=h;obtain⟨cs,rfl,pr⟩:=xE r;exact⟨b::cs,rfl,.cons hb pr⟩
theorem AU(R:List (Int×Nat)):SeqAt.shaped (.list (R.map nM))=true:=by
 unfold SeqAt.shaped;have e:(PyData.list (R.map nM)).canLay0=PyData.canLayAll0 (R.map nM):=by simp[PyData.canLay0]
 rw[e,AS,Bool.true_and];refine cD ?_;have h:=xD R;have e2:PyData.depth (PyData.list (R.map nM))=PyData.depthAll (R.map nM)+1:=by simp[PyData.depth]
 rw[e2]
 lia
theorem yf{a b:Int×Nat}(h:HT.lexLt [a.1,(a.2:Int)] [b.1,(b.2:Int)]=false):RM.lx b a:=by
 rw[HT.gB]at h;unfold RM.lx
 by_cases e:a.1=b.1
 ·rw[if_pos e,HT.gB]at h;refine .inr ⟨e.symm,?_⟩
  by_cases e2:(a.2:Int)=(b.2:Int)
  ·lia
  ·rw[if_neg e2]at h;have:=of_decide_eq_false h
   lia
 ·rw[if_neg e]at h;have:=of_decide_eq_false h;exact .inl (by lia)
theorem l6:JL T T.lY 7 (yP a.eE a.dc cU):=by
 have cP:=cP T;have gY:=gY T;have iE:=iE T;have rh:=rh T;refine T.lY.F5 kB fun _ A _ s H vs Q E hr h=>?_
 ·obtain⟨wb,p,ts,g,S,rfl,hw,htb,q⟩:=h;refine⟨_,(aj (c8 (aI cP hr T.ie.c gE.passes (aa (pv 0) (aa (pv 1) af))))
   (aj (aC (i:=2) kB.nd rfl (Or.inr rfl) (aI gY hr T.gU.c aO (aa (pv 0) (aa (pv 1) af))))
   (aj (g7 (i:=3) kB.nd rfl rfl (own:=["point"]) (fq:=["ways"]) (js:=[2]) (aD (ak ju) ["web","marks","ways","rounds"]) rfl (aX (by rfl) T.bO (aa (aB (bR K) (pv 0) ah) af)) (fun _ _ _ _=>(bu 0 (k7 ["point","ways"]))) (fun _ _ _ _=>(fW (aL JZ (aB (iI K) (aB (iI K) (aB (iI K) (pv 1) (pv 0)) (pv 0)) ah) ni (aM _)))) (fun _ _ _ _=>(aB (iI K) (aB (iI K) (aB (iI K) (pv 1) (pv 0)) (pv 0)) ah)))
   (aj (cG (aL (Bp K hr.units) (pv 3) (cW af) (aM _)) (av (aH (aI rh hr T.qT.c gE.passes (aa (pv 0) (aa (pv 1) af))))) bh)
   (av (aH (cH (aa sZ (aa (aB (bR K) (dm (T9 hr.hd hr.in1.Be) (by rfl) T.Ja PyProof.Rows.boot_min (aa (pv 3) af)) ah) (aa (aI iE hr T.iC.c aO (aa (pv 2) af)) af)))))))))),?_⟩
  refine yq ?_;intro cQ c7 ez gz iz;obtain⟨bt,xs,h1,h2,h3⟩:=id hw.ex;have wp:=g.p2;have W:=g.G0;rcases q with⟨m,rfl,hm,q⟩|⟨hS,q⟩
  case inr=>exact(aq rfl (aq rfl ⟨wb,p,ts,_,rfl,hw,W,.inr ⟨hS,q⟩⟩))
  refine(aq rfl (aq rfl ⟨wb,p,ts,_,rfl,hw,W,.inl ⟨m,rfl,hm,?_⟩⟩));refine(aq rfl (aq rfl ⟨wb,p,ts,g,m,rfl,hw,hm,htb,fun D ds Fs H1 hD s1 mX al=>?_⟩))
  obtain⟨hl,all⟩:=id al;have yN:∀ i,i<p->∃ d H0,ds[i]?=some d/\jH p g.N (bj ts) m i d (Fs i) H0 H1:=fun i hi=>by
   have e:ds[i]?=some ds[i]:=List.getElem?_eq_getElem (by lia)
   obtain⟨H0,h0⟩:=all i _ e;exact⟨_,H0,e,h0⟩
  refine(aq rfl (bS (aQ.of (s1 _ _ h1)) (ai (j:=0) rfl) (aq rfl ⟨(by lia),(by lia),fun X hX=>bN (lo:=0) (m:=(p:Int).toNat) (fun i acc H2=>au H1 H2/\H2 X=some (.lst acc)/\Paired (vh H2) acc ((List.range i).filterMap fun j=>Fs j j true)) ⟨au.new hX,ae,.nil⟩ (fun i acc H2 _ z=>⟨z.2.1,by rw[z.2.2.length];exact Nat.le_trans (List.length_filterMap_le ..) (by simp)⟩) (dl (Nat.ble_eq.mpr (by lia))) ?_ ?_⟩)))
  ·rintro i acc H2 hi ⟨s2,hX2,pr⟩;rw[Int.toNat_natCast]at hi;rw[Int.zero_add];obtain⟨d,H0,hd,es,e1,e2,e3,_⟩:=yN i hi;have hei:es[i]?=some es[i]:=List.getElem?_eq_getElem (by lia)
   obtain⟨v0,v1,hv,w0,w1⟩:=e3 i _ hei;have fm:(List.range (i+1)).filterMap (fun j=>Fs j j true)=(List.range i).filterMap (fun j=>Fs j j true)++(Fs i i true).toList:=by
    rw[List.range_succ,List.filterMap_append];cases hF:Fs i i true<;>simp[hF]
   rw[fm];have V5:(ds.map V.ref)[i]?=some (.ref d):=by rw[List.getElem?_map,hd];rfl
   have hdi:(es.map V.ref)[i]?=some (.ref es[i]):=by rw[List.getElem?_map,hei];rfl
   refine⟨rfl,aq rfl (aq rfl (iy (aK.of (s2 _ _ mX)) (ai (j:=i) V5) (aq rfl (iy (aK.of (s2 _ _ e2)) (ai (j:=i) hdi) (iy (aK.of (s2 _ _ hv)) (ai (j:=1) rfl) ⟨rfl,aq rfl (?_)⟩)))))⟩;cases hF:Fs i i true with
   | none =>
     rw[hF]at w1;have w1:v1 = .dU:=w1;subst w1;refine GF rfl ⟨s2,hX2,?_⟩;rw[show(none:Option (Int×Nat)).toList=[] from rfl,List.append_nil]
     exact pr
   | some dd =>
     rw[hF]at w1;obtain⟨c,rfl,hc⟩:=w1;refine Q3 (fun z=>nomatch z) (aq rfl (aq rfl (iy (aK.of (s2 _ _ mX)) (ai (j:=i) V5) (aq rfl (iy (aK.of (s2 _ _ e2)) (ai (j:=i) hdi) (iy (aK.of (s2 _ _ hv)) (ai (j:=1) rfl) ⟨hX2,s2.put hX,ae,?_⟩))))))
     have tp:dz H2 (upd H2 X (.lst (acc++[.ref c]))):=dz.put hX2;exact Paired.snoc (Paired.imp' (fun _ _ z=>z.tups tp) pr) ⟨c,rfl,tp _ _ (s2 _ _ hc)⟩
  ·rintro acc H2 ⟨s2,hX2,pr⟩;rw[Int.toNat_natCast]at pr;generalize hR:(List.range p).filterMap (fun j=>Fs j j true)=R at pr
   have s12:=s1.trans s2;have N4:∀ k,k<g.N.n->0<bj ts k:=fun k hk=>by
    have:=(g.vz _ (eI hk)).l0;unfold bj
    lia
   have inR:∀ j d,j<p->Fs j j true=some d->d∈R:=fun j d hj hd=>by
    rw[<-hR];exact List.mem_filterMap.mpr ⟨j,List.mem_range.mpr hj,hd⟩
   have Zj:∀ d,d∈R->∃ j,j<p/\Fs j j true=some d:=fun d hd=>by
    rw[<-hR]at hd;obtain⟨j,hj,e⟩:=List.mem_filterMap.mp hd;exact⟨j,List.mem_range.mp hj,e⟩
   have best:∀ i,i<p->∀ x s,RM.HH g.N (bj ts) m i x s ((Fs i x s).map (·.1)):=fun i hi=>by
    obtain⟨d,H0,hd,es,e1,e2,e3,e4,_⟩:=yN i hi;exact e4
   refine(aq rfl ⟨dl rfl,fun l0 C6=>⟨_,_,.lst (aK.of (au.new C6 _ _ hX2)) (AR (Paired.imp' (fun _ _ z=>z.tups (au.new C6).tups) pr)),.lst (aK.of ae) .nil,AU _,rfl,aq rfl (?_)⟩⟩)
   rw[Jo];have s3:=s12.trans (au.new (o:=.lst []) C6);have UH:=s2.trans (au.new (o:=.lst []) C6);have A6:=au.new (o:=.lst []) C6 _ _ hX2;have OO:=Paired.imp' (fun _ _ z=>vh.tups z (au.new (o:=.lst []) C6).tups) pr
   clear hX2 pr;generalize upd H2 l0 (.lst [])=H3 at s3 UH A6 OO
   by_cases hne:R=[]
   ·rw[cD hne];have no:∀ x z,x<p->¬ RM.Wy g.N (bj ts) m x x true z:=fun x z hx hw=>by
     have b:=best x hx x true;cases hF:Fs x x true with
     | none=>rw[hF]at b;exact b z hw
     | some d=>have:=inR x d hx hF;rw[hne]at this;cases this
    refine gC (aq rfl (aq rfl ⟨wb,p,ts,g,_,rfl,hw.same s3,.inl ⟨m,rfl,hm,fun t H4 ht s4 told=>?_⟩⟩))
    refine q t H4 (s3.free ht) (s3.trans s4) (.inl ⟨no,?_⟩);rcases told with⟨h0,l,hl,UB,V6⟩|⟨c,hc,hp,_⟩
    ·exact⟨h0,l,s3.free hl,UB,V6⟩
    ·obtain⟨c1,c2⟩:=RM.cg.mp hc;rw[RM.Iv (fun k hk=>Int.le_of_lt (N4 k hk)) no (RM.w9 c1 c2) (RM.oE c1)]at hp
     cases hp
   ·rw[cR hne];obtain⟨cs,rfl,V7⟩:=xE OO;have csl:=V7.length;have hpos:0<cs.length:=by
     have:=List.length_pos_iff.mpr hne
     lia
    have hcs:∀(i:Nat) c,cs[i]?=some c->∃ d,R[i]?=some d/\H3 c=some (.tup [.int d.1,.int (d.2:Int)]):=fun i c hc=>Paired.tM V7 hc
    refine e8 (aq rfl ⟨X,cs,fun i=>[(R.getD i (0,0)).1,((R.getD i (0,0)).2:Int)],rfl,aK.of A6,hpos,fun i c hc=>?_,fun i c hc hmin=>?_⟩)
    ·obtain⟨d,hd,h⟩:=hcs i c hc;have e:R.getD i (0,0)=d:=by rw[List.getD_eq_getElem?_getD,hd];rfl
     dsimp only;rw[e];exact aQ.of h
    obtain⟨d,hd,hcd⟩:=hcs i c hc;obtain⟨u,hu,V8⟩:=Zj d (gy hd);have hlx:∀ j d',j<p->Fs j j true=some d'->RM.lx d d':=fun j d' hj hF=>by
     obtain⟨i',hi'⟩:=List.getElem?_of_mem (inR j d' hj hF);have hlt:i'<cs.length:=by
      have:=(iH.mp hi').1
      lia
     have hm2:=hmin i' hlt;have e:R.getD i (0,0)=d:=by rw[List.getD_eq_getElem?_getD,hd];rfl
     have e' : R.getD i' (0,0)=d':=by rw[List.getD_eq_getElem?_getD,hi'];rfl
     dsimp only at hm2;rw[e,e']at hm2;exact yf hm2
    have hmn:∀ x z',x<p->RM.Wy g.N (bj ts) m x x true z'->d.1<=z':=fun x z' hx hw=>by
     have b:=best x hx x true;cases hF:Fs x x true with
     | none=>rw[hF]at b;exact absurd hw (b z')
     | some d' =>
       rw[hF]at b;have h1:d'.1<=z':=b.2 z' hw;have h2:=hlx x d' hx hF;unfold RM.lx at h2
       lia
    obtain⟨_,_,_,es,_,_,_,_,wz,_,_⟩:=yN u hu;have V9:=wz u true d V8;obtain⟨r1,r2,r3,r4⟩:=RM.BV N4 (show u<g.N.p from hu) V9 hmn
    refine(bS (aQ.of hcd) (ai (j:=1) rfl) (aq rfl ⟨D,ds,Fs,p,g.N,bj ts,m,rfl,UH _ _ mX,(by lia),⟨hl,fun j d e=>let⟨H0,w0⟩:=all j d e;⟨H0,w0.same UH⟩⟩,fun b H4 s4 hW=>⟨dl rfl,fun t ht=>?_⟩⟩))
    have s5:au H4 (upd H4 t (.tup [.str "ring",.int (d.2:Int),.ref b])):=au.new ht;refine q t _ ((s3.trans s4).free ht) ((s3.trans s4).trans s5) (.inr ⟨d.1,d.2,b,_,⟨Fs,fun i hi=>?_,⟨u,hu,V8⟩,hlx⟩,⟨r1,r2,r3,r4,⟨u,hu,?_⟩,hmn⟩,ae,hW.same s5,by rw[List.length_map,List.length_range],fun R hR=>?_,fun i hi x s hx=>?_⟩)
    ·obtain⟨_,_,_,_,_,_,_,_,_,_,fx⟩:=yN i hi;exact fx
    ·obtain⟨pre,w0⟩:=V9;exact⟨pre,_,w0⟩
    ·obtain⟨i,_,rfl⟩:=List.mem_map.mp hR;exact DE _ _
    ·rw[List.getD_eq_getElem?_getD,List.getElem?_map,List.getElem?_range hi];show RM.HH _ _ m i x s (sel (KY (kZ (yM (Fs i)) p) x) s);rw[Nv hx];exact best i hi x s
def CG:Sp:=fun vs H Q _=>∃(l:Addr) (rows:List RM.Row3) (x:Nat),vs=[.ref l,.int (x:Int)]/\jn H l rows/\∀ c H',au H H'->H' c=some (.tup [.int (((RM.cB rows x 0).1:Nat):Int),.int (((RM.cB rows x 0).2:Nat):Int)])->Q (.ref c) H'
def AV:Sp:=fun vs H Q _=>∃(l b:Addr) (rows:List RM.Row3) (a:RM.Row3),vs=[.ref l,.ref b]/\jn H l rows/\H b=some (.tup (rM a))/\rows.length<=200/\∀ l' H',au H H'->jn H' l' (RM.vC rows a)->Q (.ref l') H'
def CH:Sp:=fun vs H Q _=>∃(l:Addr) (B:List Nat),vs=[.ref l]/\H l=some (.lst (az B))/\B.length<=200/\∀ l' rows H',au H H'->jn H' l' rows->RM.Rw B rows->rows=RM.iw B B.length->Q (.ref l') H'
def Q4(p:Nat)(ts:List c9)(g:aA p ts)(zs:List Int):Prop:=∃ rs:List Nat,zs=rs.map (fun x=>((x:Nat):Int))/\RM.Base g.N rs
def CI:Sp:=fun vs H Q _=>∃ w p ts,∃ g:aA p ts,∃(l:Addr) (zs:List Int),vs=[.ref w,.ref l]/\bq H w p ts/\H l=some (.lst (zs.map V.int))/\zs.length<=200/\∀ H' (d:Bool),au H H'->(d=true↔Q4 p ts g zs)->Q (.bl d) H'
theorem cast_inj{xs ys:List Nat}(e:xs.map (fun x=>((x:Nat):Int))=ys.map fun x=>((x:Nat):Int)):xs=ys:=by
 have:=congrArg (List.map Int.toNat) e;rw[List.map_map,List.map_map]at this;have h1:(Int.toNat∘fun x=>((x:Nat):Int))=id:=funext fun x=>rfl
 rw[h1,List.map_id,List.map_id]at this;exact this
theorem Mp{x y:V}{A B:Prop}(h:x≠y)(ha:A):if(!decide (x=y))=true then A else B:=by
 rw[cR h];exact gC ha
theorem rm:Ok T T.qU 2 CG:=by
 have cI:=cI T;refine T.qU.ok eA fun _ A _ s H vs Q E hr h=>?_
 ·obtain⟨l,rows,x,rfl,hR,q⟩:=h;refine⟨_,(aj (aC (i:=2) eA.nd rfl (Or.inl rfl) (pv 1))
   (aj (aC (i:=3) eA.nd rfl (Or.inl rfl) ah)
   (aj (dN PassesOwn.never rfl (pL K (pv 0)) (JB K (n:=3) rfl (aV (bu 4 eA.nd) (aV (bu 5 eA.nd) (aV (bu 6 eA.nd) fU))))
   (av (cG (fT (aI cI hr T.iS.c aO (aa (pv 2) (aa (pv 4) af)))) (aj (xN (i:=2) eA.nd rfl (Or.inl rfl) (pv 5) CT)
   (av (xN (i:=3) eA.nd rfl (Or.inl rfl) (pv 6) CT))) bh)))
   (av (aH (cH (aa (pv 2) (aa (pv 3) af)))))))),?_⟩
  refine B9 ?_;intro cQ c7 ez gz iz oZ;obtain⟨xs,hl,pr⟩:=id hR;refine(aq rfl (aq rfl ⟨l,rfl,⟨_,aK.of hl⟩,dH (K:=K) (a:=l) (xs:=xs) (fun i σ H2=>∃ v4 v5 v6,σ=[some (.ref l),some (.int (x:Int)),some (.int (((RM.cB (rows.take i) x 0).1:Nat):Int)),some (.int (((RM.cB (rows.take i) x 0).2:Nat):Int)),v4,v5,v6]/\H2=H) ⟨none,none,none,rfl,rfl⟩ (fun i σ H2 _ ⟨_,_,_,_,z⟩=>by rw[z];exact aK.of hl) ?_ ?_⟩))
  ·rintro i y D' σ H2 hi ⟨v4,v5,v6,rfl,rfl⟩;obtain⟨qq,hq,b,rfl,hb⟩:=Paired.tM pr hi;refine⟨b,_,rfl,aQ.of hb,rfl,_,_,rfl,_,_,rfl,_,_,rfl,rfl,?_⟩;refine(aq rfl (aq rfl ⟨_,qq.1,rfl,aq rfl (?_)⟩));rw[fk];have e3:=EK (rows.take i) qq x 0;rw[<-take3 hq]at e3;cases lF:(RM.cB (rows.take i) x 0).1.testBit qq.1 with
   | true =>
     rw[lF,if_pos rfl]at e3;refine gC (aq rfl (aq rfl (bW (aq rfl (aq rfl (bW ⟨some (.int (qq.1:Int)),some (.int (qq.2.1:Int)),some (.int (qq.2.2:Int)),?_,rfl⟩))))));rw[e3];show[_,_,some (V.int (Builtin.bitXor _ _)),some (V.int (Builtin.bitXor _ _)),_,_,_]=_;rw[xor_int,xor_int]
   | false =>
     rw[lF,if_neg (by decide)]at e3
     refine e8 ⟨some (.int (qq.1:Int)),some (.int (qq.2.1:Int)),some (.int (qq.2.2:Int)),?_,rfl⟩;rw[e3];rfl
  ·rintro σ H2 ⟨v4,v5,v6,rfl,rfl⟩;rw[pr.length,List.take_length];exact(aq rfl (aq rfl ⟨dl rfl,fun c hc=>q c _ (au.new hc) ae⟩))
theorem nN:Ok T T.nH 2 AV:=by
 have cI:=cI T;refine T.nH.ok lV fun _ A _ s H vs Q E hr h=>?_
 ·obtain⟨l,b,rows,ad,rfl,hR,hb,hlen,q⟩:=h;refine⟨_,(aj (aC (i:=2) lV.nd rfl (Or.inl rfl) (cW (aa (pv 1) af)))
   (aj (dN PassesOwn.never rfl (pL K (pv 0)) (bu 3 lV.nd)
   (av (cG (fT (aI cI hr T.iS.c aO (aa (aB (bR K) (pv 3) ah) (aa (aB (bR K) (pv 1) ah) af)))) (av (c8 (F8 K (kX PySem.F.plainAttrs_list PySem.F.slot_list_append PySem.F.type_list_append cX (pv 2) (aa (cH (aa (aB (bR K) (pv 3) ah) (aa (aG fE (aB (bR K) (pv 3) ah) (aB (bR K) (pv 1) ah)) (aa (aG fE (aB (bR K) (pv 3) ah) (aB (bR K) (pv 1) ah)) af)))) af))))) (av (c8 (F8 K (kX PySem.F.plainAttrs_list PySem.F.slot_list_append PySem.F.type_list_append cX (pv 2) (aa (pv 3) af))))))))
   (av (aH (pv 2))))),?_⟩
  refine Au ?_;intro cQ c7 ez gz iz;obtain⟨xs,hl,pr⟩:=id hR;have Zk:=pr.length;refine(aq rfl ⟨dl rfl,fun D hD=>?_⟩)
  have s1:au H (upd H D (.lst [.ref b])):=au.new hD;have mX:upd H D (.lst [.ref b]) D=some (.lst [.ref b]):=ae;generalize upd H D (.lst [.ref b])=H1 at s1 mX;refine(aq rfl ⟨l,rfl,⟨_,aK.of (s1 _ _ hl)⟩,dH (K:=K) (a:=l) (xs:=xs) (fun i σ H2=>∃ v3 acc,σ=[some (.ref l),some (.ref b),some (.ref D),v3]/\au H H2/\H2 D=some (.lst acc)/\acc.length=i+1/\Paired (uz H2) acc (RM.vC (rows.take i) ad)) ⟨none,_,rfl,s1,mX,rfl,.cons ⟨b,rfl,s1 _ _ hb⟩ .nil⟩ (fun i σ H2 _ ⟨_,_,_,z,_⟩=>aK.of (z _ _ hl)) ?_ ?_⟩)
  ·rintro i y D' σ H2 hi ⟨v3,acc,rfl,s2,gx,al,Q5⟩;obtain⟨qq,hq,c,rfl,hc⟩:=Paired.tM pr hi;have zL:=(iH.mp hi).1;have hc2:=s2 _ _ hc;have Je:=s2 _ _ hb;have put:RM.vC (rows.take (i+1)) ad=RM.vC (rows.take i) ad++[if qq.2.1.testBit ad.1=true then(qq.1,qq.2.1^^^ad.2.1,qq.2.2^^^ad.2.2) else qq]:=by
    unfold RM.vC;rw[take3 hq,List.map_append];rfl
   refine(aq rfl (bS (aQ.of hc2) (ai (j:=1) rfl) (aq rfl (bS (aQ.of Je) (ai (j:=0) rfl) ⟨_,ad.1,rfl,aq rfl (?_)⟩))));rw[fk];cases lF:qq.2.1.testBit ad.1 with
   | true =>
     rw[lF,if_pos rfl]at put;refine gC (aq rfl ⟨.inl ⟨rfl,_,aK.of gx⟩,aq rfl (bS (aQ.of hc2) (ai (j:=0) rfl) (aq rfl (bS (aQ.of hc2) (ai (j:=1) rfl) (aq rfl (bS (aQ.of Je) (ai (j:=1) rfl) (bW (aq rfl (bS (aQ.of hc2) (ai (j:=2) rfl) (aq rfl (bS (aQ.of Je) (ai (j:=2) rfl) (bW ⟨dl rfl,fun d hd=>?_⟩)))))))))))⟩)
     have s3:au H2 (upd H2 d (.tup (rM (qq.1,qq.2.1^^^ad.2.1,qq.2.2^^^ad.2.2)))):=au.new hd;have LY:upd H2 d (.tup (rM (qq.1,qq.2.1^^^ad.2.1,qq.2.2^^^ad.2.2))) d=some (.tup (rM (qq.1,qq.2.1^^^ad.2.1,qq.2.2^^^ad.2.2))):=ae;have ev:[V.int (qq.1:Int),V.int (Builtin.bitXor (qq.2.1:Int) (ad.2.1:Int)),V.int (Builtin.bitXor (qq.2.2:Int) (ad.2.2:Int))]=rM (qq.1,qq.2.1^^^ad.2.1,qq.2.2^^^ad.2.2):=by
      rw[xor_int,xor_int];rfl
     dsimp only;rw[ev];generalize upd H2 d (.tup (rM (qq.1,qq.2.1^^^ad.2.1,qq.2.2^^^ad.2.2)))=H3 at s3 LY;have pJ:=s3 _ _ gx;refine⟨D,_,_,rfl,rfl,pJ,dY (by lia),_,acc++[.ref d],rfl,(s2.trans s3).put hD,ae,by rw[List.length_append,al];rfl,?_⟩
     rw[put];exact Paired.snoc (Paired.imp' (fun _ _ z=>z.tups (s3.tups.trans (dz.put pJ))) Q5) ⟨d,rfl,dz.put pJ _ _ LY⟩
   | false =>
     rw[lF,if_neg (by decide)]at put
     refine e8 (aq rfl ⟨.inl ⟨rfl,_,aK.of gx⟩,aq rfl ⟨D,_,_,rfl,rfl,gx,dY (by lia),_,acc++[.ref c],rfl,s2.put hD,ae,by rw[List.length_append,al];rfl,?_⟩⟩)
     rw[put];exact Paired.snoc (Paired.imp' (fun _ _ z=>z.tups (dz.put gx)) Q5) ⟨c,rfl,dz.put gx _ _ hc2⟩
  ·rintro σ H2 ⟨v3,acc,rfl,s2,gx,al,Q5⟩;rw[Zk,List.take_length]at Q5;exact(aq rfl (q D H2 s2 ⟨acc,gx,Q5⟩))
theorem rq:Ok T T.qV 3 CH:=by
 have rm:=rm T;have nN:=nN T;refine T.qV.ok gJ fun _ A _ s H vs Q E hr h=>?_
 ·obtain⟨l,B,rfl,hl,hB,q⟩:=h;refine⟨_,(aj (aC (i:=1) gJ.nd rfl (Or.inl rfl) (cW af))
   (aj (dN PassesOwn.never rfl (De K (by rfl) T.jx (aa (pv 0) af)) (JB K (n:=2) rfl (aV (bu 2 gJ.nd) (aV (bu 3 gJ.nd) fU)))
   (aj (aC (i:=4) gJ.nd rfl (Or.inl rfl) (aI rm hr T.qU.c aO (aa (pv 1) (aa (pv 3) af))))
   (av (cG (aL we (aB (bR K) (pv 4) ah) ah (aM _)) (av (aC (i:=1) gJ.nd rfl (Or.inl rfl) (aI nN hr T.nH.c aO (aa (pv 1) (aa (cH (aa (aG nq (GB PySem.F.plainAttrs_int PyProof.Rows.slot_int_bit_length PyProof.Rows.type_int_bit_length C8 (aB (bR K) (pv 4) ah)) ah) (aa (aB (bR K) (pv 4) ah) (aa (aG fE (aB (bR K) (pv 4) ah) (aG jy ah (pv 2))) af)))) af))))) bh))))
   (av (aH (pv 1))))),?_⟩
  refine uV ?_;intro cQ c7 ez gz iz;refine⟨dl rfl,fun D hD=>?_⟩
  have s1:au H (upd H D (.lst [])):=au.new hD;have mX:upd H D (.lst []) D=some (.lst []):=ae;generalize upd H D (.lst [])=H1 at s1 mX;refine(aq rfl ⟨l,rfl,⟨_,aK.of (s1 _ _ hl)⟩,GU (K:=K) (a:=l) (xs:=az B) (fun i σ H2=>∃ l2 rows v2 v3 v4,σ=[some (.ref l),some (.ref l2),v2,v3,v4]/\au H H2/\jn H2 l2 rows/\RM.Rw (B.take i) rows/\rows=RM.iw B i) ⟨D,[],none,none,none,rfl,s1,⟨[],mX,.nil⟩,RM.Rw.start,rfl⟩ (fun i σ H2 _ ⟨_,_,_,_,_,_,z,_⟩=>aK.of (z _ _ hl)) ?_ ?_⟩)
  ·rintro i x T0 σ H2 hx ⟨l2,rows,v2,v3,v4,rfl,s2,Mq,N8,Q6⟩ hT;obtain⟨b,hb,rfl⟩:=fK hx;have zL:=(iH.mp hb).1;have s3:au H2 (upd H2 T0 (.tup [.int (i:Int),.int (b:Int)])):=au.new hT;have Wa:upd H2 T0 (.tup [.int (i:Int),.int (b:Int)]) T0=some (.tup [.int (i:Int),.int (b:Int)]):=ae;generalize upd H2 T0 (.tup [.int (i:Int),.int (b:Int)])=H3 at s3 Wa;refine⟨T0,_,rfl,aQ.of Wa,rfl,_,_,rfl,_,_,rfl,rfl,?_⟩;refine(aq rfl (aq rfl ⟨l2,rows,b,rfl,Mq.same s3,fun c H4 s4 hc=>?_⟩))
   have hlt:(B.take i).length=i:=by rw[List.length_take];lia
   refine(aq rfl (bS (aQ.of hc) (ai (j:=0) rfl) (bW (aq rfl (mS (fun h0=>?_) (fun h0=>?_))))))
   ·have h0:(0:Int)<_:=iG h0;have OP:(RM.cB rows b 0).1≠0:=by lia
    have Q7:=N8.put OP;rw[hlt,<-take3 hb]at Q7;have Zl:=(Mq.same s3).same s4;have Q8:rows.length<=200:=by have:=N8.le;lia
    refine(aq rfl (aq rfl (bS (aQ.of hc) (ai (j:=0) rfl) ⟨rfl,aq rfl ⟨rfl,bW (aq rfl (bS (aQ.of hc) (ai (j:=0) rfl) (aq rfl (bS (aQ.of hc) (ai (j:=1) rfl) (aq rfl (bW ⟨⟨by lia,by lia,by decide⟩,bW ⟨dl rfl,fun d hd=>?_⟩⟩))))))⟩⟩)))
    have ev:[V.int (((Builtin.Int.intBits (((RM.cB rows b 0).1:Nat):Int):Nat):Int)-1),V.int (((RM.cB rows b 0).1:Nat):Int),V.int (Builtin.bitXor (((RM.cB rows b 0).2:Nat):Int) (1*2^((i:Nat):Int).toNat))]=rM ((RM.cB rows b 0).1.log2,(RM.cB rows b 0).1,(RM.cB rows b 0).2^^^2^i):=by
     rw[HV OP,ji,xor_int];rfl
    dsimp only;rw[ev];refine⟨l2,d,rows,_,rfl,Zl.same (au.new hd),ae,Q8,fun l5 H5 s5 Zm=>?_⟩
    exact⟨l5,_,_,_,_,rfl,((s2.trans (s3.trans s4)).trans (au.new hd)).trans s5,Zm,Q7,RM.BY Q6 hb OP⟩
   ·have OP:(RM.cB rows b 0).1=0:=by
     have : ¬(0:Int)<_:=fun z=>h0 (cD z)
     lia
    have JG:=N8.skip ((N8.mz b 0).mp OP);rw[<-take3 hb]at JG;exact⟨l2,rows,_,_,_,rfl,s2.trans (s3.trans s4),(Mq.same s3).same s4,JG,RM.Ao Q6 hb OP⟩
  ·rintro σ H2 ⟨l2,rows,v2,v3,v4,rfl,s2,Mq,N8,Q6⟩;rw[aF]at Q6;rw[aF,List.take_length]at N8;exact(aq rfl (q l2 rows H2 s2 Mq N8 Q6))
theorem rA:Ok T T.qW 9 CI:=by
 have Cy:=Cy T;have gV:=gV T;have rq:=rq T;refine T.qW.ok Ca fun _ A _ s H vs Q E hr h=>?_
 ·obtain⟨wb,p,ts,g,l,zs,rfl,hw,hl,hz,q⟩:=h;refine⟨_,(aj (cG (PW.pt (vY (aL wc (bL K T.cz (aa (pv 1) af)) (aI Cy hr T.Cs.c aO (aa (pv 0) af)) (aM _)) (pO (pP (fT (dm (TU K rfl) (by rfl) T.QO PyProof.Rows.boot_all (aa (bM (own:=["ring"]) (fq:=["web"]) (js:=[0]) (aD (ak mO) ["web","rings"]) rfl (pL K (pv 1)) (fun _ _ _ _=>(bu 0 (k7 ["ring","web"]))) (fun _ _ _ _=>bT) (fun _ _ _ _=>(aI gV hr T.gP.c aO (aa (pv 1) (aa (pv 0) af))))) af))))))) (av (aH nX)) bh)
   (av (aH (cV dW (bL K T.cz (aa (aI rq hr T.qV.c aO (aa (pv 1) af)) af)) (bL K T.cz (aa (pv 1) af)) (aM _))))),?_⟩
  refine g9 ?_;intro cQ c7;refine(aq rfl (lS rfl (.inl (aK.of hl)) (aq rfl ⟨wb,p,ts,g,rfl,hw,fun H1 s1=>⟨rfl,aq rfl (?_)⟩⟩)))
  by_cases hn:zs.length=g.N.aN.length
  case neg =>
   refine Mp (fun z=>hn ?_) (q H1 false s1 ⟨(fun z=>nomatch z),fun⟨rs,e,b⟩=>absurd b.len (fun z=>hn ?_)⟩)
   ·have z:=V.int.inj z;rw[List.length_map]at z
    lia
   ·rw[e,List.length_map];exact z
  refine GF (by rw[List.length_map,hn]) ?_
  have hl1:=s1 _ _ hl;refine(aq rfl ⟨l,rfl,⟨_,aK.of hl1⟩,fun D hD=>bQ (xs:=zs.map V.int) (fun i acc H2=>au H1 H2/\H2 D=some (.lst acc)/\∃ bs:List Bool,acc=bs.map V.bl/\bs.length=i/\∀(j:Nat) z d,j<i->zs[j]?=some z->bs[j]?=some d->(d=true↔∃ m:Nat,z=(m:Int)/\m<2^ts.length/\g.N.Ring m)) ⟨au.new hD,ae,[],rfl,rfl,(fun j z d h=>by lia)⟩ (fun i acc H2 _ z=>⟨aK.of (z.1 _ _ hl1),z.2.1,by obtain⟨bs,e,e2,_⟩:=z.2.2;rw[e,List.length_map,e2];exact Nat.le_refl _⟩) (Nat.le_of_lt (dY (by rw[List.length_map];lia))) ?_ ?_⟩)
  ·rintro i x acc H2 hx ⟨s2,gx,bs,rfl,bl,all⟩;rw[List.getElem?_map]at hx;obtain⟨z,hz,rfl⟩:=vn.mp hx;refine⟨rfl,aq rfl (aq rfl ⟨wb,p,ts,g,z,rfl,hw.same (s1.trans s2),fun H3 d s3 hd=>?_⟩)⟩
   refine⟨s3 _ _ gx,(s2.trans s3).put hD,ae,bs++[d],by rw[List.map_append];rfl,by rw[List.length_append,bl];rfl,fun j z' d' hj hz' hd'=>?_⟩
   by_cases e:j=i
   ·subst e;rw[hz]at hz';cases hz';rw[List.getElem?_append_right (by lia),bl,Nat.sub_self]at hd'
    cases hd';exact hd
   ·rw[List.getElem?_append_left (by lia)]at hd'
    exact all j z' d' (by lia) hz' hd'
  ·rintro acc H2 ⟨s2,gx,bs,rfl,bl,all⟩;rw[List.length_map]at bl all;refine⟨D,_,rfl,aK.of gx,_,rfl,?_⟩;have ok:bs.all id=true↔∃ rs:List Nat,zs=rs.map (fun x=>((x:Nat):Int))/\∀ r∈rs,g.N.Ring r/\r<2^ts.length:=by
    rw[List.all_eq_true]
    constructor
    ·intro h;have each:∀ z∈zs,∃ m:Nat,z=(m:Int)/\m<2^ts.length/\g.N.Ring m:=fun z hz'=>by
      obtain⟨j,hj⟩:=List.getElem?_of_mem hz';have HS:=(iH.mp hj).1;have hb:bs[j]?=some (bs[j]'(by lia)):=List.getElem?_eq_getElem _
      exact(all j z _ HS hj hb).mp (h _ (gy hb))
     refine⟨zs.map Int.toNat,?_,fun r hr=>?_⟩
     ·rw[List.map_map];refine(List.map_id zs).symm.trans (List.map_congr_left fun z hz'=>?_)
      obtain⟨m,rfl,_⟩:=each z hz';rfl
     ·obtain⟨z,hz',rfl⟩:=List.mem_map.mp hr;obtain⟨m,rfl,h1,h2⟩:=each z hz';exact⟨h2,h1⟩
    ·rintro⟨rs,rfl,hrs⟩ d hd;obtain⟨j,hj⟩:=List.getElem?_of_mem hd;have HS:=(iH.mp hj).1;have hr:rs[j]?=some (rs[j]'(by rw[List.length_map]at bl;lia)):=List.getElem?_eq_getElem _
     have hm:=hrs _ (gy hr);exact(all j _ d (by lia) (by rw[List.getElem?_map,hr];rfl) hj).mpr (aq rfl ⟨hm.2,hm.1⟩)
   cases hall:bs.all id with
   | false =>
     refine gC (q H2 false (s1.trans s2) ⟨(fun z=>nomatch z),fun⟨rs,e,b⟩=>?_⟩)
     rw[ok.mpr ⟨rs,e,b.ring⟩]at hall;cases hall
   | true =>
     obtain⟨rs,rfl,hrs⟩:=ok.mp hall;rw[List.length_map]at hz hn;rw[<-ki]at hl1;have hl2:=s2 _ _ hl1;refine e8 (aq rfl ⟨l,rs,rfl,hl2,hz,fun l3 rows H3 s3 Zn Wb _=>?_⟩)
     obtain⟨xs,Zo,OO⟩:=id Zn;refine(lS rfl (.inl (aK.of Zo)) (aq rfl (lS rfl (.inl (aK.of (s3 _ _ hl2))) ⟨rfl,q H3 _ ((s1.trans s2).trans s3) ?_⟩)));rw[aF,OO.length,decide_eq_true_iff]
     constructor
     ·intro e;have e:=V.int.inj e;exact⟨rs,rfl,hn,hrs,Wb.len.mp (by lia)⟩
     ·rintro⟨Zp,e,b⟩;rw[<-cast_inj e]at b;have:=Wb.len.mpr b.ind;rw[this]
def FY(t1 t2:Addr)(UI UJ:Pos):Sp:=fun vs H Q _=>∃ w p ts,∃ g:aA p ts,vs=[.ref w]/\bq H w p ts/\H t1=some (.jJ (fc (r6 "least_ways") UI))/\H t2=some (.jJ (fc (r6 "by_length") UJ))/\
 ∀ D rs H',H D=none->au H H'->H' D=some (.lst (az rs))->RM.LB g.N (bj ts) rs->rs.Pairwise (ng ts)->(∃ bs,RM.NR g.N (bj ts) (g.N.aN.map fun c=>2^c) bs []/\rs.Perm bs)->Q (.ref D) H'
theorem jI:Ok T T.jF 10 (FY a.dc a.ic cU gm):=by
 have jW:=jW T;have l6:=l6 T;have dI:=dI T;have lZ:=lZ T;refine T.jF.ok c6 fun _ A _ s H vs Q E hr h=>?_
 ·obtain⟨wb,p,ts,g,rfl,hw,Lr,Ls,q⟩:=h;refine⟨_,(aj (g7 (i:=1) c6.nd rfl rfl (own:=["chord"]) (fq:=[]) (js:=[]) (aD (ak fh) ["web","waiting","found","marks","ring"]) rfl (pL K (aI jW hr T.pD.c aO (aa (pv 0) af))) (fun _ _ _ _=>(bu 0 (k7 ["chord"]))) (fun _ _ _ _=>bT) (fun _ _ _ _=>(aG jy ah (pv 0))))
   (aj (aC (i:=2) c6.nd rfl (Or.inl rfl) (cW af))
   (aj (tD PassesOwn.never (aL we (bL K T.cz (aa (pv 1) af)) ah (aM _)) (aj (aC (i:=3) c6.nd rfl (Or.inr rfl) (aB (iI K) (pv 1) ah))
   (aj (aC (i:=4) c6.nd rfl (Or.inr rfl) (aB (bR K) (aI l6 hr T.lY.c zg (aa (pv 0) (aa (pv 3) af))) ah))
   (aj (c8 (F8 K (kX PySem.F.plainAttrs_list PySem.F.slot_list_append PySem.F.type_list_append cX (pv 2) (aa (pv 4) af))))
   (av (g7 (i:=1) c6.nd rfl rfl (own:=["later"]) (fq:=["marks","ring"]) (js:=[3,4]) (aD (ak fh) ["web","waiting","found","marks","ring"]) rfl (pL K (n5 (Td K) (pv 1) (sH ah) sG)) (fun _ _ _ _=>(bu 0 (k7 ["later","marks","ring"]))) (fun _ _ _ _=>bT) (fun _ _ _ _=>(ly (fT (aI dI hr T.hU.c aO (aa (pv 2) (aa (pv 0) af)))) (aG fE (pv 0) (pv 1)) (pv 0)))))))))
   (av (aH (aI lZ hr T.jw.c aO (aa (pv 0) (aa (pv 2) af)))))))),?_⟩
  refine uW ?_;intro cQ c7 ez gz iz oZ uO;have wl:=g.len;have cn:g.N.aN.length<=24:=by
   have:g.N.aN.length<=(List.range g.N.n).length:=List.length_filter_le ..;rw[List.length_range]at this;have h2:g.N.n=ts.length:=rfl
   lia
  have Wc:(100:Nat)<sizeLine:=by decide
  refine(aq rfl ⟨wb,p,ts,g,rfl,hw,fun Dc H1 hDc s1 hc1=>⟨Dc,rfl,⟨_,aK.of hc1⟩,fun X hX=>bQ (K:=K) (a:=Dc) (xs:=az g.N.aN) (fun i acc H2=>au H1 H2/\H2 X=some (.lst acc)/\acc=az ((g.N.aN.take i).map fun c=>2^c)) ⟨au.new hX,ae,rfl⟩ (fun i acc H2 _ z=>⟨aK.of (z.1 _ _ hc1),z.2.1,by rw[z.2.2,aF,List.length_map,List.length_take];lia⟩) (dQ (by rw[aF];lia)) ?_ ?_⟩⟩)
  ·rintro i x acc H2 hx ⟨s2,hX2,rfl⟩;obtain⟨c,Wd,rfl⟩:∃ c,g.N.aN[i]?=some c/\x = .int (c:Int):=by
    unfold az at hx;rw[List.getElem?_map]at hx;obtain⟨c,h1,h2⟩:=vn.mp hx;exact⟨c,h1,h2.symm⟩
   have hcn:=(RM.cg.mp (gy Wd)).1;have hcn:c<ts.length:=hcn;refine⟨rfl,aq rfl (bW ⟨⟨by lia,by lia,by decide⟩,hX2,s2.put hX,ae,?_⟩)⟩
   rw[List.take_add_one,Wd];show _=az (List.map _ (List.take i g.N.aN++[c]));rw[List.map_append,List.map_singleton,dX];dsimp only;rw[ji]
  rintro acc H2 ⟨s2,hX2,rfl⟩;rw[aF,List.take_length]at hX2;refine⟨dl rfl,fun F hF=>?_⟩
  have s3:au H2 (upd H2 F (.lst [])):=au.new hF;have A6:=s3 _ _ hX2;have We:upd H2 F (.lst []) F=some (.lst (az [])):=ae;have Zq:H F=none:=(s1.trans s2).free hF;have Zr:X≠F:=fun z=>by rw[<-z,hX2]at hF;cases hF
  have OQ:=(s1.trans s2).trans s3;generalize upd H2 F (.lst [])=H3 at A6 We OQ;have nd:g.N.aN.Nodup:=RM.w6;have hL:=xh g;refine⟨fun n σ H4=>∃ X bs us ws cs v3 v4,σ=[some (.ref wb),some (.ref X),some (.ref F),v3,v4]/\au H H4/\H4 X=some (.lst (az ws))/\H4 F=some (.lst (az bs))/\X≠F/\RM.DP g.N (bj ts) bs us/\RM.Wt g.N bs ws cs/\RM.NR g.N (bj ts) (g.N.aN.map fun c=>2^c) bs ws/\n=ws.length,⟨_,X,[],[],_,_,none,none,rfl,OQ,A6,We,Zr,RM.DP.start,RM.Wt.start nd,.start,rfl⟩,?_⟩
  rintro n σ H4 ⟨X,bs,us,ws,cs,v3,v4,rfl,N9,Q9,Wf,UK,dp,wt,lr,rfl⟩;refine(aq rfl (lS rfl (.inl (aK.of Q9)) (bW (aq rfl (mS (fun hlen=>?_) (fun hlen=>?_))))))
  case refine_2 =>
   have hl : ¬(0:Int)<((az ws).length:Int):=fun z=>hlen (cD z)
   have e:ws=[]:=List.eq_nil_of_length_eq_zero (by rw[aF]at hl;lia)
   subst e;have hb:bs.length=g.N.aN.length:=by
    have:=wt.sum;rw[List.length_nil]at this
    lia
   refine(aq rfl (aq rfl ⟨wb,p,ts,g,F,bs,rfl,hw.same N9,Wf,by lia,fun m hm=>(dp.ring m hm).2,N9 _ _ Ls,fun D ms' H5 hD s5 Jd hp hs=>?_⟩))
   exact q D ms' H5 (N9.free hD) (N9.trans s5) Jd ((dp.least hb).perm hp) hs ⟨bs,lr,hp⟩
  have hlen:(0:Int)<((az ws).length:Int):=iG hlen;rw[aF]at hlen;refine⟨fun σ' H'=>∃ X bs us JN cs v3 v4,σ' = [some (.ref wb),some (.ref X),some (.ref F),v3,v4]/\au H H'/\H' X=some (.lst (az JN))/\H' F=some (.lst (az bs))/\X≠F/\RM.DP g.N (bj ts) bs us/\RM.Wt g.N bs JN cs/\RM.NR g.N (bj ts) (g.N.aN.map fun c=>2^c) bs JN/\JN.length<ws.length,fun σ' H' ⟨X,bs,us,JN,cs,v3,v4,e,a1,a2,a3,a4,a5,a6,a8,a7⟩=>⟨_,a7,X,bs,us,JN,cs,v3,v4,e,a1,a2,a3,a4,a5,a6,a8,rfl⟩,?_⟩
  obtain⟨m,ws,rfl⟩:∃ m JN,ws=m::JN:=by
   cases ws with
   | nil=>simp at hlen
   | cons m JN=>exact⟨m,JN,rfl⟩
  have hml:m<2^ts.length:=wt.lt m List.mem_cons_self;refine(aq rfl (iy (aK.of Q9) (ai (j:=0) rfl) (?_)));refine(aq rfl (aq rfl ⟨wb,p,ts,g,(m:Int),rfl,hw.same N9,N9 _ _ Lr,.inl ⟨m,rfl,hml,fun r H5 hr5 s5 told=>?_⟩⟩))
  obtain⟨r0,g1,g2,g3⟩:=wt.odd;rcases told with⟨n1,_⟩|⟨z,e,b2,W,lo,le,a1,_⟩
  ·obtain⟨x,hx,Sd⟩:=RM.oO hL m g1 g2;rw[g3]at Sd;exact absurd Sd (n1 x _ hx)
  refine(bS (aQ.of a1) (ai (j:=1) rfl) (?_));have Wg:=s5 _ _ Wf;have Zs:=s5 _ _ Q9;have hbl:bs.length<=24:=by have:=wt.sum;lia
  refine(aq rfl ⟨(.inl ⟨rfl,_,aK.of Wg⟩),aq rfl ⟨F,_,_,rfl,rfl,Wg,(by rw[aF];lia),?_⟩⟩)
  have Wh:au H (upd H5 F (.lst (az bs++[.int (e:Int)]))):=(N9.trans s5).put Zq;have Wi:upd H5 F (.lst (az bs++[.int (e:Int)])) F=some (.lst (az (bs++[e]))):=by rw[ae,dX]
  have Wj:upd H5 F (.lst (az bs++[.int (e:Int)])) X=some (.lst (az (m::ws))):=by rw[ao UK];exact Zs
  generalize upd H5 F (.lst (az bs++[.int (e:Int)]))=H6 at Wh Wi Wj;have UL:rT (az (m::ws)) (some (1:Int)) none=az ws:=Hi (m::ws) (i:=1) (by simp)
  have UM:=wt.next le.par;obtain⟨cc,cs',_,UM⟩:=UM;have Zt:=dp.snoc le.ring le.lt le.par (fun r h1 h2 h3=>by
   have:=le.least hL h1 h2 h3;have e1:RM.len g.N (bj ts) e=z:=le.len;rw[e1];exact this) (wt.fQ m List.mem_cons_self)
  have Zu:ws.length<=24:=by have:=wt.sum;rw[List.length_cons]at this;lia
  refine(aq rfl (aq rfl ⟨X,_,rfl,aK.of Wj,fun c hc=>?_⟩))
  rw[UL];have Wm:au H (upd H6 c (.lst (az ws))):=Wh.trans (au.new hc);have UN:=au.new hc (o:=.lst (az ws)) _ _ Wi;have OJ:upd H6 c (.lst (az ws)) c=some (.lst (az ws)):=ae;generalize upd H6 c (.lst (az ws))=H7 at Wm UN OJ;refine⟨c,rfl,⟨_,aK.of OJ⟩,fun X' Ra=>bQ (K:=K) (a:=c) (xs:=az ws) (fun i acc H8=>au H7 H8/\H8 X' = some (.lst acc)/\acc=az ((ws.take i).map fun v=>if g.N.par e v=true then v^^^m else v)) ⟨au.new Ra,ae,rfl⟩ (fun i acc H8 _ z=>⟨aK.of (z.1 _ _ OJ),z.2.1,by rw[z.2.2,aF,List.length_map,List.length_take];lia⟩) (dQ (by rw[aF];lia)) ?_ ?_⟩
  ·rintro i x acc H8 hx ⟨s8,Se,rfl⟩;obtain⟨v,LP,rfl⟩:∃ v,ws[i]?=some v/\x = .int (v:Int):=by
    unfold az at hx;rw[List.getElem?_map]at hx;obtain⟨c,h1,h2⟩:=vn.mp hx;exact⟨c,h1,h2.symm⟩
   have Sf:v<2^ts.length:=wt.lt v (jY _ (gy LP));have Ji:Builtin.Int.intBits ((e&&&v:Nat):Int)<=1000:=Nat.le_trans (bits_le (Nat.and_lt_two_pow _ Sf)) (by lia)
   have snoc:∀ y,(if g.N.par e v=true then v^^^m else v)=y->az ((ws.take i).map fun v=>if g.N.par e v=true then v^^^m else v)++[.int (y:Int)]=az ((ws.take (i+1)).map fun v=>if g.N.par e v=true then v^^^m else v):=fun y hy=>by
    rw[List.take_add_one,LP];show _=az (List.map _ (List.take i ws++[v]));rw[List.map_append,List.map_singleton,dX,hy]
   refine⟨rfl,aq rfl (aq rfl ⟨_,_,e,v,rfl,rfl,rfl,Ji,fun H9 s9=>(aq rfl (?_))⟩)⟩
   rw[Dt (g:=g) Sf];have Wn:=s8.trans s9;have Wo:=s9 _ _ Se;cases hb:g.N.par e v with
   | true =>
     refine gC (aq rfl (aq rfl (bW ⟨Wo,Wn.put Ra,ae,?_⟩)));dsimp only;rw[xor_int];exact snoc _ (if_pos hb)
   | false=>exact e8 (aq rfl ⟨Wo,Wn.put Ra,ae,snoc _ (if_neg (by rw[hb];decide))⟩)
  ·rintro acc H8 ⟨s8,Se,rfl⟩;rw[aF,List.take_length]at Se;refine⟨X',bs++[e],us++[m],_,cs',_,_,rfl,Wm.trans s8,Se,s8 _ _ UN,?_,Zt,UM,lr.step lo,by rw[List.length_map];simp⟩
   intro z;rw[z,UN]at Ra;cases Ra
def CJ(t1 t2:Addr)(UI UJ:Pos):Sp:=fun vs H Q _=>∃ w p ts,∃ g:aA p ts,vs=[.ref w]/\bq H w p ts/\H t1=some (.jJ (fc (r6 "least_ways") UI))/\H t2=some (.jJ (fc (r6 "by_length") UJ))/\
 ∀ D rs H',H D=none->au H H'->H' D=some (.lst ((rs.map (lenOf ts)).map V.int))->RM.LB g.N (bj ts) rs->rs.Pairwise (ng ts)->(∃ bs,RM.NR g.N (bj ts) (g.N.aN.map fun c=>2^c) bs []/\rs.Perm bs)->Q (.ref D) H'
theorem mR:Ok T T.mQ 11 (CJ a.dc a.ic cU gm):=by
 have jI:=jI T;have fP:=fP T;refine T.mQ.ok Cb fun _ A _ s H vs Q E hr h=>?_
 ·obtain⟨wb,p,ts,g,rfl,hw,Lr,Ls,q⟩:=h;refine⟨_,(av (aH (bM (own:=["ring"]) (fq:=["web"]) (js:=[0]) (aD (ak mP) ["web"]) rfl (pL K (aI jI hr T.jF.c aO (aa (pv 0) af))) (fun _ _ _ _=>(bu 0 (k7 ["ring","web"]))) (fun _ _ _ _=>bT) (fun _ _ _ _=>(aI fP hr T.jv.c zg (aa (pv 1) (aa (pv 0) af))))))),?_⟩
  have wl:=g.len;have W:=g.G0;refine(aq rfl ⟨wb,p,ts,g,rfl,hw,Lr,Ls,fun D rs H1 hD s1 mX lb pw lr=>?_⟩)
  have rsl:rs.length<=24:=by
   have h1:g.N.aN.length<=(List.range g.N.n).length:=List.length_filter_le ..;rw[List.length_range,<-lb.1.len]at h1;exact Nat.le_trans h1 wl
  refine⟨D,rfl,⟨_,aK.of mX⟩,fun X hX=>bQ (K:=K) (a:=D) (xs:=az rs) (fun i acc H2=>au H1 H2/\H2 X=some (.lst acc)/\acc=((rs.take i).map (lenOf ts)).map V.int) ⟨au.new hX,ae,rfl⟩ (fun i acc H2 _ z=>⟨aK.of (z.1 _ _ mX),z.2.1,by rw[z.2.2,List.length_map,List.length_map,List.length_take];lia⟩) (dQ (by rw[aF];lia)) ?_ ?_⟩
  ·rintro i x acc H2 hx ⟨s2,hX2,rfl⟩;obtain⟨r,J8,rfl⟩:∃ r,rs[i]?=some r/\x = .int (r:Int):=by
    unfold az at hx;rw[List.getElem?_map]at hx;obtain⟨c,h1,h2⟩:=vn.mp hx;exact⟨c,h1,h2.symm⟩
   have Q8:=(lb.1.ring r (gy J8)).2;refine⟨rfl,aq rfl (aq rfl ⟨wb,p,ts,_,rfl,hw.same (s1.trans s2),W,.inl ⟨r,rfl,Q8,fun H3 s3=>⟨s3 _ _ hX2,(s2.trans s3).put hX,ae,?_⟩⟩⟩)⟩
   rw[List.take_add_one,J8];show _=List.map V.int (List.map (lenOf ts) (List.take i rs++[r]));rw[List.map_append,List.map_append];rfl
  ·rintro acc H2 ⟨s2,hX2,rfl⟩;rw[aF,List.take_length]at hX2;exact q X rs H2 (s1.free hX) (s1.trans s2) hX2 lb pw lr
def Ly(K:bX):Sp:=fun vs H Q _=>∃(a:Addr) (ns:List Int) (k:Int),vs=[.ref a,.int k]/\0<=k/\aK K H a (ns.map V.int)/\∀ z,Q (.int z) H
def Jp:Sp:=fun vs H Q _=>∃(c k:Int),vs=[.int c,.int k]/\0<=k/\k<=1000/\∀ z,0<=z->z<1000000007->Q (.int z) H
def Lz:Sp:=fun vs H Q _=>∃(c:Int) (k:Nat),vs=[.int c,.int (k:Int)]/\∀ z,1<=z->z<=1000000000000000000000000000000->Q (.int z) H
def Oa:Sp:=fun vs H Q _=>∃(c:Int) (p m:Nat),vs=[.int c,.int (p:Int),.int (m:Int)]/\2<=p/\p<=10/\∀ t b H',au H H'->mh (p:Int) t->H' b=some (.tup (Eg t))->Q (.ref b) H'
def Ob(K:bX):Sp:=fun vs H Q _=>∃(a:Addr) (ns:List Int) (mt rk:Nat),vs=[.ref a,.int (mt:Int),.int (rk:Int)]/\aK K H a (ns.map V.int)/\ns.length<=63/\mt<=24/\
 ∀ w p ts H',au H H'->aA p ts->2<=p->p<=6->ts.length<=mt->bq H' w p ts->Q (.ref w) H'
def Rb(H:Hp)(D:Addr)(n p:Nat):Prop:=∃ ks:List Nat,H D=some (.lst (az ks))/\ks.length=n/\∀ k∈ks,k<p
theorem dJ:Ok T T.h8 1 (Ly K):=by
 refine T.h8.ok uX fun _ A _ s H vs Q E hr h=>?_
 ·obtain⟨b,ns,k,rfl,hk0,hS,q⟩:=h;refine⟨_,(aj (cG (aL y9 (pv 1) (bL K T.cz (aa (pv 0) af)) (aM _)) (av (aH (aB (iI K) (pv 0) (pv 1)))) bh)
   (av (aH ah))),?_⟩
  refine g9 ?_;intro cQ c7;refine(aq rfl (aq rfl ⟨b,_,rfl,.inl hS,_,_,rfl,rfl,aq rfl (mS (fun hlt=>?_) (fun _=>q 0))⟩))
  have hlt:=iG hlt;rw[List.length_map]at hlt;obtain⟨k,rfl⟩:=Int.eq_ofNat_of_zero_le hk0;exact(aq rfl (aq rfl ⟨b,_,_,_,rfl,rfl,hS,ai (j:=k) (Kx (by lia)),q _⟩))
theorem bK:Ok T T.eF 1 Jp:=by
 refine T.eF.ok kC fun _ A _ s H vs Q E hr h=>?_
 ·obtain⟨c,k,rfl,hk,hk2,q⟩:=h;refine⟨_,(aj (aC (i:=2) kC.nd rfl (Or.inl rfl) (aG cS (aG cT (pv 0) ah) (aG Bc ah (pv 1))))
   (aj (aC (i:=3) kC.nd rfl (Or.inl rfl) (aG cT (aG Bc (aG cS (pv 2) ah) (aG cS (pv 2) ah)) ah))
   (av (aH (aG jf (aG cT (aG Bc (pv 3) (pv 3)) ah) ah))))),?_⟩
  refine jr ?_;intro cQ c7;have h1:=kY c 1000000007 (by decide)
  refine(aq rfl (bW ⟨(mT rfl),aq rfl (bW ⟨.inl ⟨by decide,by decide⟩,bW (?_)⟩)⟩))
  refine(aq rfl (bW (aq rfl (bW (bW ⟨.inl ⟨by lia,by lia⟩,bW ⟨(mT rfl),?_⟩⟩)))))
  have h2:=kY ((c%1000000007+7919*k+11)*(c%1000000007+7919*k+48271)) 998244353 (by decide)
  dsimp only;generalize (c%1000000007+7919*k+11)*(c%1000000007+7919*k+48271)%998244353=st at h2;refine(aq rfl (aq rfl (bW ⟨.inl ⟨by lia,by lia⟩,bW ⟨(mT rfl),bW ⟨⟨by decide,by decide⟩,?_⟩⟩⟩)))
  have h3:=kY (st*st) 1000000007 (by decide)
  dsimp only;generalize st*st%1000000007=y at h3;exact q _ (by lia) (by lia)
theorem kR:Ok T T.kL 1 Lz:=by
 refine T.kL.ok vG fun _ A _ s H vs Q E hr h=>?_
 ·obtain⟨c,k,rfl,q⟩:=h;refine⟨_,(aj (cG (aL dW (pv 1) ah (aM _)) (av (aH (aG cS ah (aG cT (pv 0) ah)))) bh)
   (aj (cG (aL dW (pv 1) ah (aM _)) (av (aH (aG cS ah (aG cT (pv 0) ah)))) bh)
   (av (aH (aG cS ah (aG cT (pv 0) (aG MI ah ah))))))),?_⟩
  refine vH ?_;intro cQ c7 ez gz;have h9:=kY c 9 (by decide)
  have h3:=kY c 3 (by decide)
  have h30:=kY c (10^(30:Int).toNat) (by decide)
  have e:(10:Int)^(30:Int).toNat=1000000000000000000000000000000:=by decide
  refine(aq rfl ⟨rfl,aq rfl (mS (fun _=>(aq rfl (bW ⟨(mT rfl),bW (q _ (by lia) (by lia))⟩))) (fun _=>(aq rfl ⟨rfl,aq rfl (mS (fun _=>(aq rfl (bW ⟨(mT rfl),bW (q _ (by lia) (by lia))⟩))) (fun _=>(aq rfl (bW ⟨⟨by decide,by decide,by decide⟩,bW ⟨(mT (by decide)),bW (q _ (by lia) (by lia))⟩⟩))))⟩)))⟩)
theorem rB:Ok T T.qX 2 Oa:=by
 have kR:=kR T;refine T.qX.ok kE fun _ A _ s H vs Q E hr h=>?_
 ·obtain⟨c,p,m,rfl,hp,Ou,q⟩:=h;refine⟨_,(aj (aC (i:=3) kE.nd rfl (Or.inl rfl) (aG cT (pv 0) (pv 1)))
   (aj (aC (i:=0) kE.nd rfl (Or.inl rfl) (aG jf (pv 0) (pv 1)))
   (aj (aC (i:=4) kE.nd rfl (Or.inl rfl) (aG cT (aG cS (aG cS (pv 3) ah) (aG cT (pv 0) (aG nq (pv 1) ah))) (pv 1)))
   (av (aH (cH (aa (pv 3) (aa (pv 4) (aa (aI kR hr T.kL.c aO (aa (aG jf (pv 0) (aG nq (pv 1) ah)) (aa (pv 2) af))) af))))))))),?_⟩
  refine Cc ?_;intro cQ c7 ez;obtain⟨h1,h2⟩:=kY c (p:Int) (by lia)
  obtain⟨h3,h4⟩:=kY (c/(p:Int)) ((p:Int)-1) (by lia)
  obtain⟨g1,g2,g3⟩:=G3 h1 h2 h3 h4;refine(aq rfl (aq rfl (bW ⟨(by lia),?_⟩)))
  refine(aq rfl (aq rfl (bW ⟨⟨by lia,by lia⟩,?_⟩)))
  refine(aq rfl (bW (aq rfl (aq rfl (bW (bW ⟨(by lia),bW (aq rfl (bW ⟨(by lia),?_⟩))⟩))))))
  refine(aq rfl (aq rfl (aq rfl (aq rfl (bW (bW ⟨⟨by lia,by lia⟩,aq rfl ⟨_,m,rfl,fun z hz hz2=>⟨dl rfl,fun b hb=>?_⟩⟩⟩))))))
  exact q (_,_,z) b _ (au.new hb) ⟨h1,h2,g1,g2,g3,hz,hz2⟩ ae
theorem rC:Ok T T.qY 3 (Ob K):=by
 have dJ:=dJ T;have bK:=bK T;have rB:=rB T;refine T.qY.ok bH fun _ A _ s H vs Q E hr h=>?_
 ·obtain⟨b,ns,mt,rk,rfl,hS,hn,hmt,q⟩:=h;refine⟨_,(aj (aC (i:=3) bH.nd rfl (Or.inr rfl) (aI dJ hr T.h8.c aO (aa (pv 0) (aa ah af))))
   (aj (aC (i:=4) bH.nd rfl (Or.inl rfl) (aG cS ah (aG cT (pv 3) ah)))
   (aj (aC (i:=5) bH.nd rfl (Or.inl rfl) (aG cT (aG jf (pv 3) ah) ah))
   (aj (aC (i:=6) bH.nd rfl (Or.inl rfl) (n5 (Td K) (pv 0) (sH ah) sG))
   (aj (cG (aL dW (aG cT (aG jf (pv 3) ah) ah) ah (aM _)) (aj (g7 (i:=6) bH.nd rfl rfl (own:=["k","cell"]) (fq:=[]) (js:=[]) (aD (ak gM) ["script","most","ranked","head","points","way","cells","ties","marks","free","cell","tie","joined","old"]) rfl (De K (by rfl) T.jx (aa (n5 (Td K) (pv 0) (sH ah) sG) af)) (fun _ _ _ _=>(JB K (n:=2) rfl (aV (bu 0 (k7 ["k","cell"])) (aV (bu 1 (k7 ["k","cell"])) fU)))) (fun _ _ _ _=>bT) (fun _ _ _ _=>(aI bK hr T.eF.c aO (aa (pv 1) (aa (pv 0) af)))))
   (av (c8 (F8 K (kX PySem.F.plainAttrs_list PySem.F.slot_list_extend PySem.F.type_list_extend Ea (pv 6) (aa (bM (own:=["k"]) (fq:=["head"]) (js:=[3]) (aD (ak gM) ["script","most","ranked","head","points","way","cells","ties","marks","free","cell","tie","joined","old"]) rfl (aX (by rfl) T.bO (aa ah af)) (fun _ _ _ _=>(bu 0 (k7 ["k","head"]))) (fun _ _ _ _=>bT) (fun _ _ _ _=>(aI bK hr T.eF.c aO (aa (pv 1) (aa (aG cS ah (pv 0)) af))))) af)))))) bh)
   (aj (aC (i:=7) bH.nd rfl (Or.inl rfl) (cW af))
   (aj (aC (i:=8) bH.nd rfl (Or.inr rfl) (bM (own:=["point"]) (fq:=[]) (js:=[]) (aD (ak gM) ["script","most","ranked","head","points","way","cells","ties","marks","free","cell","tie","joined","old"]) rfl (aX (by rfl) T.bO (aa (pv 4) af)) (fun _ _ _ _=>(bu 0 (k7 ["point"]))) (fun _ _ _ _=>bT) (fun _ _ _ _=>(pv 0))))
   (aj (aC (i:=9) bH.nd rfl (Or.inl rfl) ah)
   (aj (dN PassesOwn.never rfl (pL K (pv 6)) (bu 10 bH.nd)
   (aj (aC (i:=11) bH.nd rfl (Or.inr rfl) (aI rB hr T.qX.c aO (aa (pv 10) (aa (pv 4) (aa (pv 5) af)))))
   (aj (aC (i:=12) bH.nd rfl (Or.inl rfl) (cV wc (aB (iI K) (pv 8) (aB (bR K) (pv 11) ah)) (aB (iI K) (pv 8) (aB (bR K) (pv 11) ah)) (aM _)))
   (av (cG (PW.pt (xJ (aL y9 (bL K T.cz (aa (pv 7) af)) (pv 1) (aM _)) (sF (PW.pt (vY (fT (pv 12)) (pO (aL y9 (pv 9) (pv 2) (aM _)))))))) (aj (c8 (F8 K (kX PySem.F.plainAttrs_list PySem.F.slot_list_append PySem.F.type_list_append cX (pv 7) (aa (pv 11) af))))
   (aj (aC (i:=9) bH.nd rfl (Or.inl rfl) (aG cS (pv 9) (cA pU (by rfl) T.IZ PyProof.Rows.boot_int (aa (MC (pv 12)) af))))
   (aj (aC (i:=13) bH.nd rfl (Or.inr rfl) (aB (iI K) (pv 8) (aB (bR K) (pv 11) ah)))
   (av (aC (i:=8) bH.nd rfl (Or.inr rfl) (bM (own:=["mark"]) (fq:=["marks","tie","old"]) (js:=[8,11,13]) (aD (ak gM) ["script","most","ranked","head","points","way","cells","ties","marks","free","cell","tie","joined","old"]) rfl (pL K (pv 8)) (fun _ _ _ _=>(bu 0 (k7 ["mark","marks","tie","old"]))) (fun _ _ _ _=>bT) (fun _ _ _ _=>(aB (iI K) (cW (aa (pv 0) (aa (aB (iI K) (pv 1) (aB (bR K) (pv 2) ah)) af))) (cA pU (by rfl) T.IZ PyProof.Rows.boot_int (aa (cV dW (pv 0) (pv 3) (aM _)) af)))))))))) bh)))))
   (av (aH (cH (aa (pv 4) (aa (cA (C9 K) (by rfl) T.sV PyProof.Rows.boot_tuple (aa (pv 7) af)) af)))))))))))))),?_⟩
  refine Cd ?_;intro cQ c7 ez gz iz oZ uO DM DN DO uU r9 QG QH QI QJ QK QL;refine(aq rfl ⟨b,ns,0,rfl,(by decide),hS,fun z=>?_⟩)
  refine(aq rfl (bW ⟨(mT rfl),bW (?_)⟩));obtain⟨p,hp,p1,p2⟩:∃ p:Nat,2+z%5=(p:Int)/\2<=p/\p<=6:=by
   obtain⟨h1,h2⟩:=kY z 5 (by decide)
   exact⟨(2+z%5).toNat,by lia,by lia,by lia⟩
  dsimp only;rw[hp];refine(aq rfl (bW ⟨⟨by decide,by decide⟩,bW ⟨(mT rfl),?_⟩⟩))
  obtain⟨wy,Sd⟩:∃ y:Nat,z/5%3=(y:Int):=by
   obtain⟨h1,h2⟩:=kY (z/5) 3 (by decide)
   exact⟨(z/5%3).toNat,by lia⟩
  dsimp only;rw[Sd];refine(aq rfl (aq rfl ⟨b,_,rfl,hS,fun c hc=>?_⟩))
  have Oc:=GI ns (some 1) none;have hml:((ns.drop (HT.fF ns.length 0 (some 1))).take (HT.fF ns.length ns.length none-HT.fF ns.length 0 (some 1))).length<=63:=by
   rw[List.length_take,List.length_drop]
   lia
  generalize (ns.drop (HT.fF ns.length 0 (some 1))).take (HT.fF ns.length ns.length none-HT.fF ns.length 0 (some 1))=ms at Oc hml;rw[Oc];have cont:∀(c1:Addr) (ms1:List Int) (H1:Hp),au H H1->H1 c1=some (.lst (ms1.map V.int))->r9 { nx:=fun _ H'=>Q V.dU H',rt:=Q} [some (.ref b),some (.int (mt:Int)),some (.int (rk:Int)),some (.int z),some (.int (p:Int)),some (.int (wy:Int)),some (.ref c1),none,none,none,none,none,none,none] H1:=by
   intro c1 ms1 H1 s1 hc1;refine⟨dl rfl,fun L hL=>?_⟩
   have t2:rX (p:Int) H1 L 0 (upd H1 L (.lst [])):=.start hL;generalize upd H1 L (.lst [])=H2 at t2;refine(aq rfl (aq rfl ⟨(by lia),(by lia),fun M hM=>bN (lo:=0) (m:=(p:Int).toNat) (mU (fun _=>true) H2 M) (.start hM) (fun i acc H3 _ pk=>pk.len) (dQ (by lia)) ?_ ?_⟩))
   ·intro i acc H3 hi pk;rw[Int.zero_add];exact⟨rfl,aq rfl (pk.yes hM (au.refl _) rfl)⟩
   intro acc H3 pk;have b3:Rb H3 M p p:=by
    refine⟨(List.range p).filter (fun _=>true),by rw[pk.2.1,pk.2.2,Int.toNat_natCast],?_,fun k hk=>List.mem_range.mp (List.mem_filter.mp hk).1⟩
    rw[List.filter_eq_self.mpr (fun _ _=>rfl),List.length_range]
   have t3:rX (p:Int) H1 L 0 H3:=by
    obtain⟨a1,acc,ts,a2,a3,a4⟩:=t2;exact⟨a1.trans pk.1,acc,ts,pk.1 _ _ a2,Paired.imp' (fun _ _ z=>z.tups pk.1.tups) a3,a4⟩
   clear pk;have fr:H1 M=none:=t2.1.free hM;refine(aq rfl ⟨c1,rfl,⟨_,aK.of (t3.1 _ _ hc1)⟩,dH (K:=K) (a:=c1) (xs:=ms1.map V.int) (fun i σ H4=>∃(M:Addr) (n:Nat) (f:Int) (v10 v11 Ga Rc:Option V),σ=[some (.ref b),some (.int (mt:Int)),some (.int (rk:Int)),some (.int z),some (.int (p:Int)),some (.int (wy:Int)),some (.ref c1),some (.ref L),some (.ref M),some (.int f),v10,v11,Ga,Rc]/\rX (p:Int) H1 L n H4/\n<=mt/\Rb H4 M p p/\H1 M=none/\M≠L) ⟨M,0,0,none,none,none,none,rfl,t3,Nat.zero_le _,b3,fr,fun e=>?_⟩ (fun i σ H4 _ ⟨_,_,_,_,_,_,_,_,t,_⟩=>aK.of (t.1 _ _ hc1)) ?_ ?_⟩)
   ·obtain⟨_,acc,_,a2,_⟩:=t2;rw[e,a2]at hM;cases hM
   ·rintro i y D' σ H4 hi ⟨M,n,f,v10,v11,Ga,Rc,rfl,t4,hnm,b4,Wq,UO⟩;rw[List.getElem?_map]at hi;obtain⟨ce,hce,rfl⟩:=vn.mp hi;refine(aq rfl (aq rfl (aq rfl ⟨ce,p,wy,rfl,p1,by lia,fun t bt H5 s5 gt Sg=>?_⟩)))
    obtain⟨ks,Zv,kl,kb⟩:=b4;have Sh:=s5 _ _ Zv;have t5:rX (p:Int) H1 L n H5:=by
     obtain⟨a1,acc,ts,a2,a3,a4⟩:=t4;exact⟨a1.trans s5,acc,ts,s5 _ _ a2,Paired.imp' (fun _ _ z=>z.tups s5.tups) a3,a4⟩
    obtain⟨u,hu⟩:=Int.eq_ofNat_of_zero_le gt.a0;obtain⟨v,hv⟩:=Int.eq_ofNat_of_zero_le gt.b0;have Wr:u<ks.length:=by have:=gt.a1;lia
    have Sf:v<ks.length:=by have:=gt.b1;lia
    have Zw:(az ks)[u]?=some (.int (ks[u]:Int)):=jl (List.getElem?_eq_getElem Wr);have hkv:(az ks)[v]?=some (.int (ks[v]:Int)):=jl (List.getElem?_eq_getElem Sf);have iu:D8 (az ks) t.1=some (.int (ks[u]:Int)):=by rw[hu];exact ai Zw
    have iv:D8 (az ks) t.2.1=some (.int (ks[v]:Int)):=by rw[hv];exact ai hkv
    have Zx:=kb _ (List.getElem_mem Wr);refine(aq rfl (aq rfl (bS (aQ.of Sg) (ai (j:=0) rfl) (iy (aK.of Sh) (iu) (aq rfl (aq rfl (bS (aQ.of Sg) (ai (j:=1) rfl) (iy (aK.of Sh) (iv) ⟨rfl,?_⟩))))))));obtain⟨Mr,CK,tsL,JO,prL,alL,gdL⟩:=id t5;have skip:D'.nx [some (.ref b),some (.int (mt:Int)),some (.int (rk:Int)),some (.int z),some (.int (p:Int)),some (.int (wy:Int)),some (.ref c1),some (.ref L),some (.ref M),some (.int f),some (.int ce),some (.ref bt),some (.bl (!decide (V.int (ks[u]:Int)=V.int (ks[v]:Int)))),Rc] H5:=⟨M,n,f,_,_,_,_,rfl,t5,hnm,⟨ks,Sh,kl,kb⟩,Wq,UO⟩;generalize (!decide (V.int (ks[u]:Int)=V.int (ks[v]:Int)))=jb at skip;have put:CK.length<mt->iz D' [some (.ref b),some (.int (mt:Int)),some (.int (rk:Int)),some (.int z),some (.int (p:Int)),some (.int (wy:Int)),some (.ref c1),some (.ref L),some (.ref M),some (.int f),some (.int ce),some (.ref bt),some (.bl jb),Rc] H5:=fun hlt=>by
     obtain⟨Zy,e6,t6⟩:∃ acc,H5 L=some (.lst acc)/\rX (p:Int) H1 L (n+1) (upd H5 L (.lst (acc++[.ref bt]))):=by
      have:=t5.push hL (au.refl _) gt Sg;obtain⟨acc,e1,_,e2⟩:=this;exact⟨acc,e1,e2⟩
     rw[JO]at e6;cases e6;refine(aq rfl ⟨.inl ⟨rfl,_,aK.of JO⟩,aq rfl ⟨L,_,_,rfl,rfl,JO,dY (by lia),?_⟩⟩)
     have Rf:upd H5 L (.lst (CK++[.ref bt])) M=some (.lst (az ks)):=by rw[ao UO];exact Sh
     have Od:upd H5 L (.lst (CK++[.ref bt])) bt=some (.tup (Eg t)):=dz.put JO _ _ Sg;have OR:upd H5 L (.lst (CK++[.ref bt])) L=some (.lst (CK++[.ref bt])):=ae;generalize upd H5 L (.lst (CK++[.ref bt]))=H6 at t6 Rf Od OR;refine(aq rfl (aq rfl (aq rfl (.inr (aq rfl (bW (?_)))))));refine(aq rfl (aq rfl (bS (aQ.of Od) (ai (j:=1) rfl) (iy (aK.of Rf) (iv) (?_)))));refine(aq rfl ⟨M,rfl,⟨_,aK.of Rf⟩,fun M2 LA=>bQ (xs:=az ks) (fun i acc H7=>au H6 H7/\H7 M2=some (.lst acc)/\∃ DS:List Nat,acc=az DS/\DS.length=i/\∀ k∈DS,k<p) ⟨au.new LA,ae,[],rfl,rfl,(fun k hk=>nomatch hk)⟩ (fun i acc H7 _ z=>⟨aK.of (z.1 _ _ Rf),z.2.1,by obtain⟨DS,e,e2,_⟩:=z.2.2;rw[e,aF,e2];exact Nat.le_refl _⟩) (dQ (by rw[aF];lia)) ?_ ?_⟩)
     ·rintro i x acc H7 hx ⟨s7,UP,DS,rfl,Si,kb2⟩;obtain⟨k,hk,rfl⟩:=fK hx;have hkp:=kb k (gy hk);refine⟨rfl,aq rfl (aq rfl (aq rfl (bS (aQ.of (s7 _ _ Od)) (ai (j:=0) rfl) (iy (aK.of (s7 _ _ Rf)) (iu) ⟨dl rfl,fun l hl=>?_⟩))))⟩
      have s8:au H7 (upd H7 l (.lst [.int (k:Int),.int (ks[u]:Int)])):=au.new hl;have UQ:upd H7 l (.lst [.int (k:Int),.int (ks[u]:Int)]) l=some (.lst [.int (k:Int),.int (ks[u]:Int)]):=ae;generalize upd H7 l (.lst [.int (k:Int),.int (ks[u]:Int)])=H8 at s8 UQ;refine(aq rfl (aq rfl ⟨rfl,.inr (aq rfl (?_))⟩));have Ws:∀ k' : Nat,k'<p->H8 M2=some (.lst (az DS))/\au H6 (upd H8 M2 (.lst (az DS++[.int (k' : Int)])))/\upd H8 M2 (.lst (az DS++[.int (k' : Int)])) M2=some (.lst (az DS++[.int (k' : Int)]))/\∃ ks3:List Nat,az DS++[.int (k' : Int)]=az ks3/\ks3.length=i+1/\∀ k∈ks3,k<p:=fun k' hk'=>by
       refine⟨s8 _ _ UP,(s7.trans s8).put LA,ae,DS++[k'],(dX DS k').symm,by rw[List.length_append,Si];rfl,fun x hx=>?_⟩
       rcases List.mem_append.mp hx with hx|hx
       ·exact kb2 x hx
       ·have e:x=k':=by simpa using hx
        lia
      cases hd:decide (V.int (k:Int)=V.int (ks[v]:Int)) with
      | true=>exact(iy (aK.of UQ) (ai (j:=1) rfl) (Ws _ Zx))
      | false=>exact(iy (aK.of UQ) (ai (j:=0) rfl) (Ws _ hkp))
     ·rintro acc H7 ⟨s7,UP,DS,rfl,Si,kb2⟩;rw[aF,kl]at Si;refine⟨M2,n+1,_,_,_,_,_,rfl,?_,by lia,⟨DS,UP,Si,kb2⟩,t6.1.free LA,fun e=>?_⟩
      ·obtain⟨a1,acc,ts,a2,a3,a4⟩:=t6;exact⟨a1.trans s7,acc,ts,s7 _ _ a2,Paired.imp' (fun _ _ z=>z.tups s7.tups) a3,a4⟩
      ·rw[e,OR]at LA;cases LA
    refine(aq rfl (lS rfl (.inl (aK.of JO)) (aq rfl (bW (aq rfl (mS (fun h1=>?_) (fun _=>skip)))))))
    have h1:(CK.length:Int)<(mt:Int):=iG h1;refine(aq rfl (aq rfl (?_)));cases jb with
    | true=>exact gC (put (by lia))
    | false=>exact e8 (aq rfl (aq rfl (bW (aq rfl (mS (fun _=>put (by lia)) (fun _=>skip))))))
   ·rintro σ H4 ⟨M,n,f,v10,v11,Ga,Rc,rfl,t4,hnm,b4,Wq,UO⟩;obtain⟨acc,ts,OS,V6,gd,mk⟩:=t4.fin;refine(aq rfl (aq rfl ⟨L,_,rfl,.inl ⟨aK.of OS,fun l hl=>⟨dl rfl,fun w hw=>?_⟩⟩⟩))
    obtain⟨sm,Zz⟩:=mk l hl w hw;exact q w p ts _ (s1.trans sm) ⟨by lia,by lia,by lia,gd⟩ p1 p2 (by lia) Zz
  refine(aq rfl (bW ⟨⟨by decide,by decide⟩,bW ⟨(mT rfl),rfl,aq rfl (mS (fun _=>?_) (fun _=>cont c ms _ (au.new hc) ae))⟩⟩))
  have s1:au H (upd H c (.lst (ms.map V.int))):=au.new hc;generalize upd H c (.lst (ms.map V.int))=H1 at s1;refine(aq rfl (aq rfl ⟨b,_,rfl,s1.seq hS,fun c3 hc3=>?_⟩))
  rw[Oc];have s2:au H1 (upd H1 c3 (.lst (ms.map V.int))):=au.new hc3;have hc2:upd H1 c3 (.lst (ms.map V.int)) c3=some (.lst (ms.map V.int)):=ae;generalize upd H1 c3 (.lst (ms.map V.int))=H2 at s2 hc2;refine⟨c3,rfl,⟨_,aK.of hc2⟩,fun D hD=>BP (xs:=ms.map V.int) (fun i acc H3=>au H2 H3/\H3 D=some (.lst acc)/\∃ ms2:List Int,acc=ms2.map V.int/\ms2.length=i) ⟨au.new hD,ae,[],rfl,rfl⟩ (fun i acc H3 _ z=>⟨aK.of (z.1 _ _ hc2),z.2.1,by obtain⟨ms2,e,e2⟩:=z.2.2;rw[e,List.length_map,e2];exact Nat.le_refl _⟩) (Nat.le_of_lt (dY (by rw[List.length_map];lia))) ?_ ?_⟩
  ·rintro i x T0 acc H3 hx ⟨s3,pJ,ms2,rfl,UR⟩ hT;rw[List.getElem?_map]at hx;obtain⟨ce,hce,rfl⟩:=vn.mp hx;have zL:=(iH.mp hce).1;refine⟨T0,_,rfl,aQ.of ae,rfl,_,_,rfl,_,_,rfl,rfl,rfl,aq rfl (aq rfl ⟨ce,(i:Int),rfl,by lia,by lia,fun y _ _=>?_⟩)⟩
   have s4:au H3 (upd H3 T0 (.tup [.int (i:Int),.int ce])):=au.new hT;exact⟨s4 _ _ pJ,(s3.trans s4).put hD,ae,ms2++[y],by rw[List.map_append];rfl,by rw[List.length_append,UR];rfl⟩
  ·rintro acc H3 ⟨s3,pJ,ms2,rfl,UR⟩;rw[List.length_map]at UR;refine(aq rfl ⟨.inl ⟨rfl,_,aK.of pJ⟩,aq rfl ⟨(by decide),(by decide),fun D2 gx=>bN (lo:=0) (m:=5) (fun i acc H4=>au H3 H4/\H4 D2=some (.lst acc)/\∃ OT:List Int,acc=OT.map V.int/\OT.length=i) ⟨au.new gx,ae,[],rfl,rfl⟩ (fun i acc H4 _ z=>⟨z.2.1,by obtain⟨ms2,e,e2⟩:=z.2.2;rw[e,List.length_map,e2];exact Nat.le_refl _⟩) (dQ (by decide)) ?_ ?_⟩⟩)
   ·rintro i acc H4 hi ⟨s4,Jf,OT,rfl,Wu⟩;rw[Int.zero_add];exact⟨rfl,aq rfl (aq rfl (bW ⟨z,_,rfl,by lia,by lia,fun y _ _=>⟨Jf,s4.put gx,ae,OT++[y],by rw[List.map_append];rfl,by rw[List.length_append,Wu];rfl⟩⟩))⟩
   ·rintro acc H4 ⟨s4,Jf,OT,rfl,Wu⟩;have US:=s4 _ _ pJ;refine⟨D,D2,_,_,rfl,rfl,US,Jf,dl (Nat.ble_eq.mpr (by rw[List.length_map,List.length_map];lia)),?_⟩
    refine cont D (ms2++OT) _ ?_ ?_
    ·exact(((s1.trans s2).trans (s3.trans s4))).put ((s1.trans s2).free hD)
    ·rw[ae,List.map_append]
def FZ:Sp:=fun vs H Q _=>∃ w p ts,∃ g:aA p ts,∃(S:Int) (m:Nat),vs=[.ref w,.int S]/\S=(m:Int)/\bq H w p ts/\m<2^ts.length/\∀ D H',au H H'->H' D=some (.lst (cu (fun x=>g.N.dg m x) p))->Q (.ref D) H'
def CL:Sp:=fun vs H Q _=>∃ w p ts,∃ g:aA p ts,∃(S:Int) (m:Nat),vs=[.ref w,.int S]/\S=(m:Int)/\bq H w p ts/\m<2^ts.length/\∀ H',au H H'->Q (.int ((RM.cnt (g.N.root (fun k=>m.testBit k) ts.length) p:Nat):Int)) H'
def Jq:Sp:=fun vs H Q _=>∃ w p ts,∃ g:aA p ts,∃(S:Int) (m:Nat),vs=[.ref w,.int S]/\S=(m:Int)/\bq H w p ts/\m<2^ts.length/\∀ H' (d:Bool),au H H'->(d=true↔g.N.Ring m)->Q (.bl d) H'
theorem Jr{N:RM.Net}{m x:Nat}(k:Nat):RM.cnt (fun j=>m.testBit j&&N.inc j x) (k+1)=RM.cnt (fun j=>m.testBit j&&N.inc j x) k+if(m.testBit k&&N.inc k x)=true then 1 else 0:=rfl
theorem Js(x u v:Nat):LQ (.int (x:Int)) [.int (u:Int),.int (v:Int)]=decide (u=x\/v=x):=by
 have e:([.int (u:Int),.int (v:Int)]:List V)=az [u,v]:=rfl;rw[e,oG];refine decide_eq_decide.mpr ?_;simp[eq_comm]
theorem AW{f:Nat->Nat}{n u v:Nat}:(cu f n).set u (.int (v:Int))=cu (fun x=>if x=u then v else f x) n:=by
 unfold cu;refine List.ext_getElem? fun i=>?_
 rw[List.getElem?_set,List.getElem?_map]
 by_cases e:u=i
 ·subst e;rw[if_pos rfl,List.length_map,List.length_range]
  by_cases h:u<n
  ·rw[if_pos h,List.getElem?_map,List.getElem?_range h];simp
  ·rw[if_neg h,List.getElem?_map,List.getElem?_eq_none (by rw[List.length_range];lia)]
   rfl
 ·rw[if_neg e,List.getElem?_map]
  by_cases h:i<n
  ·rw[List.getElem?_range h];simp[show ¬ i=u from fun z=>e z.symm]
  ·rw[List.getElem?_eq_none (by rw[List.length_range];lia)]
   rfl
theorem F0{f g:Nat->Int}{n:Nat}(h:∀ i,i<n->f i=g i):PyProof.Rows.firstMet f n=PyProof.Rows.firstMet g n:=by
 unfold PyProof.Rows.firstMet;rw[List.map_congr_left fun i hi=>h i (List.mem_range.mp hi)]
theorem kT:Ok T T.kM 1 FZ:=by
 refine T.kM.ok jD fun _ A _ s H vs Q E hr h=>?_
 ·obtain⟨wb,p,ts,g,S,m,rfl,rfl,hw,hm,q⟩:=h;refine⟨_,(aj (aC (i:=2) jD.nd rfl (Or.inl rfl) (aG Bm (cW (aa ah af)) (aB (bR K) (pv 0) ah)))
   (aj (dN PassesOwn.never rfl (aX (by rfl) T.bO (aa (bL K T.cz (aa (aB (bR K) (pv 0) ah) af)) af)) (bu 3 jD.nd)
   (av (cG (aL dW (aG cT (aG tF (pv 1) (pv 3)) ah) ah (aM _)) (aj (tw (aG cS (aB (iI K) (pv 2) (aB (bR K) (aB (bR K) (aB (bR K) (pv 0) ah) (pv 3)) ah)) ah) (xM (pv 2) (aB (bR K) (aB (bR K) (aB (bR K) (pv 0) ah) (pv 3)) ah) set_list))
   (av (tw (aG cS (aB (iI K) (pv 2) (aB (bR K) (aB (bR K) (aB (bR K) (pv 0) ah) (pv 3)) ah)) ah) (xM (pv 2) (aB (bR K) (aB (bR K) (aB (bR K) (pv 0) ah) (pv 3)) ah) set_list)))) bh)))
   (av (aH (pv 2))))),?_⟩
  refine nc ?_;intro cQ c7 ez gz iz;obtain⟨bt,xs,h1,h2,h3⟩:=id hw.ex;have sD:=h3.length;have wl:=g.len;have wp:=g.p2;refine⟨dl rfl,fun c hc=>?_⟩
  have s1:au H (upd H c (.lst [.int 0])):=au.new hc;have hc1:upd H c (.lst [.int 0]) c=some (.lst [.int 0]):=ae;generalize upd H c (.lst [.int 0])=H1 at s1 hc1;refine(aq rfl (bS (aQ.of (s1 _ _ h1)) (ai (j:=0) rfl) ⟨c,(p:Int),aq rfl ⟨rfl,hc1,by lia,by lia,(by rw[Int.toNat_natCast];show 1*p<=sizeLine;exact dl (Nat.ble_eq.mpr (by lia))),fun e he=>?_⟩⟩))
  have QV:H e=none:=s1.free he;have s2:=s1.trans (au.new (o:=.lst (List.replicate (p:Int).toNat [V.int 0]).flatten) he);have Kq:upd H1 e (.lst (List.replicate (p:Int).toNat [V.int 0]).flatten) e=some (.lst (cu (fun _=>0) p)):=by
   rw[ae,Int.toNat_natCast,zD]
  generalize upd H1 e (.lst (List.replicate (p:Int).toNat [V.int 0]).flatten)=H2 at s2 Kq;refine(aq rfl (bS (aQ.of (s2 _ _ h1)) (ai (j:=1) rfl) (lS rfl (.inr (aQ.of (s2 _ _ h2))) (aq rfl ⟨(by lia),(by lia),?_⟩))))
  refine fJ (lo:=0) (n:=(xs.length:Int).toNat) (fun k σ H3=>∃ v3,σ=[some (.ref wb),some (.int (m:Int)),some (.ref e),v3]/\au H H3/\H3 e=some (.lst (cu (fun x=>RM.cnt (fun j=>m.testBit j&&g.N.inc j x) k) p))) ⟨none,rfl,s2,Kq⟩ ?_ ?_
  ·rintro k D' σ H3 hk ⟨v3,rfl,s3,FI⟩;rw[Int.toNat_natCast]at hk;rw[Int.zero_add];have jK:k<ts.length:=by lia
   obtain⟨ct,ex,hct⟩:=kj (g:=g) h3 jK;have ha:g.N.a k<p:=g.N.al k jK;have hb:g.N.b k<p:=g.N.bl k jK;have ne:g.N.a k≠g.N.b k:=g.N.ne k jK;refine(aq rfl (aq rfl (bW ⟨(by lia),bW ⟨(mT rfl),rfl,aq rfl (?_)⟩⟩)))
   rw[Int.toNat_natCast,xX,fk];cases lF:m.testBit k with
   | false =>
     refine e8 (aq rfl ⟨s3,?_⟩);rw[FI]
     congr 2
     refine tU fun x _=>?_
     rw[Jr,lF];rfl
   | true =>
     generalize hF:(fun x=>RM.cnt (fun j=>m.testBit j&&g.N.inc j x) k)=F at FI
     refine gC (aq rfl (aq rfl (bS (aQ.of (s3 _ _ h1)) (ai (j:=1) rfl) (aq rfl (bS (aQ.of (s3 _ _ h2)) (ai (j:=k) ex) (bS (aQ.of (s3 _ _ hct)) (ai (j:=0) rfl) (iy (aK.of FI) (ai (bI ha)) (bW (?_)))))))));refine(aq rfl (aq rfl (bS (aQ.of (s3 _ _ h1)) (ai (j:=1) rfl) (aq rfl (bS (aQ.of (s3 _ _ h2)) (ai (j:=k) ex) (bS (aQ.of (s3 _ _ hct)) (ai (j:=0) rfl) ⟨e,_,_,g.N.a k,rfl,rfl,FI,l9 (by rw[b8];exact ha),?_⟩))))))
     have e4:(cu F p).set (g.N.a k) (.int ((F (g.N.a k):Nat)+1:Int))=cu (fun x=>if x=g.N.a k then F (g.N.a k)+1 else F x) p:=by
      rw[<-AW];rfl
     dsimp only;rw[e4];have s4:au H (upd H3 e (.lst (cu (fun x=>if x=g.N.a k then F (g.N.a k)+1 else F x) p))):=s3.put QV
     have Sj:upd H3 e (.lst (cu (fun x=>if x=g.N.a k then F (g.N.a k)+1 else F x) p)) e=_:=ae
     generalize upd H3 e (.lst (cu (fun x=>if x=g.N.a k then F (g.N.a k)+1 else F x) p))=H4 at s4 Sj
     generalize ZA:(fun x=>if x=g.N.a k then F (g.N.a k)+1 else F x)=F2 at Sj
     refine(aq rfl (aq rfl (bS (aQ.of (s4 _ _ h1)) (ai (j:=1) rfl) (aq rfl (bS (aQ.of (s4 _ _ h2)) (ai (j:=k) ex) (bS (aQ.of (s4 _ _ hct)) (ai (j:=1) rfl) (iy (aK.of Sj) (ai (bI hb)) (bW (?_)))))))));refine(aq rfl (aq rfl (bS (aQ.of (s4 _ _ h1)) (ai (j:=1) rfl) (aq rfl (bS (aQ.of (s4 _ _ h2)) (ai (j:=k) ex) (bS (aQ.of (s4 _ _ hct)) (ai (j:=1) rfl) ⟨e,_,_,g.N.b k,rfl,rfl,Sj,l9 (by rw[b8];exact hb),?_⟩))))))
     refine(aq rfl ⟨s4.put QV,?_⟩);rw[ae];have e5:(cu F2 p).set (g.N.b k) (.int ((F2 (g.N.b k):Nat)+1:Int))=cu (fun x=>if x=g.N.b k then F2 (g.N.b k)+1 else F2 x) p:=by
      rw[<-AW];rfl
     dsimp only;rw[e5]
     congr 2
     refine tU fun x _=>?_
     rw[Jr,lF,Bool.true_and,show RM.cnt (fun j=>m.testBit j&&g.N.inc j x) k=F x from congrFun hF x]
     unfold RM.Net.inc;have f2:∀ y,F2 y=if y=g.N.a k then F (g.N.a k)+1 else F y:=fun y=>(congrFun ZA y).symm
     by_cases e1:x=g.N.b k
     ·rw[if_pos e1,f2,if_neg (fun z:g.N.b k=g.N.a k=>ne z.symm),e1,cR ne,cD rfl]
      rfl
     ·rw[if_neg e1,f2,cR (fun z:g.N.b k=x=>e1 z.symm),Bool.xor_false]
      by_cases e2:x=g.N.a k
      ·rw[if_pos e2,e2,cD rfl];rfl
      ·rw[if_neg e2,cR (fun z:g.N.a k=x=>e2 z.symm)]
       rfl
  ·rintro σ H3 ⟨v3,rfl,s3,FI⟩;rw[Int.toNat_natCast,sD]at FI;exact(aq rfl (q e H3 s3 FI))
theorem kU:Ok T T.kN 1 CL:=by
 refine T.kN.ok fj fun _ A _ s H vs Q E hr h=>?_
 ·obtain⟨wb,p,ts,g,S,m,rfl,rfl,hw,hm,q⟩:=h;refine⟨_,(aj (aC (i:=2) fj.nd rfl (Or.inr rfl) (bM (own:=["point"]) (fq:=[]) (js:=[]) (aD (ak gp) ["web","some","marks","k","old"]) rfl (aX (by rfl) T.bO (aa (aB (bR K) (pv 0) ah) af)) (fun _ _ _ _=>(bu 0 (k7 ["point"]))) (fun _ _ _ _=>bT) (fun _ _ _ _=>(pv 0))))
   (aj (dN PassesOwn.never rfl (aX (by rfl) T.bO (aa (bL K T.cz (aa (aB (bR K) (pv 0) ah) af)) af)) (xK (i:=3) fj.nd rfl (Or.inr rfl))
   (av (cG (aL dW (aG cT (aG tF (pv 1) (pv 3)) ah) ah (aM _)) (aj (aC (i:=4) fj.nd rfl (Or.inr rfl) (aB (iI K) (pv 2) (aB (bR K) (aB (bR K) (aB (bR K) (pv 0) ah) (pv 3)) ah)))
   (av (aC (i:=2) fj.nd rfl (Or.inr rfl) (bM (own:=["mark"]) (fq:=["web","marks","k","old"]) (js:=[0,2,3,4]) (aD (ak gp) ["web","some","marks","k","old"]) rfl (pL K (pv 2)) (fun _ _ _ _=>(bu 0 (k7 ["mark","web","marks","k","old"]))) (fun _ _ _ _=>bT) (fun _ _ _ _=>(aB (iI K) (cW (aa (pv 0) (aa (aB (iI K) (pv 2) (aB (bR K) (aB (bR K) (aB (bR K) (pv 1) ah) (pv 3)) ah)) af))) (cA pU (by rfl) T.IZ PyProof.Rows.boot_int (aa (cV dW (pv 0) (pv 4) (aM _)) af)))))))) bh)))
   (av (aH (dm M7 (by rfl) T.cz PySem.boot_len (aa (cA (TH K rfl) (by rfl) T.QS PyProof.Rows.boot_set (aa (pv 2) af)) af)))))),?_⟩
  refine nc ?_;intro cQ c7 ez gz iz;obtain⟨bt,xs,h1,h2,h3⟩:=id hw.ex;have sD:=h3.length;have wl:=g.len;have wp:=g.p2;refine(aq rfl (bS (aQ.of h1) (ai (j:=0) rfl) (aq rfl ⟨(by lia),(by lia),fun M hM=>bN (lo:=0) (m:=p) (tV (fun x=>x) H M) (.start hM) (fun i acc H3 _ pd=>pd.len) (dQ (by lia)) ?_ ?_⟩)))
  ·intro i acc H3 hi pd;rw[Int.zero_add];exact⟨rfl,aq rfl (pd.next hM (au.refl _) rfl)⟩
  intro acc H1 pd;have ZC:H1 M=some (.lst (cu (fun x=>x) p)):=by rw[pd.2.1,pd.2.2]
  have s1:=pd.1;clear pd;refine(aq rfl (bS (aQ.of (s1 _ _ h1)) (ai (j:=1) rfl) (lS rfl (.inr (aQ.of (s1 _ _ h2))) (aq rfl ⟨(by lia),(by lia),?_⟩))))
  refine fJ (lo:=0) (n:=(xs.length:Int).toNat) (fun k σ H3=>∃ M v3 v4 L,σ=[some (.ref wb),some (.int (m:Int)),some (.ref M),v3,v4]/\au H H3/\H3 M=some (.lst (cu L p))/\RM.uA g.N (fun k=>m.testBit k) L k) ⟨M,none,none,_,rfl,s1,ZC,RM.uA.start⟩ ?_ ?_
  ·rintro k D' σ H3 hk ⟨M,v3,v4,L,rfl,s3,Oe,rel⟩;rw[Int.toNat_natCast]at hk;rw[Int.zero_add];have jK:k<ts.length:=by lia
   obtain⟨ct,ex,hct⟩:=kj (g:=g) h3 jK;have ha:g.N.a k<p:=g.N.al k jK;have hb:g.N.b k<p:=g.N.bl k jK;refine(aq rfl (aq rfl (bW ⟨(by lia),bW ⟨(mT rfl),rfl,aq rfl (?_)⟩⟩)))
   rw[Int.toNat_natCast,xX,fk];cases lF:m.testBit k with
   | false=>exact e8 ⟨M,_,_,L,rfl,s3,Oe,rel.skip lF⟩
   | true =>
     refine gC (aq rfl (aq rfl (bS (aQ.of (s3 _ _ h1)) (ai (j:=1) rfl) (aq rfl (bS (aQ.of (s3 _ _ h2)) (ai (j:=k) ex) (bS (aQ.of (s3 _ _ hct)) (ai (j:=1) rfl) (iy (aK.of Oe) (ai (bI hb)) (?_))))))));refine(aq rfl ⟨M,rfl,⟨_,aK.of Oe⟩,fun M2 LA=>bQ (xs:=cu L p) (tV (RM.Nc L (g.N.a k) (g.N.b k)) H3 M2) (.start LA) (fun i acc H4 _ pd=>⟨aK.of (pd.1 _ _ Oe),pd.len⟩) (by rw[b8];exact dl (Nat.ble_eq.mpr (by lia))) ?_ ?_⟩)
     ·intro i x acc H4 hx pd;obtain⟨hi,rfl⟩:=kh hx;have s4:=s3.trans pd.1;refine⟨rfl,aq rfl (aq rfl (aq rfl (bS (aQ.of (s4 _ _ h1)) (ai (j:=1) rfl) (aq rfl (bS (aQ.of (s4 _ _ h2)) (ai (j:=k) ex) (bS (aQ.of (s4 _ _ hct)) (ai (j:=0) rfl) (iy (aK.of (pd.1 _ _ Oe)) (ai (bI ha)) ⟨dl rfl,fun l hl=>?_⟩)))))))⟩
      refine(aq rfl (aq rfl ⟨rfl,.inr (aq rfl (?_))⟩));rw[jj]
      by_cases e:L i=L (g.N.b k)
      ·rw[cD e];exact(iy (aK.of ae) (ai (j:=1) rfl) (pd.next LA (au.new hl) (by unfold RM.Nc;rw[if_pos e])))
      ·rw[cR e];exact(iy (aK.of ae) (ai (j:=0) rfl) (pd.next LA (au.new hl) (by unfold RM.Nc;rw[if_neg e])))
     ·intro acc H4 pd;rw[b8]at pd;exact⟨M2,_,_,_,rfl,s3.trans pd.1,by rw[pd.2.1,pd.2.2],rel.put jK lF⟩
  ·rintro σ H3 ⟨M,v3,v4,L,rfl,s3,Oe,rel⟩;rw[Int.toNat_natCast,sD]at rel;have ens:cu L p=((List.range p).map fun x=>((L x:Nat):Int)).map V.int:=by
    unfold cu;rw[List.map_map];rfl
   refine(aq rfl ⟨M,(List.range p).map (fun x=>((L x:Nat):Int)),rfl,aK.of (by rw[Oe,ens]),by rw[List.length_map,List.length_range];lia,fun l S hl=>⟨l,S,_,rfl,ae,?_⟩⟩)
   rw[List.length_map,List.length_range,F0 (g:=fun i=>((L i:Nat):Int)) (fun i hi=>by rw[List.getD_eq_getElem?_getD,List.getElem?_map,List.getElem?_range hi];rfl)]
   have e:=RM.K6 (N:=g.N) (L:=L) rel;have e:(PyProof.Rows.firstMet (fun i=>((L i:Nat):Int)) p).length=_:=e
   rw[e];exact q _ (s3.trans (au.new hl))
theorem nO:Ok T T.nJ 2 Jq:=by
 have kU:=kU T;have kT:=kT T;refine T.nJ.ok rP fun _ A _ s H vs Q E hr h=>?_
 ·obtain⟨wb,p,ts,g,S,m,rfl,rfl,hw,hm,q⟩:=h;refine⟨_,(aj (aC (i:=2) rP.nd rfl (Or.inl rfl) (aI kT hr T.kM.c aO (aa (pv 0) (aa (pv 1) af))))
   (aj (cG (PW.pt (vY (aL Gr (pv 1) ah (aM _)) (pO (aL we (bL K T.cz (aa (bM (own:=["count"]) (fq:=[]) (js:=[]) (aD (ak ja) ["web","some","counts"]) rfl (pL K (pv 2)) (fun _ _ _ _=>(bu 0 (k7 ["count"]))) (fun _ _ _ _=>(fW (aL (GJ K) (pv 0) (cH (aa ah (aa ah af))) (by with_unfolding_all rfl)))) (fun _ _ _ _=>(pv 0))) af)) ah (aM _))))) (av (aH nX)) bh)
   (av (aH (cV dW (aI kU hr T.kN.c aO (aa (pv 0) (aa (pv 1) af))) (aG cS (aG nq (aB (bR K) (pv 0) ah) (bL K T.cz (aa (bM (own:=["count"]) (fq:=[]) (js:=[]) (aD (ak ja) ["web","some","counts"]) rfl (pL K (pv 2)) (fun _ _ _ _=>(bu 0 (k7 ["count"]))) (fun _ _ _ _=>(fW (aL dW (pv 0) ah (aM _)))) (fun _ _ _ _=>(pv 0))) af))) ah) (aM _)))))),?_⟩
  refine rQ ?_;intro cQ c7 ez;obtain⟨bt,xs,h1,h2,h3⟩:=id hw.ex;have wp:=g.p2;refine(aq rfl (aq rfl ⟨wb,p,ts,g,_,m,rfl,rfl,hw,hm,fun D H1 s1 mX=>?_⟩))
  refine(aq rfl (bW (aq rfl (mS (fun h0=>?_) (fun h0=>?_)))))
  ·have h0:(m:Int)<=0:=iG h0;exact q H1 false s1 ⟨(fun z=>nomatch z),fun r=>absurd (show m=0 by lia) r.1⟩
  have h0:m≠0:=fun z=>h0 (cD (show(m:Int)<=0 by lia))
  refine(aq rfl ⟨D,rfl,⟨_,aK.of mX⟩,fun C hC=>bQ (xs:=cu (fun x=>g.N.dg m x) p) (fun i acc H2=>au H1 H2/\H2 C=some (.lst acc)/\acc.length=RM.cnt (fun x=>!decide (0=g.N.dg m x\/2=g.N.dg m x)) i) ⟨au.new hC,ae,rfl⟩ (fun i acc H2 _ f=>⟨aK.of (f.1 _ _ mX),f.2.1,by have:=RM.kg (fun x=>!decide (0=g.N.dg m x\/2=g.N.dg m x)) i;have:=f.2.2;lia⟩) (dQ (by rw[b8];lia)) ?_ ?_⟩)
  ·rintro i x acc H2 hx ⟨s2,CF,al⟩;obtain⟨hi,rfl⟩:=kh hx;refine⟨rfl,aq rfl ⟨dl rfl,fun u hu=>(lS rfl (.inr (aQ.of ae)) ⟨rfl,rfl,aq rfl (?_)⟩)⟩⟩
   have e:LQ (.int ((g.N.dg m i:Nat):Int)) [.int 0,.int 2]=decide (0=g.N.dg m i\/2=g.N.dg m i):=Js _ 0 2;have hc1:RM.cnt (fun x=>!decide (0=g.N.dg m x\/2=g.N.dg m x)) (i+1)=RM.cnt (fun x=>!decide (0=g.N.dg m x\/2=g.N.dg m x)) i+if(!decide (0=g.N.dg m i\/2=g.N.dg m i))=true then 1 else 0:=rfl
   dsimp only;rw[if_pos rfl,e];have Wv:C≠u:=aW CF hu;cases hb:decide (0=g.N.dg m i\/2=g.N.dg m i) with
   | false =>
     rw[hb]at hc1;refine gC (aq rfl ⟨by rw[ao Wv];exact CF,(s2.trans (au.new hu)).put hC,ae,?_⟩)
     rw[List.length_append,hc1,al];rfl
   | true =>
     rw[hb]at hc1;exact e8 ⟨s2.trans (au.new hu),by rw[ao Wv];exact CF,by rw[hc1,al];rfl⟩
  rintro acc H2 ⟨s2,CF,al⟩;rw[b8]at al;have s12:=s1.trans s2;refine(lS rfl (.inl (aK.of CF)) (bW (aq rfl (mS (fun hpos=>?_) (fun hpos=>?_)))))
  ·have hpos:(0:Int)<(acc.length:Int):=iG hpos;refine q H2 false s12 ⟨(fun z=>nomatch z),fun r=>?_⟩
   obtain⟨x,hx,hf⟩:=RM.lE (show 0<RM.cnt _ p by rw[<-al];lia)
   have d2:=RM.KZ hm r x hx;rw[Bool.not_eq_true',decide_eq_false_iff_not]at hf;exact absurd (d2.imp Eq.symm Eq.symm) hf
  have d2:g.N.D2 m:=fun x hx=>by
   apply Classical.byContradiction;intro hn;have:=RM.mj (f:=fun x=>!decide (0=g.N.dg m x\/2=g.N.dg m x)) (k:=x) (by
    rw[Bool.not_eq_true',decide_eq_false_iff_not];exact fun z=>hn (z.imp Eq.symm Eq.symm)) (show x<p from hx)
   exact hpos (cD (show(0:Int)<(acc.length:Int) by lia))
  refine(aq rfl (aq rfl ⟨wb,p,ts,g,_,m,rfl,rfl,hw.same s12,hm,fun H3 s3=>?_⟩))
  have pM:=s12.trans s3;have pJ:=(s2.trans s3) _ _ mX;refine(aq rfl (bS (aQ.of (pM _ _ h1)) (ai (j:=0) rfl) (?_)));refine(aq rfl ⟨D,rfl,⟨_,aK.of pJ⟩,fun C2 CF=>bQ (xs:=cu (fun x=>g.N.dg m x) p) (fun i acc H4=>au H3 H4/\H4 C2=some (.lst acc)/\acc.length=RM.cnt (fun x=>decide (g.N.dg m x=2)) i) ⟨au.new CF,ae,rfl⟩ (fun i acc H4 _ f=>⟨aK.of (f.1 _ _ pJ),f.2.1,by have:=RM.kg (fun x=>decide (g.N.dg m x=2)) i;have:=f.2.2;lia⟩) (dQ (by rw[b8];lia)) ?_ ?_⟩)
  ·rintro i x acc H4 hx ⟨s4,LC,Sk⟩;obtain⟨hi,rfl⟩:=kh hx;refine⟨rfl,aq rfl ⟨rfl,aq rfl (?_)⟩⟩;have hc1:RM.cnt (fun x=>decide (g.N.dg m x=2)) (i+1)=RM.cnt (fun x=>decide (g.N.dg m x=2)) i+if decide (g.N.dg m i=2)=true then 1 else 0:=rfl
   have e:decide (V.int ((g.N.dg m i:Nat):Int)=V.int 2)=decide (g.N.dg m i=2):=jj _ 2;rw[e];cases hb:decide (g.N.dg m i=2) with
   | true =>
     rw[hb]at hc1;refine(aq rfl ⟨LC,s4.put CF,ae,?_⟩);rw[List.length_append,hc1,Sk];rfl
   | false =>
     rw[hb]at hc1;exact⟨s4,LC,by rw[hc1,Sk];rfl⟩
  ·rintro acc H4 ⟨s4,LC,Sk⟩;rw[b8]at Sk;refine(lS rfl (.inl (aK.of LC)) (bW (bW ⟨rfl,q H4 _ (pM.trans s4) ?_⟩)));have h:=RM.HW hm h0 d2;have hcc:RM.cnt (fun x=>decide (g.N.dg m x=2)) p<=p:=by have:=RM.kg (fun x=>decide (g.N.dg m x=2)) p;lia
   rw[h,decide_eq_true_iff]
   constructor
   ·intro e;have e:=V.int.inj e;show RM.cnt (g.N.root (fun k=>m.testBit k) ts.length) p+RM.cnt (fun x=>decide (g.N.dg m x=2)) p=p+1
    lia
   ·intro e;have e:RM.cnt (g.N.root (fun k=>m.testBit k) ts.length) p+RM.cnt (fun x=>decide (g.N.dg m x=2)) p=p+1:=e
    exact congrArg V.int (by lia)
def Jt:Sp:=fun vs H Q _=>∃ w p ts,∃ g:aA p ts,∃(S:Int) (m:Nat),vs=[.ref w,.int S]/\S=(m:Int)/\bq H w p ts/\m<2^ts.length/\∀ H',au H H'->Q (.int (lenOf ts m)) H'
theorem nQ:Ok T T.nK 1 Jt:=by
 refine T.nK.ok Av fun _ A _ s H vs Q E hr h=>?_
 ·obtain⟨wb,p,ts,g,S,m,rfl,rfl,hw,hm,q⟩:=h;refine⟨_,(av (aH (dm (sumK K rfl) (by rfl) T.Ml PyProof.Rows.boot_sum (aa (bM (own:=["k"]) (fq:=["web","some"]) (js:=[0,1]) (aD (ak kG) ["web","some"]) rfl (aX (by rfl) T.bO (aa (bL K T.cz (aa (aB (bR K) (pv 0) ah) af)) af)) (fun _ _ _ _=>(bu 0 (k7 ["k","web","some"]))) (fun _ _ _ _=>(fW (aL dW (aG cT (aG tF (pv 2) (pv 0)) ah) ah (aM _)))) (fun _ _ _ _=>(aB (bR K) (aB (bR K) (aB (bR K) (pv 1) ah) (pv 0)) ah))) af)))),?_⟩
  obtain⟨bt,xs,h1,h2,h3⟩:=id hw.ex;have sD:=h3.length;have wl:=g.len;refine(aq rfl (bS (aQ.of h1) (ai (j:=1) rfl) (lS rfl (.inr (aQ.of h2)) (aq rfl ⟨(by lia),(by lia),fun D hD=>bN (lo:=0) (m:=xs.length) (fun i acc H2=>au H H2/\H2 D=some (.lst acc)/\acc=(((List.range i).filter (fun k=>m.testBit k)).map fun k=>(aU ts k).2.2).map V.int) ⟨au.new hD,ae,rfl⟩ (fun i acc H2 _ z=>⟨z.2.1,by rw[z.2.2,List.length_map,List.length_map];exact Nat.le_trans (List.length_filter_le _ _) (by rw[List.length_range];exact Nat.le_refl _)⟩) (dQ (by lia)) ?_ ?_⟩))))
  ·rintro i acc H2 hi ⟨s2,gx,rfl⟩;rw[Int.zero_add];obtain⟨c,hxc,hct⟩:=kj (g:=g) h3 (show i<ts.length by lia)
   refine⟨rfl,aq rfl (aq rfl (bW ⟨(by lia),bW ⟨(mT rfl),rfl,aq rfl (?_)⟩⟩))⟩
   rw[Int.toNat_natCast,xX,fk];cases hb:m.testBit i with
   | true =>
     refine(aq rfl (bS (aQ.of (s2 _ _ h1)) (ai (j:=1) rfl) (aq rfl (bS (aQ.of (s2 _ _ h2)) (ai (j:=i) hxc) (bS (aQ.of (s2 _ _ hct)) (ai (j:=2) rfl) ⟨gx,s2.put hD,ae,?_⟩)))));rw[bA,if_pos hb,List.map_append,List.map_append];rfl
   | false =>
     refine⟨s2,gx,?_⟩;rw[bA,if_neg (by rw[hb];decide),List.append_nil]
  ·rintro acc H2 ⟨s2,gx,rfl⟩;refine⟨D,_,rfl,aK.of gx,?_⟩;have e:lenOf ts m=(((List.range xs.length).filter (fun k=>m.testBit k)).map fun k=>(aU ts k).2.2).sum:=by
    unfold lenOf;rw[fX hm,sD]
   rw[<-e];exact q H2 s2
def Of:Sp:=fun vs H Q _=>∃ w p ts,∃ g:aA p ts,∃(s u v:Nat),vs=[.ref w,.int (s:Int),.int (u:Int),.int (v:Int)]/\bq H w p ts/\s<2^ts.length/\u<p/\v<p/\
 (∀ t H',au H H'->(∀ k,t.testBit k=true->s.testBit k=true)->(∀ y,g.N.bd t y=(decide (u=y)^^decide (v=y)))->Q (.int ((t:Nat):Int)) H')/\
 (∀ H',au H H'->¬ g.N.fG (fun k=>s.testBit k) ts.length u v->Q .dU H')
def Ju:Sp:=fun vs H Q _=>∃(c:Int) (n:Nat),vs=[.int c,.int (n:Int)]/\n<=100/\∀ D ks H',au H H'->H' D=some (.lst (az ks))->ks.Perm (List.range n)->Q (.ref D) H'
def AX:Sp:=fun vs H Q _=>∃ w p ts,∃ g:aA p ts,∃(l:Addr) (ks:List Nat),vs=[.ref w,.ref l]/\bq H w p ts/\H l=some (.lst (az ks))/\ks.Perm (List.range ts.length)/\∀ D rs H',au H H'->H' D=some (.lst (az rs))->RM.Base g.N rs->Q (.ref D) H'
theorem LD(u v z:V):rT [u,v,z] none (some 2)=[u,v]:=rfl
theorem rD:Ok T T.qZ 1 Of:=by
 refine T.qZ.ok eB fun _ A _ s H vs Q E hr h=>?_
 ·obtain⟨wb,p,ts,g,sm,u,v,rfl,hw,hsm,hu,hv,q1,q2⟩:=h;refine⟨_,(aj (aC (i:=4) eB.nd rfl (Or.inl rfl) (KS (Ht (pv 2) ah KR) rfl rfl (fun z=>(nomatch z)) (by decide)))
   (aj (aC (i:=5) eB.nd rfl (Or.inl rfl) (cW (aa (pv 2) af)))
   (aj (aC (i:=6) eB.nd rfl (Or.inl rfl) ah)
   (aj (tD PassesOwn.never (aL y9 (pv 6) (bL K T.cz (aa (pv 5) af)) (aM _)) (aj (aC (i:=7) eB.nd rfl (Or.inl rfl) (aB (iI K) (pv 5) (pv 6)))
   (aj (aC (i:=6) eB.nd rfl (Or.inl rfl) (aG cS (pv 6) ah))
   (av (dN PassesOwn.never rfl (aX (by rfl) T.bO (aa (bL K T.cz (aa (aB (bR K) (pv 0) ah) af)) af)) (bu 8 eB.nd)
   (av (cG (PW.pt (xJ (aL dW (aG cT (aG tF (pv 1) (pv 8)) ah) ah (aM _)) (sF (aL (Tf K) (pv 7) (n5 (XS K) (aB (bR K) (aB (bR K) (pv 0) ah) (pv 8)) sG (sH ah)) (by with_unfolding_all rfl))))) (aj (aC (i:=9) eB.nd rfl (Or.inl rfl) (aG nq (aG cS (aB (bR K) (aB (bR K) (aB (bR K) (pv 0) ah) (pv 8)) ah) (aB (bR K) (aB (bR K) (aB (bR K) (pv 0) ah) (pv 8)) ah)) (pv 7)))
   (av (cG (MB (EB (by exact oh hr) (pv 9) (pv 4))) (aj (Dv (by exact oh hr) (pv 4) (pv 9) (aG Gn (Du (by exact oh hr) (pv 4) (pv 7) (fun _ _=>rfl)) (aG jy ah (pv 8))) rfl)
   (av (c8 (F8 K (kX PySem.F.plainAttrs_list PySem.F.slot_list_append PySem.F.type_list_append cX (pv 5) (aa (pv 9) af)))))) bh))) bh)))))))
   (av (aH (Hu (by exact oh hr) (pv 4) (pv 3) ⟨rfl,rfl,rfl,rfl⟩))))))),?_⟩
  refine Ce ?_;intro cQ c7 ez gz iz oZ uO DM DN DO uU r9;obtain⟨bt,xs,h1,h2,h3⟩:=id hw.ex;have sD:=h3.length;have wl:=g.len;have wp:=g.p2;intro C hC;have s1:au H (upd H C (.dK [])):=au.new hC;refine(aq rfl ⟨ae,[((Sum.inl ((u:Nat):Int):Key),V.int 0)],rfl,(by show 1<=15;decide),?_⟩)
  have Sl:upd (upd H C (.dK [])) C (.dK (lJ [] [((Sum.inl ((u:Nat):Int):Key),V.int 0)])) C=some (.dK (iJ [u] (fun _=>0))):=ae
  have s2:au H (upd (upd H C (.dK [])) C (.dK (lJ [] [((Sum.inl ((u:Nat):Int):Key),V.int 0)]))):=s1.put hC;generalize upd (upd H C (.dK [])) C (.dK (lJ [] [((Sum.inl ((u:Nat):Int):Key),V.int 0)]))=H1 at s2 Sl;clear s1;refine(aq rfl ⟨dl rfl,fun L hL=>?_⟩)
  have Lw:upd H1 L (.lst [.int ((u:Nat):Int)]) L=some (.lst (az [u])):=ae;have Ww:C≠L:=aW Sl hL;have CF:upd H1 L (.lst [.int ((u:Nat):Int)]) C=some (.dK (iJ [u] (fun _=>0))):=au.new hL _ _ Sl
  have OQ:au H (upd H1 L (.lst [.int ((u:Nat):Int)])):=s2.trans (au.new hL);have R7:H L=none:=s2.free hL;generalize upd H1 L (.lst [.int ((u:Nat):Int)])=H2 at OQ Lw CF;clear s2 Sl hL;refine⟨fun z σ H3=>∃(i:Nat) (l:List Nat) (c:Nat->Nat) (v7 v8 v9:Option V),σ=[some (.ref wb),some (.int (sm:Int)),some (.int (u:Int)),some (.int (v:Int)),some (.ref C),some (.ref L),some (.int (i:Int)),v7,v8,v9]/\au H H3/\H3 L=some (.lst (az l))/\H3 C=some (.dK (iJ l c))/\RM.BF g.N sm u l c/\(∀ j x,j<i->l[j]?=some x->RM.Ma g.N sm l x ts.length)/\i<=l.length/\z=p-i,⟨p-0,0,[u],fun _=>0,none,none,none,rfl,OQ,Lw,CF,RM.BF.start hu,(fun j x hj=>by lia),Nat.zero_le _,rfl⟩,?_⟩
  rintro z σ H3 ⟨i,l,c,v7,v8,v9,rfl,s3,Sm,Sn,bf,lf,zL,rfl⟩;clear OQ Lw CF;have ZD:l.length<=p:=RM.oF bf.nd bf.lt;refine(aq rfl (aq rfl (lS rfl (.inl (aK.of Sm)) (bW (aq rfl (mS (fun hlt=>?_) (fun hlt=>?_)))))))
  ·have hlt:(i:Int)<((az l).length:Int):=iG hlt;rw[aF]at hlt;have hlt:i<l.length:=by lia
   have hx:l[i]?=some l[i]:=List.getElem?_eq_getElem hlt;generalize l[i]=x at hx;have ZE:=bf.lt x (gy hx);refine⟨fun σ H4=>∃(l:List Nat) (c:Nat->Nat) (v7 v8 v9:Option V),σ=[some (.ref wb),some (.int (sm:Int)),some (.int (u:Int)),some (.int (v:Int)),some (.ref C),some (.ref L),some (.int ((i+1:Nat):Int)),v7,v8,v9]/\au H H4/\H4 L=some (.lst (az l))/\H4 C=some (.dK (iJ l c))/\RM.BF g.N sm u l c/\(∀ j x,j<i+1->l[j]?=some x->RM.Ma g.N sm l x ts.length)/\i+1<=l.length,fun σ H4 ⟨l,c,v7,v8,v9,z1,z2,z3,z4,z5,z6,z7⟩=>⟨p-(i+1),by lia,i+1,l,c,v7,v8,v9,z1,z2,z3,z4,z5,z6,z7,rfl⟩,?_⟩
   refine(aq rfl (aq rfl (iy (aK.of Sm) (ai (jl hx)) (?_))));refine(aq rfl (bW (?_)));refine(aq rfl (bS (aQ.of (s3 _ _ h1)) (ai (j:=1) rfl) (lS rfl (.inr (aQ.of (s3 _ _ h2))) (aq rfl ⟨(by lia),(by lia),?_⟩))))
   refine fJ (lo:=0) (n:=(xs.length:Int).toNat) (fun k σ H4=>∃(l:List Nat) (c:Nat->Nat) (v8 v9:Option V),σ=[some (.ref wb),some (.int (sm:Int)),some (.int (u:Int)),some (.int (v:Int)),some (.ref C),some (.ref L),some (.int ((i:Int)+1)),some (.int (x:Int)),v8,v9]/\au H H4/\H4 L=some (.lst (az l))/\H4 C=some (.dK (iJ l c))/\RM.BF g.N sm u l c/\(∀ j x,j<i->l[j]?=some x->RM.Ma g.N sm l x ts.length)/\i+1<=l.length/\l[i]?=some x/\RM.Ma g.N sm l x k) ⟨l,c,_,_,rfl,s3,Sm,Sn,bf,lf,by lia,hx,(fun k hk=>by lia)⟩ ?_ ?_
   ·rintro k D' σ H4 hk ⟨l,c,v8,v9,rfl,s4,OS,LC,bf,lf,zL,hx,Rg⟩;clear hlt Sm Sn;rw[Int.toNat_natCast]at hk;rw[Int.zero_add];have jK:k<ts.length:=by lia
    have ZD:l.length<=p:=RM.oF bf.nd bf.lt;have WA:=gy hx;obtain⟨ct,ex,hct⟩:=kj (g:=g) h3 jK;have skip:(sm.testBit k=true->∀ y,RM.Jn g.N k x y->y∈l)->∀ v9 H5,au H4 H5->D'.nx [some (.ref wb),some (.int (sm:Int)),some (.int (u:Int)),some (.int (v:Int)),some (.ref C),some (.ref L),some (.int ((i:Int)+1)),some (.int (x:Int)),some (.int (k:Int)),v9] H5:=fun hn v9 H5 s5=>by
     refine⟨l,c,_,_,rfl,s4.trans s5,s5 _ _ OS,s5 _ _ LC,bf,lf,zL,hx,fun j hj hb y hy=>?_⟩
     by_cases e:j=k
     ·subst e;exact hn hb y hy
     ·exact Rg j (by lia) hb y hy
    refine(aq rfl (aq rfl (bW ⟨(by lia),bW ⟨(mT rfl),rfl,aq rfl (?_)⟩⟩)))
    rw[Int.toNat_natCast,xX,fk];cases lF:sm.testBit k with
    | false=>exact e8 (skip (fun z=>by rw[lF]at z;cases z) _ _ (au.refl _))
    | true =>
      refine gC (aq rfl (aq rfl (bS (aQ.of (s4 _ _ h1)) (ai (j:=1) rfl) (aq rfl (bS (aQ.of (s4 _ _ h2)) (ai (j:=k) ex) (?_))))));refine(aq rfl ⟨ct,_,rfl,aQ.of (s4 _ _ hct),(fun z=>absurd (show HT.fF 3 3 (some 2)=3 from z.2) (by decide)),fun w Rh=>?_⟩)
      rw[LD];refine(lS rfl (.inr (aQ.of ae)) ⟨rfl,rfl,aq rfl (?_)⟩);dsimp only;rw[Js];have s5:au H4 (upd H4 w (.tup [.int ((g.N.a k:Nat):Int),.int ((g.N.b k:Nat):Int)])):=au.new Rh;generalize upd H4 w (.tup [.int ((g.N.a k:Nat):Int),.int ((g.N.b k:Nat):Int)])=H5 at s5;have Mr:=s4.trans s5
      by_cases hin:g.N.a k=x\/g.N.b k=x
      case neg =>
       rw[cR hin];refine e8 (skip (fun _ y hy=>absurd ?_ hin) _ _ s5)
       rcases hy with⟨e,_⟩|⟨e,_⟩
       ·exact .inl e
       ·exact .inr e
      rw[cD hin];refine gC (aq rfl (bS (aQ.of (Mr _ _ h1)) (ai (j:=1) rfl) (aq rfl (bS (aQ.of (Mr _ _ h2)) (ai (j:=k) ex) (bS (aQ.of (Mr _ _ hct)) (ai (j:=0) rfl) (aq rfl (bS (aQ.of (Mr _ _ h1)) (ai (j:=1) rfl) (aq rfl (bS (aQ.of (Mr _ _ h2)) (ai (j:=k) ex) (bS (aQ.of (Mr _ _ hct)) (ai (j:=1) rfl) (bW (aq rfl (bW (?_))))))))))))));obtain⟨y,yT,ZF,one⟩:∃ y,RM.Jn g.N k x y/\((g.N.a k:Nat):Int)+((g.N.b k:Nat):Int)-(x:Int)=(y:Int)/\∀ y',RM.Jn g.N k x y'->y' = y:=by
       have ne:=g.N.ne k jK;rcases hin with e|e
       ·refine⟨g.N.b k,.inl ⟨e,rfl⟩,by lia,fun y' hy'=>?_⟩
        rcases hy' with⟨_,e2⟩|⟨e1,_⟩
        ·exact e2.symm
        ·exact absurd (e.trans e1.symm) ne
       ·refine⟨g.N.a k,.inr ⟨e,rfl⟩,by lia,fun y' hy'=>?_⟩
        rcases hy' with⟨e1,_⟩|⟨_,e2⟩
        ·exact absurd (e1.trans e.symm) ne
        ·exact e2.symm
      dsimp only;rw[ZF];have UT:=s5 _ _ LC;have JO:=s5 _ _ OS;refine(aq rfl (aq rfl ⟨C,_,rfl,ny.k (k:=Sum.inl ((y:Nat):Int)) UT,_,rfl,?_⟩));rw[oU]
      by_cases hy:y∈l
      ·rw[if_pos hy];exact e8 (skip (fun _ y' hy'=>by rw[one y' hy'];exact hy) _ _ s5)
      ·rw[if_neg hy];have ZG:ny H5 C (.int (x:Int)) (some (.int ((c x:Nat):Int))):=by
        have:=ny.k (k:=Sum.inl ((x:Nat):Int)) UT;rw[oU,if_pos WA]at this;exact this
       refine gC (aq rfl (aq rfl ⟨C,_,rfl,ZG,_,rfl,bW ⟨⟨by lia,by lia,by decide⟩,bW (aq rfl (aq rfl ⟨C,_,rfl,zO.k (k:=Sum.inl ((y:Nat):Int)) UT (dY (by unfold iJ;rw[List.length_map];lia)),?_⟩))⟩⟩))
       have ev:Builtin.bitOr ((c x:Nat):Int) (1*2^((k:Nat):Int).toNat)=((c x ||| 2^k:Nat):Int):=by rw[ji,or_int]
       dsimp only;rw[ev,HX hy];have s6:au H (upd H5 C (.dK (iJ (l++[y]) fun z=>if z=y then c x ||| 2^k else c z))):=Mr.put hC
       have WB:upd H5 C (.dK (iJ (l++[y]) fun z=>if z=y then c x ||| 2^k else c z)) C=some (.dK (iJ (l++[y]) fun z=>if z=y then c x ||| 2^k else c z)):=ae
       have OR:upd H5 C (.dK (iJ (l++[y]) fun z=>if z=y then c x ||| 2^k else c z)) L=some (.lst (az l)):=by rw[ao Ww.symm];exact JO
       generalize upd H5 C (.dK (iJ (l++[y]) fun z=>if z=y then c x ||| 2^k else c z))=H6 at s6 WB OR
       refine(aq rfl ⟨.inl ⟨rfl,_,aK.of OR⟩,aq rfl ⟨L,_,_,rfl,rfl,OR,dY (by rw[aF];lia),?_⟩⟩)
       have mono:∀ z j,RM.Ma g.N sm l z j->RM.Ma g.N sm (l++[y]) z j:=fun z j h k hk hb w hw=>vV _ (h k hk hb w hw)
       refine⟨l++[y],_,_,_,rfl,s6.put R7,by rw[ae,dX],by rw[ao Ww];exact WB,bf.put hsm WA jK lF yT hy,fun j z hj hz=>?_,by rw[List.length_append];lia,by rw[List.getElem?_append_left (by lia)];exact hx,fun j hj hb w hw=>?_⟩
       ·rw[List.getElem?_append_left (by lia)]at hz
        exact mono z _ (lf j z hj hz)
       ·by_cases e:j=k
        ·subst e;rw[one w hw];exact gZ _ (by simp)
        ·exact vV _ (Rg j (by lia) hb w hw)
   ·rintro σ H4 ⟨l,c,v8,v9,rfl,s4,OS,LC,bf,lf,zL,hx,Rg⟩;rw[Int.toNat_natCast,sD]at Rg;refine⟨l,c,_,_,_,rfl,s4,OS,LC,bf,fun j y hj hy=>?_,zL⟩
    by_cases e:j=i
    ·subst e;rw[hx]at hy;cases hy;exact Rg
    ·exact lf j y (by lia) hy
  ·have hge:l.length<=i:=by
    have : ¬(i:Int)<((az l).length:Int):=fun z=>hlt (cD z)
    rw[aF]at this
    lia
   have all:∀ x∈l,RM.Ma g.N sm l x ts.length:=fun x hx=>by
    obtain⟨j,hj⟩:=List.getElem?_of_mem hx;have:=(iH.mp hj).1;exact lf j x (by lia) hj
   have cn:=bf.conn hsm all (show v<g.N.p from hv)
   refine(aq rfl ⟨C,rfl,.inl ⟨_,.inl Sn⟩,aq rfl ⟨_,ny.k (k:=Sum.inl ((v:Nat):Int)) Sn,?_⟩⟩);rw[oU]
   by_cases hm:v∈l
   ·rw[if_pos hm];exact q1 (c v) H3 s3 (bf.sub v hm) (bf.bd v hm)
   ·rw[if_neg hm];exact q2 H3 s3 fun h=>hm (cn.mpr h)
theorem ik:Ok T T.ig 2 Ju:=by
 have bK:=bK T;refine T.ig.ok kH fun _ A _ s H vs Q E hr h=>?_
 ·obtain⟨c,n,rfl,hn,q⟩:=h;refine⟨_,(aj (aC (i:=2) kH.nd rfl (Or.inl rfl) (cW af))
   (aj (dN PassesOwn.never rfl (aX (by rfl) T.bO (aa (pv 1) af)) (bu 3 kH.nd)
   (av (c8 (F8 K (kX PySem.F.plainAttrs_list PySem.F.slot_list_insert PySem.F.type_list_insert En (pv 2) (aa (aG cT (aI bK hr T.eF.c aO (aa (pv 0) (aa (aG cS ah (pv 3)) af))) (aG cS (pv 3) ah)) (aa (pv 3) af)))))))
   (av (aH (pv 2))))),?_⟩
  refine xC ?_;intro cQ c7 ez;refine⟨dl rfl,fun D hD=>?_⟩
  have s1:au H (upd H D (.lst [])):=au.new hD;have mX:upd H D (.lst []) D=some (.lst (az [])):=ae;generalize upd H D (.lst [])=H1 at s1 mX;refine(aq rfl (aq rfl ⟨(by lia),(by lia),?_⟩))
  refine fJ (lo:=0) (n:=(n:Int).toNat) (fun k σ H2=>∃ v3 ks,σ=[some (.int c),some (.int (n:Int)),some (.ref D),v3]/\au H H2/\H2 D=some (.lst (az ks))/\ks.Perm (List.range k)) ⟨none,[],rfl,s1,mX,List.Perm.refl _⟩ ?_ ?_
  ·rintro k D' σ H2 hk ⟨v3,ks,rfl,s2,gx,pm⟩;rw[Int.toNat_natCast]at hk;rw[Int.zero_add];have jK:ks.length=k:=by rw[pm.length_eq,List.length_range]
   refine(aq rfl ⟨.inl ⟨rfl,_,aK.of gx⟩,aq rfl (aq rfl (bW ⟨c,_,rfl,by lia,by lia,fun z hz hz2=>?_⟩))⟩)
   refine(aq rfl (bW (bW ⟨(by lia),aq rfl (?_)⟩)))
   obtain⟨j,hj,Io⟩:∃ j:Nat,z%((k:Int)+1)=(j:Int)/\j<=k:=by
    obtain⟨h1,h2⟩:=kY z ((k:Int)+1) (by lia)
    exact⟨(z%((k:Int)+1)).toNat,by lia,by lia⟩
   dsimp only;rw[hj];refine⟨D,_,j,_,rfl,rfl,gx,by rw[aF];lia,dY (by rw[aF];lia),_,ks.take j++k::ks.drop j,rfl,s2.put hD,?_,?_⟩
   ·rw[ae];unfold az;rw[List.map_append,List.map_cons,List.map_take,List.map_drop]
   ·have p1:(ks.take j++k::ks.drop j).Perm (k::ks):=by
     have:=List.perm_middle (a:=k) (l₁:=ks.take j) (l₂:=ks.drop j)
     rwa [List.take_append_drop]at this
    rw[List.range_succ];exact p1.trans ((List.Perm.cons k pm).trans (List.perm_append_singleton k (List.range k)).symm)
  ·rintro σ H2 ⟨v3,ks,rfl,s2,gx,pm⟩;rw[Int.toNat_natCast]at pm;exact(aq rfl (q D ks H2 s2 gx pm))
theorem gw:Ok T T.gv 2 AX:=by
 have rD:=rD T;refine T.gv.ok bZ fun _ A _ s H vs Q E hr h=>?_
 ·obtain⟨wb,p,ts,g,l,od,rfl,hw,hl,pm,q⟩:=h;refine⟨_,(aj (aC (i:=2) bZ.nd rfl (Or.inl rfl) ah)
   (aj (aC (i:=3) bZ.nd rfl (Or.inl rfl) (cW af))
   (aj (dN PassesOwn.never rfl (pL K (pv 1)) (bu 4 bZ.nd)
   (aj (aC (i:=5) bZ.nd rfl (Or.inl rfl) (aI rD hr T.qZ.c aO (aa (pv 0) (aa (pv 2) (aa (aB (bR K) (aB (bR K) (aB (bR K) (pv 0) ah) (pv 4)) ah) (aa (aB (bR K) (aB (bR K) (aB (bR K) (pv 0) ah) (pv 4)) ah) af))))))
   (av (cG (aL Bd (pv 5) ni (aM _)) (av (aC (i:=2) bZ.nd rfl (Or.inl rfl) (aG Gn (pv 2) (aG jy ah (pv 4))))) (av (c8 (F8 K (kX PySem.F.plainAttrs_list PySem.F.slot_list_append PySem.F.type_list_append cX (pv 3) (aa (aG Gn (pv 5) (aG jy ah (pv 4))) af)))))))))
   (av (aH (pv 3)))))),?_⟩
  refine nF ?_;intro cQ c7 ez gz iz oZ uO;obtain⟨bt,xs,h1,h2,h3⟩:=id hw.ex;have sD:=h3.length;have wl:=g.len;have L7:od.length=ts.length:=by rw[pm.length_eq,List.length_range]
  have UU:∀ k,k∈od↔k<ts.length:=fun k=>by rw[pm.mem_iff,List.mem_range]
  have UW:od.Nodup:=pm.nodup_iff.mpr List.nodup_range;refine⟨dl rfl,fun D hD=>?_⟩
  have s1:au H (upd H D (.lst [])):=au.new hD;have mX:upd H D (.lst []) D=some (.lst (az [])):=ae;generalize upd H D (.lst [])=H1 at s1 mX;refine(aq rfl ⟨l,rfl,⟨_,aK.of (s1 _ _ hl)⟩,dH (K:=K) (a:=l) (xs:=az od) (fun i σ H2=>∃(sm:Nat) (v4 v5:Option V) (ks rs:List Nat),σ=[some (.ref wb),some (.ref l),some (.int (sm:Int)),some (.ref D),v4,v5]/\au H H2/\H2 D=some (.lst (az rs))/\RM.Fr g.N (od.take i) sm ks rs) ⟨0,none,none,[],[],rfl,s1,mX,RM.Fr.start⟩ (fun i σ H2 _ ⟨_,_,_,_,_,_,z,_⟩=>aK.of (z _ _ hl)) ?_ ?_⟩)
  ·rintro i y D' σ H2 hi ⟨sm,v4,v5,ks,rs,rfl,s2,gx,fr⟩;obtain⟨k,hk,rfl⟩:=fK hi;have jK:=(UU k).mp (gy hk);have hkd:k∉od.take i:=fun hm=>by
    obtain⟨j,hj⟩:=List.getElem?_of_mem hm;have HS:=(iH.mp hj).1;rw[List.length_take]at HS;rw[List.getElem?_take_of_lt (by lia)]at hj
    obtain⟨a1,a2⟩:=iH.mp hj;obtain⟨b1,b2⟩:=iH.mp hk;have:=(List.getElem_inj UW).mp (a2.trans b2.symm)
    lia
   have Q8:rs.length<=ts.length:=by
    rw[fr.len];have h1:∀ x∈ks,x<ts.length:=fun x hx=>(UU x).mp (List.mem_of_mem_take (fr.zX x hx).1)
    exact RM.oF fr.nd h1
   obtain⟨ct,ex,hct⟩:=kj (g:=g) h3 jK;have ha:g.N.a k<p:=g.N.al k jK;have hb:g.N.b k<p:=g.N.bl k jK;have tk:od.take (i+1)=od.take i++[k]:=take3 hk;refine(aq rfl (aq rfl (aq rfl (bS (aQ.of (s2 _ _ h1)) (ai (j:=1) rfl) (aq rfl (bS (aQ.of (s2 _ _ h2)) (ai (j:=k) ex) (bS (aQ.of (s2 _ _ hct)) (ai (j:=0) rfl) (aq rfl (bS (aQ.of (s2 _ _ h1)) (ai (j:=1) rfl) (aq rfl (bS (aQ.of (s2 _ _ h2)) (ai (j:=k) ex) (bS (aQ.of (s2 _ _ hct)) (ai (j:=1) rfl) (?_)))))))))))));refine⟨wb,p,ts,g,sm,_,_,rfl,hw.same s2,fr.lt,ha,hb,fun t H3 s3 hsub hbd=>?_,fun H3 s3 hn=>?_⟩
   ·have pJ:=s3 _ _ gx;refine(aq rfl ⟨rfl,aq rfl (Bo (fun z=>nomatch z) ?_)⟩)
    refine(aq rfl ⟨.inl ⟨rfl,_,aK.of pJ⟩,aq rfl (aq rfl (bW ⟨⟨by lia,by lia,by decide⟩,bW (?_)⟩))⟩)
    refine⟨D,_,_,rfl,rfl,pJ,dY (by rw[aF];lia),sm,_,_,ks++[k],rs++[t ||| 2^k],rfl,(s2.trans s3).put hD,?_,?_⟩
    ·rw[ae,dX,ji];dsimp only;rw[or_int]
    ·rw[tk];exact fr.Ql jK hkd hsub hbd
   ·refine(aq rfl ⟨rfl,aq rfl (MW rfl (aq rfl (aq rfl (bW ⟨⟨by lia,by lia,by decide⟩,bW ⟨sm ||| 2^k,some (.int (k:Int)),some .dU,ks,rs,?_,s2.trans s3,s3 _ _ gx,?_⟩⟩))))⟩)
    ·show[_,_,some (V.int (Builtin.bitOr (sm:Int) (1*2^((k:Nat):Int).toNat))),_,_,_]=_;rw[ji,or_int]
    ·rw[tk];exact fr.tree jK hkd hn
  ·rintro σ H2 ⟨sm,v4,v5,ks,rs,rfl,s2,gx,fr⟩;rw[aF,List.take_length]at fr;exact(aq rfl (q D rs H2 s2 gx (fr.base fun k hk=>(UU k).mpr hk)))
def LF:Sp:=fun vs H Q _=>∃ w p ts,∃ g:aA p ts,∃(l:Addr) (rs:List Nat) (c:Int),vs=[.ref w,.ref l,.int c]/\bq H w p ts/\H l=some (.lst (az rs))/\RM.Base g.N rs/\∀ D rs' H',au H H'->H' D=some (.lst (az rs'))->RM.Base g.N rs'->Q (.ref D) H'
theorem iF:Ok T T.iD 3 LF:=by
 have bK:=bK T;have nO:=nO T;refine T.iD.ok eR fun _ A _ s H vs Q E hr h=>?_
 ·obtain⟨wb,p,ts,g,l,rs,c,rfl,hw,hl,bs,q⟩:=h;refine⟨_,(aj (aC (i:=3) eR.nd rfl (Or.inl rfl) (cA (PX K) (by rfl) T.Ct PyProof.Rows.boot_list (aa (pv 1) af)))
   (aj (dN PassesOwn.never rfl (aX (by rfl) T.bO (aa (bL K T.cz (aa (pv 3) af)) af)) (bu 4 eR.nd)
   (aj (aC (i:=5) eR.nd rfl (Or.inl rfl) (aG cT (aI bK hr T.eF.c aO (aa (pv 2) (aa (aG cS ah (pv 4)) af))) (bL K T.cz (aa (pv 3) af))))
   (av (cG (PW.pt (xJ (aL wc (pv 5) (pv 4) (aM _)) (sF (fT (aI nO hr T.nJ.c aO (aa (pv 0) (aa (aG fE (aB (iI K) (pv 3) (pv 4)) (aB (iI K) (pv 3) (pv 5))) af))))))) (av (tw (aG fE (aB (iI K) (pv 3) (pv 4)) (aB (iI K) (pv 3) (pv 5))) (xM (pv 3) (pv 4) set_list))) bh))))
   (av (aH (pv 3))))),?_⟩
  refine uV ?_;intro cQ c7 ez gz iz;have Q8:rs.length<=24:=by
   rw[bs.len];have h1:g.N.aN.length<=ts.length:=by
    unfold RM.Net.aN;have:=List.length_filter_le (fun k=>!g.N.kc k) (List.range g.N.n)
    rw[List.length_range]at this;exact this
   have:=g.len
   lia
  refine(aq rfl (lS rfl (.inl (aK.of hl)) (fun D hD=>?_)))
  have s1:au H (upd H D (.lst (az rs))):=au.new hD;have mX:upd H D (.lst (az rs)) D=some (.lst (az rs)):=ae;generalize upd H D (.lst (az rs))=H1 at s1 mX;refine(aq rfl (lS rfl (.inl (aK.of mX)) (aq rfl ⟨(by rw[aF];lia),(by rw[aF];lia),?_⟩)))
  refine fJ (lo:=0) (n:=((az rs).length:Int).toNat) (fun i σ H2=>∃ v4 v5 rs',σ=[some (.ref wb),some (.ref l),some (.int c),some (.ref D),v4,v5]/\au H H2/\H2 D=some (.lst (az rs'))/\RM.Base g.N rs'/\rs'.length=rs.length) ⟨none,none,rs,rfl,s1,mX,bs,rfl⟩ ?_ ?_
  ·rintro k D' σ H2 hk ⟨v4,v5,rs',rfl,s2,gx,bs',hl2⟩;rw[aF,Int.toNat_natCast]at hk;rw[Int.zero_add];refine(aq rfl (aq rfl (bW ⟨c,_,rfl,by lia,by lia,fun z hz hz2=>?_⟩)))
   refine(aq rfl (lS rfl (.inl (aK.of gx)) (bW ⟨(by rw[aF];lia),?_⟩)))
   obtain⟨o,ho,ho2⟩:∃ o:Nat,z%((az rs').length:Int)=(o:Int)/\o<rs'.length:=by
    rw[aF];obtain⟨h1,h2⟩:=kY z (rs'.length:Int) (by lia)
    exact⟨(z%(rs'.length:Int)).toNat,by lia,by lia⟩
   dsimp only;rw[ho];have hx:rs'[k]?=some (rs'[k]'(by lia)):=List.getElem?_eq_getElem _
   have hy:rs'[o]?=some (rs'[o]'ho2):=List.getElem?_eq_getElem _;generalize rs'[k]'(by lia)=x at hx
   generalize rs'[o]'ho2=y at hy;refine(aq rfl (aq rfl ⟨rfl,aq rfl (?_)⟩))
   by_cases e:o=k
   case pos=>exact GF (by rw[e]) ⟨_,_,rs',rfl,s2,gx,bs',hl2⟩
   refine Mp (fun z=>e (by have:=V.int.inj z;lia)) ?_
   have ex:Builtin.bitXor (x:Int) (y:Int)=((x^^^y:Nat):Int):=xor_int x y;have hxy:x^^^y<2^ts.length:=Nat.xor_lt_two_pow (bs'.ring x (gy hx)).2 (bs'.ring y (gy hy)).2;refine(aq rfl (aq rfl (aq rfl (iy (aK.of gx) (ai (jl hx)) (aq rfl (aq rfl (iy (aK.of gx) (ai (jl hy)) (bW ⟨wb,p,ts,g,_,x^^^y,rfl,ex,hw.same s2,hxy,fun H3 d s3 hd=>(aq rfl (?_))⟩))))))))
   have pJ:=s3 _ _ gx;cases d with
   | false=>exact e8 ⟨_,_,rs',rfl,s2.trans s3,pJ,bs',hl2⟩
   | true =>
     refine gC (aq rfl (aq rfl (iy (aK.of pJ) (ai (jl hx)) (aq rfl (aq rfl (iy (aK.of pJ) (ai (jl hy)) (bW (aq rfl (aq rfl ⟨D,_,_,k,rfl,rfl,pJ,l9 (by rw[aF];lia),_,_,rs'.set k (x^^^y),rfl,(s2.trans s3).put hD,?_,bs'.put hx hy e (hd.mp rfl),by rw[List.length_set];exact hl2⟩)))))))))
     rw[ae];dsimp only;rw[ex];unfold az;rw[List.map_set]
  ·rintro σ H2 ⟨v4,v5,rs',rfl,s2,gx,bs',hl2⟩;exact(aq rfl (q D rs' H2 s2 gx bs'))
theorem l7{ts:List c9}{l:List Nat}(h:l.Pairwise (ng ts)):l.Pairwise fun x y=>lenOf ts x<=lenOf ts y:=h.imp fun {x y} z=>by
 unfold ng at z
 lia
theorem kW{p:Nat}{ts:List c9}{g:aA p ts}{m:Nat}(h:m<2^ts.length):RM.len g.N (bj ts) m=lenOf ts m:=(BN h).symm
theorem AY{p:Nat}{ts:List c9}{g:aA p ts}{rs B:List Nat}{ns:List Int}(lb:RM.LB g.N (bj ts) rs)(pw:rs.Pairwise (ng ts))(bs:RM.Base g.N B)(pm:ns.Perm (B.map (lenOf ts)))(up:ns.Pairwise (·<=·)):
 ns.length=rs.length/\∀(i:Nat) (x y:Int),(rs.map (lenOf ts))[i]?=some x->ns[i]?=some y->x<=y:=by
 have tr:∀ a b c:Nat,decide (lenOf ts a<=lenOf ts b)=true->decide (lenOf ts b<=lenOf ts c)=true->decide (lenOf ts a<=lenOf ts c)=true:=fun a b c h1 h2=>cD (Int.le_trans (iG h1) (iG h2))
 have to:∀ a b:Nat,(decide (lenOf ts a<=lenOf ts b) || decide (lenOf ts b<=lenOf ts a))=true:=fun a b=>by
  rcases Int.le_total (lenOf ts a) (lenOf ts b) with h|h
  ·rw[cD h,Bool.true_or]
  ·rw[cD h,Bool.or_true]
 have mp:(B.mergeSort fun x y=>decide (lenOf ts x<=lenOf ts y)).Perm B:=List.mergeSort_perm _ _
 have mw:(B.mergeSort fun x y=>decide (lenOf ts x<=lenOf ts y)).Pairwise fun x y=>lenOf ts x<=lenOf ts y:=(List.pairwise_mergeSort tr to B).imp fun h=>iG h
 generalize (B.mergeSort fun x y=>decide (lenOf ts x<=lenOf ts y))=C at mp mw
 have bc:=bs.perm mp;obtain rfl:C.map (lenOf ts)=ns:=PySem.W.lks_uniq ((mp.map _).trans pm.symm) (by rw[List.pairwise_map];exact mw) up
 have sp:∀ b∈C,RM.Sp (rs.filter fun c=>decide (lenOf ts c<=lenOf ts b)) b:=fun b hb=>by
  obtain⟨b1,b2⟩:=bc.ring b hb;refine(lb.parts b1 b2).mono fun c hc=>.mem ?_
  obtain⟨c1,c2⟩:=List.mem_filter.mp hc;refine List.mem_filter.mpr ⟨c1,?_⟩
  rwa [kW (lb.1.ring c c1).2,kW b2]at c2
 refine⟨by rw[List.length_map,bc.len,lb.1.len],fun i x y hx hy=>?_⟩
 rw[List.getElem?_map]at hx hy;obtain⟨a,ha,rfl⟩:=vn.mp hx;obtain⟨b,hb,rfl⟩:=vn.mp hy;exact RM.Aq (l7 pw) mw bc.ind sp i a b ha hb
def Jv:Sp:=fun vs H Q _=>∃ w p ts,∃ g:aA p ts,∃(l ll:Addr) (B rs:List Nat),vs=[.ref w,.ref l,.ref ll]/\bq H w p ts/\H l=some (.lst (az B))/\RM.Base g.N B/\H ll=some (.lst ((rs.map (lenOf ts)).map V.int))/\RM.LB g.N (bj ts) rs/\rs.Pairwise (ng ts)/\∀ H',au H H'->Q (.bl true) H'
def LG:Sp:=fun vs H Q _=>∃ w p ts,∃ _:aA p ts,∃(l:Addr) (row:List Nat),vs=[.ref w,.ref l]/\bq H w p ts/\H l=some (.lst (az row))/\row.Perm (List.range ts.length)/\∀ w' H',au H H'->bq H' w' p (anew ts row)->Q (.ref w') H'
theorem dS:Ok T T.dR 2 Jv:=by
 have nQ:=nQ T;refine T.dR.ok jc fun _ A _ s H vs Q E hr h=>?_
 ·obtain⟨wb,p,ts,g,l,ll,B,rs,rfl,hw,hl,bs,Ua,lb,pw,q⟩:=h;refine⟨_,(aj (aC (i:=3) jc.nd rfl (Or.inr rfl) (dm (sortedK K) (by rfl) T.u9 PyProof.Rows.boot_sorted (aa (bM (own:=["ring"]) (fq:=["web"]) (js:=[0]) (aD (ak cO) ["web","rings","least","rising"]) rfl (pL K (pv 1)) (fun _ _ _ _=>(bu 0 (k7 ["ring","web"]))) (fun _ _ _ _=>bT) (fun _ _ _ _=>(aI nQ hr T.nK.c aO (aa (pv 1) (aa (pv 0) af))))) af)))
   (aj (cG (aL wc (bL K T.cz (aa (pv 3) af)) (bL K T.cz (aa (pv 2) af)) (aM _)) (av (aH nX)) bh)
   (av (aH (cV dW (bL K T.cz (aa (bM (own:=["k"]) (fq:=["least","rising"]) (js:=[2,3]) (aD (ak cO) ["web","rings","least","rising"]) rfl (aX (by rfl) T.bO (aa (bL K T.cz (aa (pv 2) af)) af)) (fun _ _ _ _=>(bu 0 (k7 ["k","least","rising"]))) (fun _ _ _ _=>(fW (aL we (aB (iI K) (pv 1) (pv 0)) (aB (iI K) (pv 2) (pv 0)) (aM _)))) (fun _ _ _ _=>(pv 0))) af)) ah (aM _)))))),?_⟩
  refine rQ ?_;intro cQ c7 ez;have wl:=g.len;have cl:g.N.aN.length<=24:=by
   have h1:g.N.aN.length<=(List.range g.N.n).length:=List.length_filter_le ..;rw[List.length_range]at h1;exact Nat.le_trans h1 wl
  have Bl:=bs.len;have rl:=lb.1.len;refine(aq rfl ⟨l,rfl,⟨_,aK.of hl⟩,fun X hX=>bQ (K:=K) (a:=l) (xs:=az B) (fun i acc H1=>au H H1/\H1 X=some (.lst acc)/\acc=((B.take i).map (lenOf ts)).map V.int) ⟨au.new hX,ae,rfl⟩ (fun i acc H1 _ z=>⟨aK.of (z.1 _ _ hl),z.2.1,by rw[z.2.2,List.length_map,List.length_map,List.length_take];lia⟩) (Nat.le_of_lt (dY (by rw[aF];lia))) ?_ ?_⟩)
  ·rintro i x acc H1 hx ⟨s1,So,rfl⟩;obtain⟨r,J8,rfl⟩:=fK hx;refine⟨rfl,aq rfl (aq rfl ⟨wb,p,ts,g,_,r,rfl,rfl,hw.same s1,(bs.ring r (gy J8)).2,fun H2 s2=>⟨s2 _ _ So,(s1.trans s2).put hX,ae,?_⟩⟩)⟩
   rw[take3 J8,List.map_append,List.map_append];rfl
  rintro acc H1 ⟨s1,So,rfl⟩;rw[aF,List.take_length]at So;refine⟨X,_,rfl,aK.of So,by rw[List.length_map];lia,fun Y ns hY pm up=>?_⟩
  obtain⟨n1,n2⟩:=AY lb pw bs pm up;have s2:au H (upd H1 Y (.lst (ns.map V.int))):=s1.trans (au.new hY);have UX:upd H1 Y (.lst (ns.map V.int)) Y=some (.lst (ns.map V.int)):=ae;generalize upd H1 Y (.lst (ns.map V.int))=H2 at s2 UX;have Og:=s2 _ _ Ua;refine(aq rfl (lS rfl (.inl (aK.of UX)) (aq rfl (lS rfl (.inl (aK.of Og)) ⟨rfl,aq rfl (?_)⟩))));rw[cD (show V.int ((ns.map V.int).length:Int)=V.int ((((rs.map (lenOf ts)).map V.int).length:Nat):Int) by rw[List.length_map,List.length_map,List.length_map,n1])]
  refine e8 (aq rfl (lS rfl (.inl (aK.of Og)) (aq rfl ⟨(by rw[List.length_map,List.length_map];lia),(by rw[List.length_map,List.length_map];lia),?_⟩)))
  refine fun D hD=>bN (lo:=0) (m:=(((rs.map (lenOf ts)).map V.int).length:Int).toNat) (fun i acc H3=>au H2 H3/\H3 D=some (.lst acc)/\acc=[]) ⟨au.new hD,ae,rfl⟩ (fun i acc H3 _ z=>⟨z.2.1,by rw[z.2.2];exact Nat.zero_le _⟩) (Nat.le_of_lt (dY (by rw[Int.toNat_natCast,List.length_map,List.length_map];lia))) ?_ ?_
  ·rintro i acc H3 hi ⟨s3,pJ,rfl⟩;rw[Int.zero_add];rw[Int.toNat_natCast,List.length_map,List.length_map]at hi;have hx:(rs.map (lenOf ts))[i]?=some (lenOf ts rs[i]):=by rw[List.getElem?_map,List.getElem?_eq_getElem hi];rfl
   have hy:ns[i]?=some ns[i]:=List.getElem?_eq_getElem (by lia)
   have le:=n2 i _ _ hx hy;refine⟨rfl,aq rfl (aq rfl (iy (aK.of (s3 _ _ Og)) (ai (j:=i) (by rw[List.getElem?_map,hx];rfl)) (aq rfl (aq rfl (iy (aK.of (s3 _ _ UX)) (ai (j:=i) (by rw[List.getElem?_map,hy];rfl)) (bW (aq rfl (mS (fun h=>?_) (fun _=>⟨s3,pJ,rfl⟩)))))))))⟩
   have h:ns[i]<lenOf ts rs[i]:=iG h
   lia
  ·rintro acc H3 ⟨s3,pJ,rfl⟩;refine(lS rfl (.inl (aK.of pJ)) ⟨rfl,?_⟩);exact q H3 (s2.trans s3)
theorem nR:Ok T T.nL 1 LG:=by
 refine T.nL.ok fO fun _ A _ s H vs Q E hr h=>?_
 ·obtain⟨wb,p,ts,g,l,row,rfl,hw,hl,yN,q⟩:=h;refine⟨_,(aj (aC (i:=2) fO.nd rfl (Or.inl rfl) (cW af))
   (aj (dN PassesOwn.never rfl (pL K (pv 1)) (bu 3 fO.nd)
   (aj (tw (aB (bR K) (aB (bR K) (pv 0) ah) (pv 3)) (JB K (n:=3) rfl (aV (bu 4 fO.nd) (aV (bu 5 fO.nd) (aV (bu 6 fO.nd) fU)))))
   (av (c8 (F8 K (kX PySem.F.plainAttrs_list PySem.F.slot_list_append PySem.F.type_list_append cX (pv 2) (aa (aB (iI K) (cW (aa (cH (aa (pv 4) (aa (pv 5) (aa (pv 6) af)))) (aa (cH (aa (pv 5) (aa (pv 4) (aa (pv 6) af)))) af))) (aG cT (pv 3) ah)) af)))))))
   (av (aH (cH (aa (aB (bR K) (pv 0) ah) (aa (cA (C9 K) (by rfl) T.sV PyProof.Rows.boot_tuple (aa (pv 2) af)) af))))))),?_⟩
  refine m9 ?_;intro cQ c7 ez gz;obtain⟨bt,xs,h1,h2,h3⟩:=id hw.ex;have sD:=h3.length;have wl:=g.len;have rl:row.length=ts.length:=by rw[yN.length_eq,List.length_range]
  refine⟨dl rfl,fun D hD=>?_⟩
  have s1:au H (upd H D (.lst [])):=au.new hD;have mX:upd H D (.lst []) D=some (.lst []):=ae;generalize upd H D (.lst [])=H1 at s1 mX;refine(aq rfl ⟨l,rfl,⟨_,aK.of (s1 _ _ hl)⟩,dH (K:=K) (a:=l) (xs:=az row) (fun i σ H2=>∃ ys v3 v4 v5 v6,σ=[some (.ref wb),some (.ref l),some (.ref D),v3,v4,v5,v6]/\au H H2/\H2 D=some (.lst ys)/\Paired (TupAt H2) ys ((row.take i).map (turnT ts))) ⟨[],none,none,none,none,rfl,s1,mX,.nil⟩ (fun i σ H2 _ ⟨_,_,_,_,_,_,z,_⟩=>aK.of (z _ _ hl)) ?_ ?_⟩)
  ·rintro i y D' σ H2 hi ⟨ys,v3,v4,v5,v6,rfl,s2,gx,pr⟩;obtain⟨k,hki,rfl⟩:=fK hi;have hk:k<ts.length:=List.mem_range.mp (yN.mem_iff.mp (gy hki));obtain⟨c,hxc,hct⟩:=kj (g:=g) h3 hk;have yl:=pr.length;rw[List.length_map,List.length_take]at yl;refine(aq rfl (bS (aQ.of (s2 _ _ h1)) (ai (j:=1) rfl) (aq rfl (bS (aQ.of (s2 _ _ h2)) (ai (j:=k) hxc) ⟨c,_,rfl,aQ.of (s2 _ _ hct),rfl,_,_,rfl,_,_,rfl,_,_,rfl,rfl,?_⟩))));refine(aq rfl ⟨.inl ⟨rfl,_,aK.of gx⟩,aq rfl (aq rfl (aq rfl ⟨dl rfl,fun c1 hc1=>?_⟩))⟩)
   have t1:au H2 (upd H2 c1 (.tup [.int ((g.N.a k:Nat):Int),.int ((g.N.b k:Nat):Int),.int (aU ts k).2.2])):=au.new hc1;have Ri:upd H2 c1 (.tup [.int ((g.N.a k:Nat):Int),.int ((g.N.b k:Nat):Int),.int (aU ts k).2.2]) c1=_:=ae;generalize upd H2 c1 (.tup [.int ((g.N.a k:Nat):Int),.int ((g.N.b k:Nat):Int),.int (aU ts k).2.2])=H3 at t1 Ri;refine(aq rfl (aq rfl (aq rfl ⟨dl rfl,fun c2 hc2=>?_⟩)))
   have t2:au H3 (upd H3 c2 (.tup [.int ((g.N.b k:Nat):Int),.int ((g.N.a k:Nat):Int),.int (aU ts k).2.2])):=au.new hc2;have Rj:upd H3 c2 (.tup [.int ((g.N.b k:Nat):Int),.int ((g.N.a k:Nat):Int),.int (aU ts k).2.2]) c2=_:=ae;generalize upd H3 c2 (.tup [.int ((g.N.b k:Nat):Int),.int ((g.N.a k:Nat):Int),.int (aU ts k).2.2])=H4 at t2 Rj;refine⟨dl rfl,fun L hL=>?_⟩
   have t3:au H4 (upd H4 L (.lst [.ref c1,.ref c2])):=au.new hL;have JO:upd H4 L (.lst [.ref c1,.ref c2]) L=some (.lst [.ref c1,.ref c2]):=ae;generalize upd H4 L (.lst [.ref c1,.ref c2])=H5 at t3 JO;have UY:=(t1.trans t2).trans t3;have Jd:=UY _ _ gx;obtain⟨e,ee,te⟩:∃ e,D8 [V.ref c1,.ref c2] ((k:Int)%2)=some (V.ref e)/\TupAt H5 (.ref e) (turnT ts k):=by
    have na:=zA (g:=g) hk;have nb:=zB (g:=g) hk;unfold turnT
    by_cases h0:k%2=0
    ·rw[if_pos h0,show((k:Int)%2)=((0:Nat):Int) by lia]
     refine⟨c1,ai (j:=0) rfl,c1,rfl,?_⟩;rw[(t2.trans t3) _ _ Ri];unfold Eg;rw[na,nb]
    ·rw[if_neg h0,show((k:Int)%2)=((1:Nat):Int) by lia]
     refine⟨c2,ai (j:=1) rfl,c2,rfl,?_⟩;rw[t3 _ _ Rj];unfold Eg;dsimp only;rw[na,nb]
   refine(aq rfl (bW ⟨(mT rfl),iy (aK.of JO) (ee) ⟨D,_,_,rfl,rfl,Jd,dY (by lia),?_⟩⟩))
   refine⟨ys++[.ref e],_,_,_,_,rfl,(s2.trans UY).put hD,ae,?_⟩;rw[take3 hki,List.map_append,List.map_singleton];exact Paired.snoc (Paired.imp' (fun _ _ z=>TupAt.tups (UY.tups.trans (dz.put Jd)) z) pr) (TupAt.tups (dz.put Jd) te)
  ·rintro σ H2 ⟨ys,v3,v4,v5,v6,rfl,s2,gx,pr⟩;rw[aF,List.take_length]at pr;have yl:=pr.length;rw[List.length_map]at yl;refine(aq rfl (bS (aQ.of (s2 _ _ h1)) (ai (j:=0) rfl) (aq rfl ⟨D,_,rfl,.inl ⟨aK.of gx,fun b hb=>?_⟩⟩)))
   refine⟨dl rfl,fun w' Rh=>?_⟩
   have s3:au H2 (upd H2 b (.tup ys)):=au.new hb;have s4:au (upd H2 b (.tup ys)) (upd (upd H2 b (.tup ys)) w' (.tup [.int (p:Int),.ref b])):=au.new Rh;exact q w' _ ((s2.trans s3).trans s4) ⟨b,ys,ae,s4 _ _ ae,Paired.imp' (fun _ _ z=>TupAt.tups (s3.trans s4).tups z) pr⟩
theorem rE{K:bX}{H:Hp}:∀ l:List Int,DatVs K H (l.map V.int) (l.map PyData.int)
 | []=>.nil
 | x::r=>.cons (.int x) (rE r)
theorem lay_ints:∀ l:List Int,PyData.canLayAll0 (l.map PyData.int)=true
 | []=>rfl
 | x::r=>by
   have ih:=lay_ints r;have e:(PyData.int x).canLay0=true:=by simp[PyData.canLay0]
   simp only[List.map_cons,PyData.canLayAll0,ih,Bool.and_true,e]
theorem xF:∀ l:List Int,PyData.depthAll (l.map PyData.int)=0
 | []=>rfl
 | x::r=>by
   show max (PyData.depth (PyData.int x)) (PyData.depthAll (r.map PyData.int))=0;rw[xF r];rfl
theorem shaped_ints(l:List Int):SeqAt.shaped (.list (l.map PyData.int))=true:=by
 unfold SeqAt.shaped;have e:(PyData.list (l.map PyData.int)).canLay0=PyData.canLayAll0 (l.map PyData.int):=by simp[PyData.canLay0]
 rw[e,lay_ints,Bool.true_and];refine cD ?_;have e2:PyData.depth (PyData.list (l.map PyData.int))=PyData.depthAll (l.map PyData.int)+1:=by simp[PyData.depth]
 rw[e2,xF]
 lia
theorem Jw(l:List Int):(PyData.list (l.map PyData.int)).canLay0=true:=by
 have e:(PyData.list (l.map PyData.int)).canLay0=PyData.canLayAll0 (l.map PyData.int):=by simp[PyData.canLay0]
 rw[e,lay_ints]
theorem F1{p:Nat}{ts:List c9}{row rs rs' : List Nat}(g:aA p ts)(hr:row.Perm (List.range ts.length))(g' : aA p (anew ts row))(lb:RM.LB g.N (bj ts) rs)(pw:rs.Pairwise (ng ts))
 (lb' : RM.LB g'.N (bj (anew ts row)) rs') (R5:rs'.Pairwise (ng (anew ts row))):rs'.map (lenOf (anew ts row))=rs.map (lenOf ts):=by
 have iso:=IG g hr g';have al:(anew ts row).length=ts.length:=iso.n;have e' : ∀ r,r<2^ts.length->RM.len g'.N (bj (anew ts row)) r=lenOf (anew ts row) r:=fun r hr=>kW (by rw[al];exact hr)
 have el:∀ r,r<2^ts.length->lenOf (anew ts row) (RM.cM ts.length (fun i=>row.getD i 0) r)=lenOf ts r:=fun r h=>EX hr h
 obtain⟨a1,a2⟩:=iso.place lb lb' e' el (l7 pw) (l7 R5);have eb:∀ r,r<2^(anew ts row).length->lenOf ts (RM.cM (anew ts row).length (fun k=>row.idxOf k) r)=lenOf (anew ts row) r:=fun r h=>by
  rw[al]at h ⊢;rw[<-el _ (RM.sS _ _ _)]
  congr 1
  have:=iso.symm.back (m:=r) (by rw[iso.n];exact h)
  rw[iso.n]at this;exact this
 obtain⟨b1,b2⟩:=iso.symm.place lb' lb (fun r hr=>kW (by rw[<-al];exact hr)) eb (l7 R5) (l7 pw)
 refine List.ext_getElem (by rw[List.length_map,List.length_map];lia) fun i x y=>?_
 rw[List.length_map]at x y;rw[List.getElem_map,List.getElem_map];exact Int.le_antisymm (a2 i _ _ (List.getElem?_eq_getElem x) (List.getElem?_eq_getElem y)) (b2 i _ _ (List.getElem?_eq_getElem y) (List.getElem?_eq_getElem x))
def yQ(K:bX)(tb:rZ):Sp:=fun vs H Q _=>∃(a:Addr) (ns:List Int),vs=[.ref a]/\aK K H a (ns.map V.int)/\ns.length<=63/\TabsAt tb H/\∀ H',Q (.bl true) H'
theorem Rk:Ok T T.Mj 12 (yQ K [(a.ic,r6 "by_length",gm),(a.dc,r6 "least_ways",cU)]):=by
 have rC:=rC T;have dJ:=dJ T;have bK:=bK T;have ik:=ik T;have gw:=gw T;have iF:=iF T;have dS:=dS T;have nR:=nR T;have rA:=rA T;have mR:=mR T;refine T.Mj.ok kI fun _ A _ s H vs Q E hr h=>?_
 ·obtain⟨b,ns,rfl,hS,hn,hT,fin⟩:=h;have Ls:=hT _ List.mem_cons_self;have Lr:=hT _ (jY _ List.mem_cons_self);refine⟨_,(aj (aC (i:=1) kI.nd rfl (Or.inr rfl) (aI rC hr T.qY.c aO (aa (pv 0) (aa ah (aa ah af)))))
   (aj (aC (i:=2) kI.nd rfl (Or.inl rfl) (aG jf (aI dJ hr T.h8.c aO (aa (pv 0) (aa ah af))) ah))
   (aj (aC (i:=3) kI.nd rfl (Or.inl rfl) (bL K T.cz (aa (aB (bR K) (pv 1) ah) af)))
   (aj (aC (i:=4) kI.nd rfl (Or.inl rfl) (aI mR hr T.mQ.c aO (aa (pv 1) af)))
   (aj (g7 (i:=5) kI.nd rfl rfl (own:=["pair"]) (fq:=[]) (js:=[]) (aD (ak Aw) ["script","web","head","many","least","by_length_v","order","rings","others"]) rfl (pL K (dm (IC K) (by rfl) T.u9 PyProof.Rows.boot_sorted (aa (bM (own:=["k"]) (fq:=["web"]) (js:=[1]) (aD (ak Aw) ["script","web","head","many","least","by_length_v","order","rings","others"]) rfl (aX (by rfl) T.bO (aa (pv 3) af)) (fun _ _ _ _=>(bu 0 (k7 ["k","web"]))) (fun _ _ _ _=>bT) (fun _ _ _ _=>(cH (aa (aB (bR K) (aB (bR K) (aB (bR K) (pv 1) ah) (pv 0)) ah) (aa (pv 0) af))))) af))) (fun _ _ _ _=>(bu 0 (k7 ["pair"]))) (fun _ _ _ _=>bT) (fun _ _ _ _=>(aB (bR K) (pv 0) ah)))
   (aj (dN PassesOwn.never rfl (pL K (cW (aa (aI ik hr T.ig.c aO (aa (pv 2) (aa (pv 3) af))) (aa (aI ik hr T.ig.c aO (aa (aI bK hr T.eF.c aO (aa (pv 2) (aa ah af))) (aa (pv 3) af))) (aa (pv 5) af))))) (bu 6 kI.nd)
   (aj (aC (i:=7) kI.nd rfl (Or.inl rfl) (aI gw hr T.gv.c aO (aa (pv 1) (aa (pv 6) af))))
   (aj (aC (i:=8) kI.nd rfl (Or.inl rfl) (aI iF hr T.iD.c aO (aa (pv 1) (aa (pv 7) (aa (aG jf (pv 2) ah) af)))))
   (aj (cG (PW.pt (vY (pP (fT (aI dS hr T.dR.c aO (aa (pv 1) (aa (pv 7) (aa (pv 4) af)))))) (pO (pP (fT (aI dS hr T.dR.c aO (aa (pv 1) (aa (pv 8) (aa (pv 4) af))))))))) (av (aH nX)) bh)
   (av (cG (aL M3 (aI rA hr T.qW.c aO (aa (pv 1) (aa (pv 8) af))) nX (aM _)) (av (aH nX)) bh))))))
   (av (aH (cV (Bp K hr.units) (aI mR hr T.mQ.c aO (aa (aI nR hr T.nL.c aO (aa (pv 1) (aa (aI ik hr T.ig.c aO (aa (aG jf (pv 2) ah) (aa (pv 3) af))) af))) af)) (pv 4) (aM _)))))))))),?_⟩
  refine NU ?_;intro cQ c7 ez gz iz oZ uO DM DN DO uU r9;refine(aq rfl ⟨b,ns,12,6,rfl,hS,hn,by decide,fun wb p ts H1 s1 g p2 p6 ZH hw=>?_⟩)
  have WC:=s1 _ _ Lr;have htb:=s1 _ _ Ls;obtain⟨bt,xs,h1,h2,h3⟩:=id hw.ex;have sD:=h3.length;refine(aq rfl ⟨b,ns,0,rfl,(by decide),s1.seq hS,fun z0=>(bW ⟨⟨by decide,by decide⟩,?_⟩)⟩)
  refine(aq rfl (bS (aQ.of h1) (ai (j:=1) rfl) (lS rfl (.inr (aQ.of h2)) (?_))));refine(aq rfl ⟨wb,p,ts,g,rfl,hw,WC,htb,fun D rs H2 hD s2 gx lb pw lr=>?_⟩)
  have wl:ts.length<=12:=ZH;refine(aq rfl (aq rfl ⟨(by lia),(by lia),fun X hX=>bN (lo:=0) (m:=(xs.length:Int).toNat) (fun i acc H3=>au H2 H3/\H3 X=some (.lst acc)/\∃ ps:List (Addr×Int×Int),acc=(ps.map fun q=>V.ref q.1)/\(∀ q∈ps,H3 q.1=some (.tup [.int q.2.1,.int q.2.2]))/\ps.map (·.2.2)=(List.range i).map fun k=>((k:Nat):Int)) ⟨au.new hX,ae,[],rfl,(fun q hq=>nomatch hq),rfl⟩ (fun i acc H3 _ z=>⟨z.2.1,?_⟩) (Nat.le_of_lt (dY (by lia))) ?_ ?_⟩))
  ·obtain⟨ps,e1,_,e2⟩:=z.2.2;have:=congrArg List.length e2;rw[List.length_map,List.length_map,List.length_range]at this;rw[e1,List.length_map]
   lia
  ·rintro i acc H3 hi ⟨s3,A6,ps,rfl,OU,Oh⟩;rw[Int.zero_add];rw[Int.toNat_natCast]at hi;obtain⟨c,hxc,hct⟩:=kj (g:=g) h3 (show i<ts.length by lia)
   have pM:=s2.trans s3;refine⟨rfl,aq rfl (bS (aQ.of (pM _ _ h1)) (ai (j:=1) rfl) (aq rfl (bS (aQ.of (pM _ _ h2)) (ai (j:=i) hxc) (bS (aQ.of (pM _ _ hct)) (ai (j:=2) rfl) (aq rfl ⟨dl rfl,fun e he=>?_⟩)))))⟩
   have t:au H3 (upd H3 e (.tup [.int (aU ts i).2.2,.int (i:Int)])):=au.new he;have Q9:=t _ _ A6;have ZI:e≠X:=fun z=>by rw[z,A6]at he;cases he
   have pX:∀ q∈ps,q.1≠X:=fun q hq z=>by
    have:=OU q hq;rw[z,A6]at this;cases this
   refine⟨Q9,(s3.trans t).put hX,ae,ps++[(e,(aU ts i).2.2,(i:Int))],by rw[List.map_append];rfl,fun q hq=>?_,?_⟩
   ·rcases List.mem_append.mp hq with z|z
    ·rw[ao (pX q z)];exact t _ _ (OU q z)
    ·rw[List.mem_singleton.mp z,ao ZI];exact ae
   ·rw[List.map_append,Oh,List.range_succ,List.map_append];rfl
  rintro acc H3 ⟨s3,A6,ps,rfl,OU,Oh⟩;rw[Int.toNat_natCast]at Oh;have pl:ps.length=xs.length:=by
   have:=congrArg List.length Oh
   rwa [List.length_map,List.length_map,List.length_range]at this
  have UZ:∀ q∈ps,Lg q.2:=fun q hq=>by
   have:q.2.2∈ps.map (·.2.2):=List.mem_map.mpr ⟨q,hq,rfl⟩;rw[Oh]at this;obtain⟨k,hk,e⟩:=List.mem_map.mp this;have:=List.mem_range.mp hk;unfold Lg
   lia
  refine⟨X,ps,rfl,aK.of A6,OU,UZ,by lia,fun Z ps' hZ pm _=>?_⟩
  have s4:au H3 (upd H3 Z (.lst (ps'.map fun q=>V.ref q.1))):=au.new hZ
  have Sq:upd H3 Z (.lst (ps'.map fun q=>V.ref q.1)) Z=some (.lst (ps'.map fun q=>V.ref q.1)):=ae
  generalize upd H3 Z (.lst (ps'.map fun q=>V.ref q.1))=H4 at s4 Sq
  have ZJ:=pm.length_eq;refine⟨Z,rfl,⟨_,aK.of Sq⟩,fun Y hY=>bQ (K:=K) (a:=Z) (xs:=ps'.map fun q=>V.ref q.1) (fun i acc H5=>au H4 H5/\H5 Y=some (.lst acc)/\acc=az ((ps'.take i).map fun q=>q.2.2.toNat)) ⟨au.new hY,ae,rfl⟩ (fun i acc H5 _ z=>⟨aK.of (z.1 _ _ Sq),z.2.1,by rw[z.2.2,aF,List.length_map,List.length_take];lia⟩) (Nat.le_of_lt (dY (by rw[List.length_map];lia))) ?_ ?_⟩
  ·rintro i x acc H5 hx ⟨s5,Rl,rfl⟩;rw[List.getElem?_map]at hx;obtain⟨q,hq,rfl⟩:=vn.mp hx;have hm:=pm.mem_iff.mp (gy hq);have ok:=(UZ q hm).1;refine⟨rfl,aq rfl (bS (aQ.of ((s4.trans s5) _ _ (OU q hm))) (ai (j:=1) rfl) ⟨Rl,s5.put hY,ae,?_⟩)⟩;rw[take3 hq,List.map_append,List.map_singleton,dX,show((q.2.2.toNat:Nat):Int)=q.2.2 by lia]
  rintro acc H5 ⟨s5,Rl,rfl⟩;rw[List.length_map,List.take_length]at Rl;have yp:(ps'.map fun q=>q.2.2.toNat).Perm (List.range ts.length):=by
   have e:ps.map (fun q=>q.2.2.toNat)=List.range ts.length:=by
    have:ps.map (fun q=>q.2.2.toNat)=(ps.map (·.2.2)).map Int.toNat:=by rw[List.map_map];rfl
    rw[this,Oh,List.map_map,sD];exact(List.map_congr_left fun x _=>Int.toNat_natCast x).trans (List.map_id _)
   rw[<-e];exact pm.map _
  generalize (ps'.map fun q=>q.2.2.toNat)=ys at Rl yp
  have WD:=(s3.trans s4).trans s5;have R8:=s2.trans WD;have Jd:=WD _ _ gx;clear OU pm UZ Oh pl ZJ Sq A6;refine(aq rfl (aq rfl ⟨_,xs.length,rfl,by lia,fun O1 o1 H6 s6 ZK p1=>?_⟩))
  refine(aq rfl ⟨_,1,rfl,(by decide),(by decide),fun z1 _ _=>(aq rfl ⟨_,xs.length,rfl,by lia,fun O2 o2 H7 s7 ZL q2=>(aq rfl ⟨dl rfl,fun LL ZM=>?_⟩)⟩)⟩)
  have s8:au H7 (upd H7 LL (.lst [.ref O1,.ref O2,.ref Y])):=au.new ZM;have U0:upd H7 LL (.lst [.ref O1,.ref O2,.ref Y]) LL=some (.lst [.ref O1,.ref O2,.ref Y]):=ae;generalize upd H7 LL (.lst [.ref O1,.ref O2,.ref Y])=H8 at s8 U0;have U1:=(s6.trans s7).trans s8;have WE:=R8.trans U1;have RJ:=U1 _ _ Jd;rw[sD]at p1 q2;have U3:∀(i:Nat) y,([.ref O1,.ref O2,.ref Y]:List V)[i]?=some y->∃ o ks,y = .ref o/\H8 o=some (.lst (az ks))/\ks.Perm (List.range ts.length):=fun i y hy=>by
   match i,hy with
   | 0,hy=>exact⟨O1,o1,(Option.some.inj hy).symm,(s7.trans s8) _ _ ZK,p1⟩
   | 1,hy=>exact⟨O2,o2,(Option.some.inj hy).symm,s8 _ _ ZL,q2⟩
   | 2,hy=>exact⟨Y,ys,(Option.some.inj hy).symm,U1 _ _ Rl,yp⟩
  refine⟨LL,rfl,⟨_,aK.of U0⟩,dH (K:=K) (a:=LL) (xs:=[.ref O1,.ref O2,.ref Y]) (fun i σ H9=>∃ v6 v7 v8,σ=[some (.ref b),some (.ref wb),some (.int (z0/30)),some (.int (xs.length:Int)),some (.ref D),some (.ref Y),v6,v7,v8]/\au H8 H9) ⟨none,none,none,rfl,au.refl _⟩ (fun i σ H9 _ ⟨_,_,_,_,z⟩=>aK.of (z _ _ U0)) ?_ ?_⟩
  ·rintro i y D' σ H9 hi ⟨v6,v7,v8,rfl,s9⟩;obtain⟨o,ks,rfl,ho,pk⟩:=U3 i y hi;have Ss:=WE.trans s9;refine(aq rfl (aq rfl ⟨wb,p,ts,g,o,ks,rfl,hw.same Ss,s9 _ _ ho,pk,fun R1 r1 ON JM WG b1=>?_⟩))
   have Rm:=Ss.trans JM;refine(aq rfl (aq rfl (aq rfl (bW ⟨⟨by decide,by decide⟩,wb,p,ts,g,R1,r1,_,rfl,hw.same Rm,WG,b1,fun R2 r2 ZN Jm Mq b2=>?_⟩))))
   have Rn:=Rm.trans Jm;have Ro:=((s9.trans JM).trans Jm) _ _ RJ;refine(aq rfl (aq rfl (aq rfl ⟨wb,p,ts,g,R1,D,r1,rs,rfl,hw.same Rn,Jm _ _ WG,b1,Ro,lb,pw,fun ZO s12=>(aq rfl (e8 ?_))⟩)))
   have WH:=Rn.trans s12;refine(aq rfl (aq rfl (aq rfl ⟨wb,p,ts,g,R2,D,r2,rs,rfl,hw.same WH,s12 _ _ Mq,b2,s12 _ _ Ro,lb,pw,fun H13 pM=>(aq rfl (e8 ?_))⟩)))
   have ZP:=WH.trans pM;have r2l:r2.length<=24:=by
    have h1:g.N.aN.length<=(List.range g.N.n).length:=List.length_filter_le ..;rw[List.length_range,<-b2.len]at h1;have h2:g.N.n=ts.length:=rfl
    lia
   refine(aq rfl (aq rfl ⟨wb,p,ts,g,R2,r2.map (fun x=>((x:Nat):Int)),rfl,hw.same ZP,by rw[<-ki];exact(s12.trans pM) _ _ Mq,by rw[List.length_map];lia,fun H14 d ZQ hd=>?_⟩))
   rw[hd.mpr ⟨r2,rfl,b2⟩];exact⟨true,true,rfl,rfl,aq rfl (e8 ⟨_,_,_,rfl,((((s9.trans JM).trans Jm).trans s12).trans pM).trans ZQ⟩)⟩
  ·rintro σ H9 ⟨v6,v7,v8,rfl,s9⟩;have Ss:=WE.trans s9;refine(aq rfl (aq rfl (bW ⟨⟨by decide,by decide⟩,aq rfl ⟨_,xs.length,rfl,by lia,fun O o ON JM hO po=>?_⟩⟩)))
   rw[sD]at po;have Rm:=Ss.trans JM;have g':=EW g po;refine⟨wb,p,ts,g,O,o,rfl,hw.same Rm,hO,po,fun w' ZN Jm Rh=>?_⟩
   have Rn:=Rm.trans Jm;refine⟨w',p,anew ts o,g',rfl,Rh,Rn _ _ WC,Rn _ _ htb,fun D2 Zp ZO gx s12 Rp ZR ZS lr2=>?_⟩
   rw[F1 g po g' lb pw ZR ZS]at Rp;have U4:=(((s9.trans JM).trans Jm).trans s12) _ _ RJ;refine(aq rfl ⟨_,_,.lst (aK.of Rp) (rE _),.lst (aK.of U4) (rE _),shaped_ints _,shaped_ints _,?_⟩);rw[SeqAt.eqv_refl _ (Jw _)];exact fin _
end
section
variable {l:PySem.W.OpenLaw}{w:World}{K:bX}{h:Heap}{mg:mZ}{fa f0 f1 f2 f3 f4 f5 f6 f7 f8 f9 WI WJ WK WL WM WN WO WQ WR WS WT WU WV WW WX WY WZ W0 W2 W3 W4 W5 f32 W6 W9 Xa Xb Xc Xd Xe Xf Xg Xh Xi Xj Xk Xl Xm Xn Xo Xp Xq Xr Xs ZT vj vm rF pH eU nh dM:Addr}{d0 d1 d2 d3 d4 d5 d6 d7 d8 d9 ZU ZV ZW ZX ZY ZZ Z0 Z1 Z2 Z3 Z4 Z5 Z6 Z7 Z8 Z9 d26 d27 d28 d29 d30 d31 d32 d33 d34 d35 d36 d37 d38 d39 d40 d41 d42 d43 d44 d45 d46 d47 d48 d49 d50 d51 d52 d53 d54:FuncData}{ts:List Addr}
open PySem.W
theorem all_mk(X:K.In h)(G:h.Ns mainGlobals mg)(hfa:mg "law"=some (.ref fa))(te:ts=[dM,eU])
 (d_BadSet:nsIn K mainGlobals "BadSet"=some (some (.ref vj)))
 (d_BadPoint:nsIn K mainGlobals "BadPoint"=some (some (.ref vm)))
 (d_NoChord:nsIn K mainGlobals "NoChord"=some (some (.ref rF)))
 (xc_BadSet:excIn K vj [.type "ValueError",.type "Exception",.type "BaseException",.type "object"] "ValueError.__new__"=true)
 (xc_NoChord:excIn K rF [.type "ValueError",.type "Exception",.type "BaseException",.type "object"] "ValueError.__new__"=true)
 (nt:noTabs K=true) (pn:([eU,dM]:List Addr).Nodup) (pi:∀ p∈([eU,dM]:List Addr),p∈ts)
 (a0:Dk K "has_tie" qu f0 d0)
 (a1:Dk K "ties_in" mG f1 d1)
 (a2:Dk K "set_of" uM f2 d2)
 (a3:Dk K "all_ties" nC f3 d3)
 (a4:Dk K "is_set" uN f4 d4)
 (a5:Dk K "check_set" lT f5 d5)
 (a6:Dk K "triples_in" iL f6 d6)
 (a7:Dk K "length_of" jq f7 d7)
 (a8:Dk K "odd_points" iM f8 d8)
 (a9:Dk K "drawn_together" eK f9 d9)
 (Uq:Dk K "pieces" oY WI ZU)
 (Ur:Dk K "rank" B5 WJ ZV)
 (Us:Dk K "is_even" qv WK ZW)
 (a13:Dk K "forest_trails" fu WL ZX)
 (a14:Dk K "forest" uP WM ZY)
 (a15:Dk K "chords" uQ WN ZZ)
 (a16:Dk K "ring_closed" jA WO Z0)
 (a17:Dk K "chord_ring" kr WQ Z1)
 (a18:Dk K "is_ring" mK WR Z2)
 (a19:Dk K "is_ring_number" gH WS Z3)
 (Xu:NS K "by_length" jt WT Z4 pH eU)
 (a21:Dk K "common" uS WU Z5)
 (a22:Dk K "bears_oddly" jB WV Z6)
 (a23:Dk K "is_side" qx WW Z7)
 (a24:Dk K "cut_of" o5 WX Z8)
 (a25:Dk K "side_of" mL WY Z9)
 (a26:Dk K "steps_by_point" eM WZ d26)
 (Xv:NS K "least_ways" gn W0 d27 nh dM)
 (a28:Dk K "length_of_way" iA W2 d28)
 (a29:Dk K "worths_of_ways" eN W3 d29)
 (a30:Dk K "all_least_ways" eO W4 d30)
 (a31:Dk K "worths_of_all" fB W5 d31)
 (a32:Dk K "least_odd" ju f32 d32)
 (a33:Dk K "reduced" qA W6 d33)
 (a34:Dk K "with_row" nE W9 d34)
 (a35:Dk K "rows_of" qB Xa d35)
 (a36:Dk K "is_base" mO Xb d36)
 (a37:Dk K "least_rings" fh Xc d37)
 (a38:Dk K "lengths" mP Xd d38)
 (a39:Dk K "_law_cell_at" jC Xe d39)
 (a40:Dk K "_law_mixed" lW Xf d40)
 (a41:Dk K "_law_length" kD Xg d41)
 (a42:Dk K "_law_tie" qC Xh d42)
 (a43:Dk K "_law_web" gM Xi d43)
 (a44:Dk K "_law_counts" kF Xj d44)
 (a45:Dk K "_law_pieces" gp Xk d45)
 (a46:Dk K "_law_ring" ja Xl d46)
 (a47:Dk K "_law_long" kG Xm d47)
 (a48:Dk K "_law_way" qD Xn d48)
 (a49:Dk K "_law_chord_rings" gq Xo d49)
 (a50:Dk K "_law_order" lX Xp d50)
 (a51:Dk K "_law_exchanged" iB Xq d51)
 (a52:Dk K "_law_not_shorter" cO Xr d52)
 (a53:Dk K "_law_anew" nG Xs d53)
 (U5:Dk K "law" Aw ZT d54)
 (yR:Ng K "ValueError")
 (Rq:Ng K "all")
 (Oi:Ng K "bool")
 (AZ:Ng K "enumerate")
 (Rr:Ng K "int")
 (yS:Ng K "isinstance")
 (Rt:Ng K "len")
 (Oj:Ng K "list")
 (Ru:Ng K "max")
 (Rv:Ng K "min")
 (LH:Ng K "range")
 (Rx:Ng K "set")
 (Jx:Ng K "sorted")
 (Ry:Ng K "sum")
 (LI:Ng K "tuple")
 (Rz:Ng K "zip")
 : ∃(fd:FuncData) (tb:rZ),((tb.map (·.1)).Nodup/\noTabs K=true/\∀ p∈tb,p.1∈ts/\∃ c,codeHdIn K c p.1=true)/\(∀(s:Shared) (v:Value),BindsTo s fd ⟨[v],[]⟩ [("script",v)])/\∀ base:Heap,K.In base->base.Ns mainGlobals mg->lz l.prog w K mg base C5 12 fa fd ["script"] (yQ K tb):=by
 have e:=hfa.symm.trans (mg_of X G U5.n);cases e;have T:∀ base,Txt l.prog w base K mg ⟨f0,_,f1,_,f2,_,f3,_,f4,_,f5,_,f6,_,f7,_,f8,_,f9,_,WI,_,WJ,_,WK,_,WL,_,WM,_,WN,_,WO,_,WQ,_,WR,_,WS,_,WT,_,WU,_,WV,_,WW,_,WX,_,WY,_,WZ,_,W0,_,W2,_,W3,_,W4,_,W5,_,f32,_,W6,_,W9,_,Xa,_,Xb,_,Xc,_,Xd,_,Xe,_,Xf,_,Xg,_,Xh,_,Xi,_,Xj,_,Xk,_,Xl,_,Xm,_,Xn,_,Xo,_,Xp,_,Xq,_,Xr,_,Xs,_,fa,_,vj,vm,rF,pH,eU,nh,dM⟩:=fun _=>⟨mY X G a0,EY X G a1,mY X G a2,EY X G a3,mY X G a4,mY X G a5,mY X G a6,mY X G a7,mY X G a8,OD X G a9,mY X G Uq,EY X G Ur,mY X G Us,EY X G a13,EY X G a14,EY X G a15,OD X G a16,mY X G a17,mY X G a18,mY X G a19,YJ X G Xu,mY X G a21,mY X G a22,mY X G a23,mY X G a24,mY X G a25,mY X G a26,YK X G Xv,EY X G a28,EY X G a29,mY X G a30,EY X G a31,mY X G a32,mY X G a33,mY X G a34,EY X G a35,mY X G a36,EY X G a37,EY X G a38,mY X G a39,mY X G a40,mY X G a41,OD X G a42,OD X G a43,mY X G a44,mY X G a45,mY X G a46,mY X G a47,YI X G a48,mY X G a49,mY X G a50,OD X G a51,OD X G a52,mY X G a53,EY X G U5,mg_none_of X G yR.n,mg_none_of X G Rq.n,mg_none_of X G Oi.n,mg_none_of X G AZ.n,mg_none_of X G Rr.n,mg_none_of X G yS.n,mg_none_of X G Rt.n,mg_none_of X G Oj.n,mg_none_of X G Ru.n,mg_none_of X G Rv.n,mg_none_of X G LH.n,mg_none_of X G Rx.n,mg_none_of X G Jx.n,mg_none_of X G Ry.n,mg_none_of X G LI.n,mg_none_of X G Rz.n,mg_of X G d_BadSet,mg_of X G d_BadPoint,mg_of X G d_NoChord,fun h1 X1 G1=>GP X1 G1 d_BadSet xc_BadSet,fun h1 X1 G1=>GP X1 G1 d_NoChord xc_NoChord⟩
 exact⟨_,[(eU,r6 "by_length",gm),(dM,r6 "least_ways",cU)],⟨pn,nt,fun p hp=>⟨pi _ (List.mem_map_of_mem (f:=(·.1)) hp),by simp only[List.mem_cons,List.not_mem_nil,or_false]at hp;rcases hp with rfl | rfl;all_goals first | exact⟨_,Xu.F.hd⟩ | exact⟨_,Xv.F.hd⟩⟩⟩,NT U5,fun base _ _=>Rk (T base)⟩
end
theorem walk{l:PySem.W.OpenLaw}{q:Program}{loose:List Str}{XP:(Str->Option Value)->Heap->Prop}{YP:World->Heap->Prop}{d:DefRec}{K:Params->bX}{ts:List Addr}(hn:l.most=some 63)(LR:d.params.defaults=[])
 (hY:∀(w:World) (h:Heap),YP w h->(K w.params).In h/\∀ P∈ts,h.get? P=some (PySem.W.tabObj #[]))
 (F:∀(w:World) (mg:mZ) (fa:Addr) (h:Heap),(K w.params).In h->h.Ns mainGlobals mg->mg d.name=some (.ref fa)->
  ∃(fd:FuncData) (tb:rZ),((tb.map (·.1)).Nodup/\PySem.W.noTabs (K w.params)=true/\∀ p∈tb,p.1∈ts/\∃ c,PySem.W.codeHdIn (K w.params) c p.1=true)/\(∀(s:Shared) (u:Value),BindsTo s fd ⟨[u],[]⟩ [("script",u)])/\∀ base:Heap,(K w.params).In base->base.Ns mainGlobals mg->lz l.prog w (K w.params) mg base C5 12 fa fd ["script"] (yQ (K w.params) tb)) :
 PySem.W.WalkO q loose XP YP l.row.toRowW d [] (fun f vs=>PySem.call f vs) :=
 L2.Im (n:=63) (k:=12) (x:="script") (CX:=fun _=>C5) (sp:=fun w=>yQ (K w.params)) hn (by decide) LR ⟨rfl,by decide,by decide⟩ hY F (fun _ _ a ns tb hl hT hS=>⟨a,ns,rfl,hS,hl,hT,fun _=>rfl⟩) fun _ _ _ _ _ z=>z
end K32
namespace PySem.W.Fast
def tw16376058906984514497:=()
def tw17709612832822590836:=()
def tw17683119101276821809:=()
def tw18344213343361851288:=()
def tw6881865924148738265:=()
def tw13414093309692423929:=()
def tw10873765617858210844:=()
def tw2014671888991884648:=()
def tw9442367179580231977:=()
def tw16651781099791375851:=()
def tw4654476707996865280:=()
def tw9179758639071861586:=()
def tw11821134419192442332:=()
def tw13527559480376348152:=()
def tw9797789490289946675:=()
def tw12723727560935912215:=()
def tw6726746789249798414:=()
def tw11016161423802465933:=()
def tw16012726688691388011:=()
def tw8221873292425822074:=()
def tw13358680636609040265:=()
def tw10356275369144506032:=()
def tw896931091828802165:=()
def tw17903839837047226477:=()
def tw16086532331146862036:=()
def tw4404891106864661292:=()
def tw7865833280620103434:=()
def tw2966547195711329417:=()
def tw15253646285355960399:=()
def tw2023486879920654853:=()
def tw4315753556479636951:=()
def tw4092946958030434795:=()
def tw4601197434444917295:=()
def tw12156891584104429963:=()
def tw1626404660037255902:=()
def tw15593288717099151691:=()
def tw12869922512554642775:=()
def tw7302996326424479318:=()
def tw5385071704039114447:=()
def tw18426199063577022403:=()
def tw2011323978479973375:=()
def tw1305954591200331625:=()
def tw10541206390271806479:=()
def tw669458099940606013:=()
def tw5794902091114098457:=()
def tw12451110813847575260:=()
def tw14606111943508523342:=()
def tw16596236572905789465:=()
def tw17057776248276643032:=()
def tw459477679610264113:=()
def tw17176740348086931779:=()
def tw9487065136798888282:=()
def tw17245820910878480404:=()
def tw5244884352838321908:=()
def tw15565454685029048249:=()
def tw10282389551916643019:=()
def tw15372370802032393802:=()
def tw5699843175361138558:=()
def tw15040718441872831990:=()
def tw15287428713879572112:=()
def tw14034142980232231181:=()
def tw7792421341893242973:=()
def tw17794324991237719003:=()
def tw2822562325132898989:=()
def tw13656430553996557356:=()
def tw8340921635614100086:=()
def tw16911810456512121890:=()
def tw15345827854735531623:=()
def tw13248568738331756278:=()
def tw2108441209163314507:=()
def tw13192555661761050880:=()
def tw15691537642327095793:=()
def tw16980747288774618385:=()
def tw10923468195633555445:=()
def tw3981500065123490510:=()
def tw11946921383067485905:=()
def tw8339630264820302867:=()
def tw11249673273203749546:=()
def tw15910451426611425719:=()
def tw17585767285097272814:=()
def tw9462237590703700812:=()
def tw1546620983680946287:=()
def tw4883470495766192675:=()
def tw2428570771237481674:=()
def tw11269722599464920828:=()
def tw891112738016210551:=()
def tw5977718987220939400:=()
def tw10573549652049361894:=()
def tw779654964737961579:=()
def tw5432085105811584239:=()
def tw14807694552144342201:=()
def tw12130532580664491869:=()
end PySem.W.Fast
open PySem PySem.W PyProof.Rows
set_option maxRecDepth 100000 in
set_option maxHeartbeats 0 in
theorem PySem.Challenge.cw_ringbase_k32_whole_no_base_is_shorter_holds : PySem.Challenge.rw_ringbase_k32_whole_no_base_is_shorter.Holds := by
 w_on;o_law;k_head;(case hw=>w_witness2)
 k_fill
 refine K32.walk (l:=PySem.Challenge.rw_ringbase_k32_whole_no_base_is_shorter) rfl rfl (fun w h Y=>⟨PySem.W.km_in_of Y,PySem.W.km_tabs_of Y⟩) ?F
 case F =>
  intro w mg fa h KX G hmg;refine' K32.all_mk KX G hmg ?te ?d_BadSet ?d_BadPoint ?d_NoChord ?xc_BadSet ?xc_NoChord ?nt ?pn ?pi ..
  (case te=>exact rfl)
  (case d_BadSet=>k_is)
  (case d_BadPoint=>k_is)
  (case d_NoChord=>k_is)
  any_goals (refine' L2.dk ?ga ?gl ?gc ?gk;(case ga=>k_is);(case gl=>k_is);(case gc=>k_is);(case gk=>k_is))
  any_goals (refine' L2.YF ?ga ?gl ?gc ?gk ?gd;(case ga=>k_is);(case gl=>k_is);(case gd=>kernel_rfl);(case gc=>k_is);(case gk=>k_is))
  any_goals (refine' L2.Ng.mk ?ga;(case ga=>k_is))
  (case xc_BadSet=>k_exc)
  (case xc_NoChord=>k_exc)
  (case nt=>kernel_rfl)
  (case pn=>decide)
  (case pi=>decide)
