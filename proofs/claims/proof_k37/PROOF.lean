import PyProof.Rows.All
import Wide.All
import OpenK.AllK
import Wide.FinOn
import Lean
import PyProof.EqAt
import PyProof.EqKinds
import PyProof.TupleCall
import PySem.Challenge.RW_ringbase_k37_whole_kinds
set_option Elab.async false
set_option linter.all false
set_option maxRecDepth 100000
abbrev cD:=@decide_eq_true
abbrev c7:=@decide_eq_false
abbrev i8:=@of_decide_eq_true
abbrev i9:=@List.mem_append_right
abbrev kU:=@List.mem_cons_of_mem
abbrev iT:=@List.mem_of_getElem?
abbrev N3:=@Bool.eq_false_iff
abbrev jQ:=@List.getElem?_eq_some_iff
abbrev wH:=@Option.map_eq_some_iff
abbrev Ni:=@List.mem_append_left
abbrev N4:=@Bool.and_eq_true_iff
abbrev aR:=List (PySem.Addr×PySem.Obj)
abbrev eK:=PySem.Value->PySem.Shared->Prop
abbrev oQ:=PySem.Str->Option PySem.Value
abbrev bW:=PySem.W.Frag
namespace L2
open PySem PySem.Spec PyProof.Rows
abbrev aQ:=@wpAny_bind
abbrev Key:=Sum Int Str
def xH:Key->Value->Bool
 | .inl k,v=>Value.isInt k v
 | .inr x,v=>Value.isStrOf x v
def UD(w:World):Key->Int
 | .inl k=>hashInt k
 | .inr x=>hashStr w x
theorem cV:∀{k:Key} {v:Value},xH k v=true->(∃ i t,k=Sum.inl i/\v=Value.int i t)\/(∃ x t,k=Sum.inr x/\v=Value.str x t)
 | .inl i,v,h=>by
   obtain⟨t,e⟩:=Value.isInt_shape (k:=i) (v:=v) h;exact .inl ⟨i,t,rfl,e⟩
 | .inr x,v,h=>by
   obtain⟨t,e⟩:=Value.isStrOf_shape (x:=x) (v:=v) h;exact .inr ⟨x,t,rfl,e⟩
theorem FF(i:Int)(t:Tok):xH (.inl i) (.int i t)=true:=by simp[xH,Value.isInt]
theorem FG(x:Str)(t:Tok):xH (.inr x) (.str x t)=true:=by simp[xH,Value.isStrOf]
theorem N5(a b:Int):decide ((Sum.inl a:Key)=Sum.inl b)=(a==b):=by
 by_cases e:a=b
 ·subst e;simp
 ·have h : ¬(Sum.inl a:Key)=Sum.inl b:=fun q=>e (Sum.inl.inj q)
  rw[c7 h];exact(beq_eq_false_iff_ne.mpr e).symm
theorem N6(a b:Str):decide ((Sum.inr a:Key)=Sum.inr b)=decide (a=b):=by
 by_cases e:a=b
 ·subst e;simp
 ·have h : ¬(Sum.inr a:Key)=Sum.inr b:=fun q=>e (Sum.inr.inj q)
  rw[c7 h,c7 e]
theorem N7(a:Int)(b:Str):decide ((Sum.inl a:Key)=Sum.inr b)=false:=c7 (fun q=>nomatch q)
theorem N8(a:Str)(b:Int):decide ((Sum.inr a:Key)=Sum.inl b)=false:=c7 (fun q=>nomatch q)
def dN(prog:Program)(w:World):PySem.KeyKind prog w Key where
 is:=xH
 hash:=UD w
 inj:=fun v a b ha hb=>by
  rcases cV ha with⟨i,t,rfl,rfl⟩|⟨x,t,rfl,rfl⟩
  ·rcases cV hb with⟨j,u,rfl,e⟩|⟨y,u,rfl,e⟩
   ·injection e with e1 _;rw[e1]
   ·exact nomatch e
  ·rcases cV hb with⟨j,u,rfl,e⟩|⟨y,u,rfl,e⟩
   ·exact nomatch e
   ·injection e with e1 _;rw[e1]
 byValue:=fun k v h=>by
  rcases cV h with⟨i,t,rfl,rfl⟩|⟨x,t,rfl,rfl⟩<;>rfl
 pyHash:=fun hv h=>by
  rcases cV hv with⟨i,t,rfl,rfl⟩|⟨x,t,rfl,rfl⟩
  ·exact wpAny_pyHash_int h
  ·exact wpAny_pyHash_str h
 eqBool:=fun hu hv h=>by
  rcases cV hu with⟨i,t,rfl,rfl⟩|⟨x,t,rfl,rfl⟩
  ·rcases cV hv with⟨j,u,rfl,rfl⟩|⟨y,u,rfl,rfl⟩
   ·rw[N5]at h;exact wpAny_eqBool_int h
   ·rw[N7]at h;exact SeqAt.EqAt.int_str i t y u _ _ _ _ h
  ·rcases cV hv with⟨j,u,rfl,rfl⟩|⟨y,u,rfl,rfl⟩
   ·rw[N8]at h;exact SeqAt.EqAt.str_int x t j u _ _ _ _ h
   ·rw[N6]at h;exact wpAny_eqBool_str h
 «strs»:=fun k x t v h=>by
  rcases cV h with⟨i,u,rfl,e⟩|⟨y,u,rfl,e⟩
  ·exact nomatch e
  ·injection e with e1 _
   subst e1;cases v<;>rfl
theorem An(prog:Program)(w:World)(i:Int)(t:Tok):(dN prog w).is (.inl i) (.int i t)=true:=FF i t
theorem Ao(prog:Program)(w:World)(x:Str)(t:Tok):(dN prog w).is (.inr x) (.str x t)=true:=FG x t
inductive V where
 | fD | bl (b:Bool) | int (i:Int) | str (x:Str) | Ic (b:Array UInt8) | UE (b:UInt64) | ref (a:Addr) | ty (n:String)
 deriving DecidableEq
def RelV:V->Value->Prop
 | .fD,u=>u=Value.none
 | .bl b,u=>u=Value.bool b
 | .int i,u=>∃ t,u=Value.int i t
 | .str x,u=>∃ t,u=Value.str x t
 | .Ic b,u=>∃ t,u=Value.bytes b t
 | .UE b,u=>∃ t,u=Value.float b t
 | .ref a,u=>u=Value.ref a
 | .ty n,u=>u=Value.type n
abbrev Vals:List V->List Value->Prop:=Paired RelV
theorem Vals.length{xs:List V}{us:List Value}(r:Vals xs us):xs.length=us.length:=Paired.length r
theorem Vals.get:∀{xs:List V} {us:List Value} {i:Nat} {x:V},Vals xs us->xs[i]?=some x->∃ u,us[i]?=some u/\RelV x u
 | _,_,_,_,.nil,e=>by simp at e
 | _,_,0,_,.cons r _,e=>by simp at e;subst e;exact⟨_,rfl,r⟩
 | _,_,i+1,x,.cons _ t,e=>by
   obtain⟨u,h1,h2⟩:=Vals.get (i:=i) (x:=x) t (by simpa using e)
   exact⟨u,by simpa using h1,h2⟩
theorem Vals.set{x:V}{u:Value}(r:RelV x u):∀{xs:List V} {us:List Value} (i:Nat),Vals xs us->Vals (xs.set i x) (us.set i u)
 | _,_,_,.nil=>.nil
 | _,_,0,.cons _ t=>.cons r t
 | _,_,i+1,.cons q t=>.cons q (Vals.set r i t)
theorem Vals.append:∀{xs ys:List V} {us ws:List Value},Vals xs us->Vals ys ws->Vals (xs++ys) (us++ws)
 | _,_,_,_,.nil,s=>s
 | _,_,_,_,.cons r t,s=>.cons r (Vals.append t s)
theorem Vals.take:∀{xs:List V} {us:List Value} (n:Nat),Vals xs us->Vals (xs.take n) (us.take n)
 | _,_,0,_=>.nil
 | _,_,_+1,.nil=>.nil
 | _,_,n+1,.cons r t=>.cons r (Vals.take n t)
theorem Vals.drop:∀{xs:List V} {us:List Value} (n:Nat),Vals xs us->Vals (xs.drop n) (us.drop n)
 | _,_,0,r=>r
 | _,_,_+1,.nil=>.nil
 | _,_,n+1,.cons _ t=>Vals.drop n t
def qP:Option V->Option Value->Prop
 | some v,some u=>RelV v u
 | none,none=>True
 | _,_=>False
def KV{κ:Type}:List (κ×V)->List (κ×Value)->Prop:=Paired fun(p:κ×V) (q:κ×Value)=>p.1=q.1/\RelV p.2 q.2
def kV:Key->V
 | .inl i=>.int i
 | .inr x=>.str x
inductive HO where
 | lst (xs:List V)
 | tup (xs:List V)
 | dK (kvs:List (Key×V)) | dT (kvs:List (List Key×V))
 | set (S:Int->Bool) (n:Nat)
 | ins (C dx:Addr) (fs:List (Str×V))
 | own (x:Addr)
 | xd (fs:List (Str×V))
 | met (f x:Addr)
 | FH (lo hi:Int)
 | mX (o:Obj) (u:HO)
 | ju (ps:Array Value)
 | ext (φ:Heap->Prop)
abbrev Hp:=Addr->Option HO
def upd(H:Hp)(a:Addr)(o:HO):Hp:=fun b=>if b=a then some o else H b
theorem ae{H:Hp}{a:Addr}{o:HO}:upd H a o a=some o:=by unfold upd;rw[if_pos rfl]
theorem ao{H:Hp}{a b:Addr}{o:HO}(h:b≠a):upd H a o b=H b:=by unfold upd;rw[if_neg h]
theorem aS{H:Hp}{a b:Addr}{o u:HO}(h:H a=some o)(h' : H b=some u)(d:o≠u):a≠b:=by
 intro e;subst e;rw[h]at h';exact d (Option.some.inj h')
theorem bq{H:Hp}{a b:Addr}{o:HO}(h:H a=some o)(h' : H b=none):a≠b:=by
 intro e;subst e;rw[h]at h';cases h'
def LH(qs:Array Value):Str:=match (qs[0]?:Option Value) with | some (Value.str q _)=>q | _=>""
section
variable (P:Program)(w:World)
def bJ(H:Hp)(h:Heap)(a:Addr):HO->Prop
 | .lst xs=>xs.length<=sizeLine/\∃(its:List Value) (n:Nat),Vals xs its/\h.get? a=some { cls:=.type "list",data:=.seq its.toArray n}
 | .tup xs=>xs.length<=sizeLine/\∃ its:List Value,Vals xs its/\IsTup h a its.toArray
 | .dK kvs=>kvs.length<=sizeLine/\(a==sysModules)=false/\∃ vs,KV kvs vs/\h.DictOf (dN P w) a vs
 | .dT kvs=>kvs.length<=sizeLine/\(a==sysModules)=false/\∃ xs:List (List Key×Addr×Value),
  Paired (fun(p:List Key×V) (q:List Key×Addr×Value)=>p.1=q.1/\H q.2.1=some (.tup (p.1.map kV))/\RelV p.2 q.2.2) kvs xs/\
  ∃ o es ep,h.get? a=some o/\o.ExactDict/\o.data = .dict es ep/\es.toList=xs.map (entryOfKey (tupleKind (dN P w)))/\(xs.map (·.1)).Nodup
 | .set S n=>h.SetOf (intKind P w) a S n
 | .ins C dx fs=>H dx=some (.own a)/\fs.length<=1000/\dx≠a/\h.get? a=some (PySem.W.instObj C dx)/\
  ∃ mA,h.Ns1 dx mA/\(∀ f,qP (fs.lookup f) (mA f))/\PySem.Within mA (fs.map (·.1))
 | .own _=>∃ o,h.get? a=some o
 | .xd fs=>∃ mA,h.Ns1 a mA/\∀ f,qP (fs.lookup f) (mA f)
 | .FH lo hi=>∃ t u v,h.get? a=some { cls:=.type "range",data:=.fields #[.int lo t,.int hi u,.int 1 v]}
 | .mX o u=>h.get? a=some o/\bJ H h a u
 | .ju qs=>∃ ps:Array Value,h.get? a=some { cls:=.none,data:=.fields ps}/\((qs.size=3/\(ps = #[]\/∃ c,ps = #[qs.getD 1 .none,qs.getD 2 .none,.ref c]/\H c=some (.own a)/\h.CodeRec (.ref c) (LH qs)))\/∃ q l k,qs = #[q,l,k]++ps/\ps.size=3)
 | .met f x=>h.get? a=some (PySem.W.methodObj (.ref f) (.ref x))
 | .ext φ=>φ h/\(∃ o,h.get? a=some o)/\∀ h1 h2:Heap,φ h1->(∀ o,h1.get? a=some o->h2.get? a=some o)->φ h2
def nV(H:Hp)(h:Heap):Prop:=∀ a o,H a=some o->bJ P w H h a o
end
section
variable {P:Program}{w:World}{H H' : Hp}{h h' : Heap}{a:Addr}{o:HO}
theorem bJ.lt(x:bJ P w H h a o):a<h.objs.size:=by
 cases o with
 | lst xs=>obtain⟨_,_,_,_,e⟩:=x;exact Heap.lt_size e
 | tup xs=>obtain⟨_,_,_,p⟩:=x;exact p.lt
 | dK kvs=>obtain⟨_,_,_,_,o,_,_,e,_⟩:=x;exact Heap.lt_size e
 | dT kvs=>obtain⟨_,_,_,_,o,_,_,e,_⟩:=x;exact Heap.lt_size e
 | set S n=>obtain⟨o,_,_,_,e,_⟩:=x;exact Heap.lt_size e
 | ins C dx fs=>obtain⟨_,_,_,e,_⟩:=x;exact Heap.lt_size e
 | own y=>obtain⟨_,e⟩:=x;exact Heap.lt_size e
 | xd fs=>obtain⟨_,⟨_,_,_,e,_⟩,_⟩:=x;exact Heap.lt_size e
 | FH lo hi=>obtain⟨_,_,_,e⟩:=x;exact Heap.lt_size e
 | mX ob u=>obtain⟨e,_⟩:=x;exact Heap.lt_size e
 | ju ps=>obtain⟨_,e,_⟩:=x;exact Heap.lt_size e
 | met f y=>exact Heap.lt_size (show h.get? a=some _ from x)
 | ext φ=>obtain⟨_,⟨_,e⟩,_⟩:=x;exact Heap.lt_size e
theorem Paired.yH{α β:Type}{F G:α->β->Prop}:∀{l₁:List α} {l₂:List β},Paired F l₁ l₂->(∀ a b,F a b->G a b)->Paired G l₁ l₂
 | _,_,.nil,_=>.nil
 | _,_,.cons r t,f=>.cons (f _ _ r) (Paired.yH t f)
theorem Paired.imp'{α β:Type}{F G:α->β->Prop}(f:∀ a b,F a b->G a b){l₁:List α}{l₂:List β}(r:Paired F l₁ l₂):Paired G l₁ l₂:=Paired.yH r f
theorem bJ.stay(x:bJ P w H h a o)(k:∀ b u,(b=a\/H b=some (.own a))->h.get? b=some u->h'.get? b=some u)
 (ho:∀ b,H b=some (.own a)->H' b=some (.own a)) (ht:∀ b xs,H b=some (.tup xs)->H' b=some (.tup xs)):bJ P w H' h' a o:=by
 induction o with
 | lst xs=>obtain⟨z,its,n,r,e⟩:=x;exact⟨z,its,n,r,k _ _ (.inl rfl) e⟩
 | tup xs=>obtain⟨z,its,r,ob,e,c⟩:=x;exact⟨z,its,r,ob,k _ _ (.inl rfl) e,c⟩
 | dK kvs=>obtain⟨z,y,vs,r,ob,es,ep,e,c⟩:=x;exact⟨z,y,vs,r,ob,es,ep,k _ _ (.inl rfl) e,c⟩
 | dT kvs =>
   obtain⟨z,y,xs,r,ob,es,ep,e,c⟩:=x;exact⟨z,y,xs,Paired.yH r fun p q z=>⟨z.1,ht _ _ z.2.1,z.2.2⟩,ob,es,ep,k _ _ (.inl rfl) e,c⟩
 | set S n=>obtain⟨ob,es,ep,t,e,c⟩:=x;exact⟨ob,es,ep,t,k _ _ (.inl rfl) e,c⟩
 | ins C dx fs =>
   obtain⟨d,z,ne,e,mA,⟨od,es,ep,e2,c⟩,r⟩:=x;exact⟨ho _ d,z,ne,k _ _ (.inl rfl) e,mA,⟨od,es,ep,k _ _ (.inr d) e2,c⟩,r⟩
 | own y=>obtain⟨ob,e⟩:=x;exact⟨ob,k _ _ (.inl rfl) e⟩
 | xd fs=>obtain⟨mA,⟨od,es,ep,e,c⟩,r⟩:=x;exact⟨mA,⟨od,es,ep,k _ _ (.inl rfl) e,c⟩,r⟩
 | FH lo hi=>obtain⟨t,u,v,e⟩:=x;exact⟨t,u,v,k _ _ (.inl rfl) e⟩
 | mX ob u ih=>obtain⟨e,q⟩:=x;exact⟨k _ _ (.inl rfl) e,ih q⟩
 | ju qs =>
   obtain⟨ps,e,f⟩:=x;refine⟨ps,k _ _ (.inl rfl) e,?_⟩;rcases f with⟨hz,f|⟨c,e1,e2,c',oc,vs,tq,hc,ho',hd,hv⟩⟩|f
   ·exact .inl ⟨hz,.inl f⟩
   ·cases hc;exact .inl ⟨hz,.inr ⟨c,e1,ho _ e2,c,oc,vs,tq,rfl,k _ _ (.inr e2) ho',hd,hv⟩⟩
   ·exact .inr f
 | met f y =>
   have e:h.get? a=some (PySem.W.methodObj (.ref f) (.ref y)):=x;show h'.get? a=some (PySem.W.methodObj (.ref f) (.ref y));exact k a _ (.inl rfl) e
 | ext φ=>obtain⟨p,⟨o,e⟩,st⟩:=x;exact⟨st _ _ p fun o q=>k _ _ (.inl rfl) q,⟨o,k _ _ (.inl rfl) e⟩,st⟩
theorem nV.lt(x:nV P w H h)(e:H a=some o):a<h.objs.size:=(x a o e).lt
theorem nV.fresh(x:nV P w H h)(e:h.objs.size<=a):H a=none:=by
 cases q:H a with
 | none=>rfl
 | some u=>exact absurd (Nat.lt_of_lt_of_le (x.lt q) e) (Nat.lt_irrefl _)
theorem nV.kept(x:nV P w H h)(k:∀ b u,h.get? b=some u->h'.get? b=some u):nV P w H h':=fun a o e =>
 (x a o e).stay (fun b u _ q=>k b u q) (fun _ q=>q) fun _ _ q=>q
theorem nV.laid(x:nV P w H h)(k:∀ b u,h.get? b=some u->h'.get? b=some u)(hp:h.objs.size<=a)(new:bJ P w (upd H a o) h' a o):nV P w (upd H a o) h':=fun b u e=>by
 have hn:=x.fresh hp
 by_cases hb:b=a
 ·subst hb;rw[ae]at e;cases e;exact new
 ·rw[ao hb]at e;exact(x b u e).stay (fun c v _ q=>k c v q) (fun c q=>by rw[ao (bq q hn)];exact q) fun c xs q=>by rw[ao (bq q hn)];exact q
end
def Rd(H:Hp)(a:Addr)(u:HO):Prop:=H a=some u\/∃ o,H a=some (.mX o u)
theorem Rd.ok{P:Program}{w:World}{H:Hp}{h:Heap}{a:Addr}{u:HO}(r:Rd H a u)(x:nV P w H h):bJ P w H h a u:=by
 rcases r with r|⟨o,r⟩
 ·exact x a u r
 ·obtain⟨_,q⟩:=x a _ r;exact q
def QM:Option HO->Prop
 | some (.lst _)=>True
 | some (.dK _)=>True
 | some (.dT _)=>True
 | some (.set _ _)=>True
 | some (.ins _ _ _)=>True
 | some (.ext _)=>True
 | _=>False
section
variable {P:Program}{w:World}{H:Hp}{h h' : Heap}{x e:Addr}{o' : HO}
theorem nV.write(ok:nV P w H h)(mu:QM (H x))(he:e=x\/H e=some (.own x))(k:∀ b u,b≠e->h.get? b=some u->h'.get? b=some u)(Qk:∃ u,h'.get? e=some u)
 (new:bJ P w (upd H x o') h' x o'):nV P w (upd H x o') h':=fun b u q=>by
 have QN:∀ c y,H c=some (.own y)->c≠x:=fun c y r z=>by subst z;rw[r]at mu;exact mu
 have UG:∀ c xs,H c=some (.tup xs)->c≠x:=fun c xs r z=>by subst z;rw[r]at mu;exact mu
 by_cases hb:b=x
 ·subst hb;rw[ae]at q;cases q;exact new
 ·rw[ao hb]at q
  by_cases N9:b=e
  ·have q' : H b=some (.own x):=by
    rcases he with z|z
    ·exact absurd (N9.trans z) hb
    ·rw[N9];exact z
   rw[q]at q';cases q';obtain⟨v,hv⟩:=Qk;exact⟨v,by rw[N9];exact hv⟩
  ·refine(ok b u q).stay (fun c v hc r=>k c v ?_ r) (fun c r=>by rw[ao (QN c b r)];exact r) fun c xs r=>by rw[ao (UG c xs r)];exact r
   rcases hc with rfl|hc
   ·exact N9
   ·rintro rfl;rcases he with z|z
    ·exact QN c b hc z
    ·rw[hc]at z;cases z;exact hb rfl
end
structure Un(fs ex:List Addr)(H H' : Hp)(h h' : Heap):Prop where
 keep:∀ b o,h.get? b=some o->H b=none->b∉fs->b∉ex->h'.get? b=some o
 slot:∀ b o,h.get? b=some o->H b=none->b∈fs->b∉ex->∃ sl,h'.get? b=some { o with slots:=sl}
 free:∀ b o,h.get? b=some o->H b=none->b∉ex->H' b=none
 there:∀ b o,h.get? b=some o->b∉ex->∃ o',h'.get? b=some o'
 tups:∀ b xs,H b=some (.tup xs)->H' b=some (.tup xs)
 lC:∀ b o u,H b=some (.mX o u)->H' b=some (.mX o u)
 mY:∀ b ps,H b=some (.ju ps)->∃ more,H' b=some (.ju (ps++more))
section
variable {fs fs' ex ex' : List Addr}{H H1 H2:Hp}{h h1 h2 h' : Heap}{a x e:Addr}{o:HO}
theorem Un.any(u:Un fs ex H H1 h h1){b:Addr}{ob:Obj}(q:h.get? b=some ob)(n:H b=none)(hx:b∉ex):∃ sl,h1.get? b=some { ob with slots:=sl}:=by
 by_cases hb:b∈fs
 ·exact u.slot b ob q n hb hx
 ·exact⟨ob.slots,u.keep b ob q n hb hx⟩
theorem Un.kept(k:∀ b u,h.get? b=some u->h'.get? b=some u):Un fs ex H H h h' :=
 ⟨fun b ob q _ _ _=>k b ob q,fun b ob q _ _ _=>⟨ob.slots,k b ob q⟩,fun _ _ _ n _=>n,fun b ob q _=>⟨ob,k b ob q⟩,fun _ _ q=>q,fun _ _ _ q=>q,fun _ ps q=>⟨#[],by rw[q];simp⟩⟩
theorem Un.refl:Un fs ex H H h h:=Un.kept fun _ _ q=>q
theorem Un.laid(k:∀ b u,h.get? b=some u->h'.get? b=some u)(hp:h.objs.size<=a)(hn:H a=none):Un fs ex H (upd H a o) h h' where
 keep:=fun b u q _ _ _=>k b u q
 slot:=fun b u q _ _ _=>⟨u.slots,k b u q⟩
 free:=fun b u q n _=>by rw[ao (Nat.ne_of_lt (Nat.lt_of_lt_of_le (Heap.lt_size q) hp))];exact n
 there:=fun b u q _=>⟨u,k b u q⟩
 tups:=fun b xs q=>by rw[ao (bq q hn)];exact q
 lC:=fun b u xs q=>by rw[ao (bq q hn)];exact q
 mY:=fun b ps q=>⟨#[],by rw[ao (bq q hn),q];simp⟩
theorem Un.write(mu:QM (H x))(he:e=x\/H e=some (.own x))(k:∀ b u,b≠e->h.get? b=some u->h'.get? b=some u)(Qk:∃ u,h'.get? e=some u):Un fs ex H (upd H x o) h h':=by
 have hx:∀ b,H b=none->b≠x:=fun b n z=>by subst z;rw[n]at mu;exact mu
 have hb:∀ b,H b=none->b≠e:=fun b n z=>by
  subst z;rcases he with r|r
  ·exact hx b n r
  ·rw[n]at r;cases r
 have hm:∀ b u,H b=some u->¬ QM (some u)->b≠x:=fun b u q nm z=>by subst z;rw[q]at mu;exact nm mu
 refine⟨fun b u q n _ _=>k b u (hb b n) q,fun b u q n _ _=>⟨u.slots,k b u (hb b n) q⟩,fun b u q n _=>by rw[ao (hx b n)];exact n,fun b u q _=>?_,
  fun b xs q=>by rw[ao (hm b _ q fun z=>z)];exact q,fun b u xs q=>by rw[ao (hm b _ q fun z=>z)];exact q,fun b ps q=>⟨#[],by rw[ao (hm b _ q fun z=>z),q];simp⟩⟩
 by_cases N9:b=e
 ·subst N9;exact Qk
 ·exact⟨u,k b u N9 q⟩
end
def Ql(h:Heap)(H:Hp):List Addr:=(List.range h.objs.size).filter fun a=>(H a).isSome
def Aq(h:Heap)(H:Hp):Heap:=PySem.W.hideAll h (Ql h H)
theorem FI(h:Heap)(H:Hp):(Aq h H).objs.size=h.objs.size:=PySem.W.hideAll_size _ _
theorem ux{h:Heap}{H:Hp}{b:Addr}{o:Obj}(e:h.get? b=some o)(n:H b=none):(Aq h H).get? b=some o :=
 PySem.W.hideAll_get _ e fun hm=>by
  have q:(H b).isSome=true:=(List.mem_filter.mp hm).2;rw[n]at q;simp at q
theorem LI{h:Heap}{H:Hp}{b:Addr}{o:Obj}(e:(Aq h H).get? b=some o):h.get? b=some o/\H b=none:=by
 have e' : h.get? b=some o:=PySem.W.of_hideAll (Ql h H) e;refine⟨e',?_⟩;cases q:H b with
 | none=>rfl
 | some x =>
   have hm:b∈Ql h H:=List.mem_filter.mpr ⟨List.mem_range.mpr (Heap.lt_size e'),by simp[q]⟩
   have z:(Aq h H).get? b=none:=PySem.W.hideAll_none (Ql h H) hm;rw[z]at e;cases e
def ua(g h:Heap)(L:Addr):aR:=(List.range h.objs.size).filterMap fun a=>if a=L\/(g.get? a).isSome=true then none else(h.get? a).map fun o=>(a,o)
theorem Ar{g h:Heap}{L a:Addr}{o:Obj}(h1:a≠L)(h2:g.get? a=none)(h3:h.get? a=some o):(a,o)∈ua g h L :=
 List.mem_filterMap.mpr ⟨a,List.mem_range.mpr (Heap.lt_size h3),by simp[h1,h2,h3]⟩
theorem uy{g h:Heap}{L:Addr}{p:Addr×Obj}(hp:p∈ua g h L):p.1≠L/\g.get? p.1=none/\h.get? p.1=some p.2:=by
 obtain⟨b,_,e⟩:=List.mem_filterMap.mp hp
 split at e
 ·cases e
 ·rename_i hn
  cases q:h.get? b with
  | none=>rw[q]at e;simp at e
  | some u =>
    rw[q]at e;simp only[Option.map_some,Option.some.injEq]at e;subst e;refine⟨fun z=>hn (.inl z),?_,q⟩
    show g.get? b=none;cases r:g.get? b with
    | none=>rfl
    | some v=>exact(hn (.inr (by simp[r]))).elim
def rest(g h:Heap)(L d:Addr):aR:=(ua g h L).filter fun p=>decide (p.1≠d)
theorem Ew{g h:Heap}{L d:Addr}:∀ p∈rest g h L d,p.1≠d:=fun p hp=>i8 (List.mem_filter.mp hp).2
theorem Ie{g h:Heap}{L d a:Addr}{o:Obj}(h1:a≠L)(h2:g.get? a=none)(h3:h.get? a=some o)(h4:a≠d):(a,o)∈rest g h L d :=
 List.mem_filter.mpr ⟨Ar h1 h2 h3,cD h4⟩
theorem Ig{g h:Heap}{L:Addr}:News g L h (ua g h L):=fun p hp=>let⟨a,b,c⟩:=uy hp;⟨c,a,b⟩
theorem pY{g h h' : Heap}{L d:Addr}{m:oQ}(k:∀ b o,g.get? b=some o->h.get? b=some o)(F:Fr g L h' m)(N:News g L h' (rest g h L d)):
 ∀ b o,b≠L->b≠d->h.get? b=some o->h'.get? b=some o:=fun b o h1 h2 e=>by
 cases q:g.get? b with
 | some u =>
   have:=k b u q;rw[e]at this;cases this;exact F.keep b _ q
 | none=>exact(N (b,o) (Ie h1 q e h2)).1
structure Mod(K:bW)(mg:oQ)(base:Heap):Prop where
 Tw:K.In base
 glob:base.Ns mainGlobals mg
 blt:∃ mb,base.Ns builtinsNs mb/\∀ x:Str,x≠"__name__"->mb x=bootBuiltins x
 nolimit:base.NoLimit
 bmain:∃ bm ob,mg "__builtins__"=some (.ref bm)/\bm≠builtinsNs/\base.get? bm=some ob/\ob.cls = .type "module"/\ob.dict=some builtinsNs/\ob.data = .plain
structure Cx where
 prog:Program
 w:World
 K:bW
 mg:Str->Option Value
 base:Heap
 A:Around
 N:List Str
 s₀:Shared
 H₀:Hp
 env:Env
 outer:List Env
 stack:List Env
 ex:List Addr
 fn:Str->Bool
 calm:Bool
 pn:aR
 xe:Value->Shared->Prop
def frs(l:List Env):List Addr:=l.filterMap (·.frame)
abbrev Cx.fs(X:Cx):List Addr:=frs X.outer
def Tz(sc:Scope)(x:Str):Prop:=sc.names.lookup x=some .local\/sc.names.lookup x=some .cell\/sc.names.lookup x=some .free
def Loc(sc:Scope)(x:Str):Prop:=sc.names.lookup x=some .local\/sc.names.lookup x=some .cell
def Look(env:Env)(h:Heap)(m:oQ)(x:Str)(u:Value):Prop :=
 (env.kindOf x=some .local/\m x=some u)\/((env.kindOf x=some .cell\/env.kindOf x=some .free)/\∃ c,env.cells.lookup x=some c/\h.IsCell c (some u))
structure Cx.Ok(X:Cx):Prop where
 mod:Mod X.K X.mg X.base
 kind:X.env.scope.kind = .function
 glob:X.env.globals=mainGlobals
 blt:X.env.builtins=builtinsNs
 above:X.s₀.heap.objs.size<=X.env.locals
 inj:∀ x y c,X.env.cells.lookup x=some c->X.env.cells.lookup y=some c->x=y
 has:∀ x,(X.env.kindOf x=some .cell\/X.env.kindOf x=some .free)->∃ c,X.env.cells.lookup x=some c
 QO:∀ x c,X.fn x=true->X.env.cells.lookup x=some c->X.s₀.heap.objs.size<=c
 hd:X.calm=true->X.A.handled=none
 frames:X.A.frames=some X.stack
 LJ:X.stack=X.outer\/(X.stack=X.env::X.outer/\X.env.frame=some X.env.locals)
 WE:∀ b∈X.ex,b≠X.env.locals/\∀ x c,X.env.cells.lookup x=some c->c≠b
 bs:∀ b o,X.base.get? b=some o->X.s₀.heap.get? b=some o/\X.H₀ b=none
 LK:X.base.objs.size<=X.s₀.heap.objs.size
 Ih:∀ b o,X.base.get? b=some o->b∉X.ex
 LL:∀ b∈X.ex,b∉X.fs
 funs:X.s₀.heap.FunFrames X.base X.outer
 Oa:∀ b∈X.fs,X.H₀ b=none
structure Inv(X:Cx)(pq:aR)(σ:List (Option V))(H:Hp)(s:Shared):Prop where
 ok:X.Ok
 os:s.os=X.s₀.os
 bare:AllBare s.gens
 base:Un X.fs X.ex X.H₀ H X.s₀.heap s.heap
 loc:∃ m,s.heap.Ns X.env.locals m/\∀(i:Nat) (x:Str) (v:V),X.N[i]?=some x->σ[i]?=some (some v)->Tz X.env.scope x->∃ u,RelV v u/\Look X.env s.heap m x u
 cell:∀ x c,X.env.cells.lookup x=some c->∃ v,s.heap.IsCell c v
 free:H X.env.locals=none
 fK:∀ x c,X.env.cells.lookup x=some c->H c=none
 pin:∀ p∈X.pn++pq,s.heap.get? p.1=some p.2/\H p.1=none/\p.1≠X.env.locals/\p.1∉X.fs/\∀ v,p.2.data≠.cell v
 hok:nV X.prog X.w H s.heap
 len:σ.length=X.N.length
section
variable {X:Cx}{pq:aR}{σ:List (Option V)}{H H' : Hp}{s:Shared}{h' : Heap}
theorem Cx.Ok.UH(ok:X.Ok){b:Addr}{o:Obj}(e:X.base.get? b=some o):b∉X.fs:=fun hb=>by
 have:=(ok.funs.mem hb).1;rw[e]at this;cases this
theorem Inv.bs(I:Inv X pq σ H s):∀ b o,X.base.get? b=some o->s.heap.get? b=some o/\H b=none:=fun b o e =>
 ⟨I.base.keep b o (I.ok.bs b o e).1 (I.ok.bs b o e).2 (I.ok.UH e) (I.ok.Ih b o e),I.base.free b o (I.ok.bs b o e).1 (I.ok.bs b o e).2 (I.ok.Ih b o e)⟩
theorem Inv.bk(I:Inv X pq σ H s):∀ b o,X.base.get? b=some o->s.heap.get? b=some o:=fun b o e=>(I.bs b o e).1
theorem Inv.mod(I:Inv X pq σ H s):Mod X.K X.mg X.base:=I.ok.mod
theorem Inv.Ob(I:Inv X pq σ H s):X.K.In s.heap:=I.ok.mod.Tw.keeps I.bk
theorem Inv.nolimit(I:Inv X pq σ H s):s.heap.NoLimit:=I.ok.mod.nolimit.keeps I.bk
theorem Inv.fr(I:Inv X pq σ H s):∃ m,Fr X.base X.env.locals s.heap m :=
 let⟨m,hn,_⟩:=I.loc
 ⟨m,hn,I.bk,Nat.le_trans I.ok.LK I.ok.above⟩
theorem Inv.lt(I:Inv X pq σ H s):X.env.locals<s.heap.objs.size:=let⟨_,hn,_⟩:=I.loc;hn.lt
theorem Inv.sz(I:Inv X pq σ H s):X.s₀.heap.objs.size<=s.heap.objs.size:=Nat.le_trans I.ok.above (Nat.le_of_lt I.lt)
theorem Inv.QS(I:Inv X pq σ H s){a:Addr}(h:s.heap.objs.size<=a):a∉X.fs:=fun hb=>by
 obtain⟨_,o,ho,_⟩:=I.ok.funs.mem hb;exact absurd (Nat.lt_of_lt_of_le (Heap.lt_size ho) (Nat.le_trans I.sz h)) (Nat.lt_irrefl _)
theorem Inv.Oc(I:Inv X pq σ H s):∀ x c,X.env.cells.lookup x=some c->c≠X.env.locals:=fun x c e z=>by
 obtain⟨v,o,ho,hd⟩:=I.cell x c e;obtain⟨m,⟨o',es,ep,ho',hd',_⟩,_⟩:=I.loc;rw[z,ho']at ho;cases ho;rw[hd']at hd;cases hd
theorem Inv.funs(I:Inv X pq σ H s):s.heap.FunFrames X.base X.outer:=by
 have all:∀(l:List Env),(∀ b∈frs l,b∈X.fs)->X.s₀.heap.FunFrames X.base l->s.heap.FunFrames X.base l:=by
  intro l
  induction l with
  | nil=>intro _ _;trivial
  | cons env r ih =>
    intro hs hl;obtain⟨hk,⟨L,o,hf,hn,ho,hd⟩,hr⟩:=hl;have hL:L∈X.fs:=hs L (by unfold frs;rw[List.filterMap_cons,hf];exact List.mem_cons_self)
    obtain⟨sl,e⟩:=I.base.slot L o ho (I.ok.Oa L hL) hL fun z=>I.ok.LL L z hL
    exact⟨hk,⟨L,_,hf,hn,e,hd⟩,ih (fun b hb=>hs b (by unfold frs;rw[List.filterMap_cons,hf];exact kU _ hb)) hr⟩
 exact all X.outer (fun _ hb=>hb) I.ok.funs
theorem Inv.stack(I:Inv X pq σ H s):s.heap.FunFrames X.base X.stack:=by
 rcases I.ok.LJ with e|⟨e,hf⟩
 ·rw[e];exact I.funs
 ·rw[e];obtain⟨m,hn,_⟩:=I.loc;refine .cons (by rw[I.ok.kind];decide) hf hn ?_ I.funs
  exact Heap.get?_none_of_le (Nat.le_trans I.ok.LK I.ok.above)
theorem Inv.uz(I:Inv X pq σ H s):∀ b∈frs X.stack,b∈X.env.locals::X.fs:=fun b hb=>by
 rcases I.ok.LJ with e|⟨e,hf⟩
 ·rw[e]at hb;exact kU _ hb
 ·rw[e]at hb;unfold frs at hb;rw[List.filterMap_cons,hf]at hb;exact hb
theorem Inv.yI(I:Inv X pq σ H s):∀ b∈frs X.stack,H b=none:=fun b hb=>by
 rcases List.mem_cons.mp (I.uz b hb) with e|hb
 ·rw[e];exact I.free
 ·obtain⟨_,o,ho,_⟩:=I.ok.funs.mem hb;exact I.base.free b o ho (I.ok.Oa b hb) fun z=>I.ok.LL b z hb
theorem Inv.step{g' : Array GenState}{t' : Nat}{d' : Drawn}{ch:List Addr}(I:Inv X pq σ H s)
 (hch:∀ b∈ch,(b∈X.ex\/X.s₀.heap.objs.size<=b)/\b≠X.env.locals/\(∀ x c,X.env.cells.lookup x=some c->c≠b)/\∀ p∈X.pn++pq,p.1≠b)
 (keep:∀ b o,b≠X.env.locals->b∉X.fs->b∉ch->s.heap.get? b=some o->H b=none->h'.get? b=some o)
 (slot:∀ b o,b≠X.env.locals->b∈X.fs->b∉ch->s.heap.get? b=some o->H b=none->∃ sl,h'.get? b=some { o with slots:=sl}) (free:∀ b o,b∉ch->s.heap.get? b=some o->H b=none->H' b=none)
 (there:∀ b o,b∉ch->s.heap.get? b=some o->∃ o',h'.get? b=some o')
 (tups:∀ b xs,H b=some (.tup xs)->H' b=some (.tup xs)) (lC:∀ b o u,H b=some (.mX o u)->H' b=some (.mX o u)) (mY:∀ b ps,H b=some (.ju ps)->∃ more,H' b=some (.ju (ps++more)))
 (ns:∀ m,s.heap.Ns X.env.locals m->h'.Ns X.env.locals m) (hok:nV X.prog X.w H' h') (hg:AllBare g') :
 Inv X pq σ H' { s with heap:=h',gens:=g',drawn:=d',toks:=t'}:=by
 have WG:∀ b o,X.s₀.heap.get? b=some o->b≠X.env.locals:=fun b o e=>Nat.ne_of_lt (Nat.lt_of_lt_of_le (Heap.lt_size e) I.ok.above)
 have TF:∀ b o,X.s₀.heap.get? b=some o->b∉X.ex->b∉ch:=fun b o e hx hb=>by
  rcases(hch b hb).1 with z|z
  ·exact hx z
  ·exact absurd (Nat.lt_of_lt_of_le (Heap.lt_size e) z) (Nat.lt_irrefl _)
 have cellK:∀ x c,X.env.cells.lookup x=some c->∀ v,s.heap.IsCell c v->h'.IsCell c v:=fun x c e v ⟨o,ho,hd⟩=>by
  have QT:c∉ch:=fun z=>(hch c z).2.2.1 x c e rfl
  by_cases hc:c∈X.fs
  ·obtain⟨sl,q⟩:=slot c o (I.Oc x c e) hc QT ho (I.fK x c e);exact⟨_,q,hd⟩
  ·exact⟨o,keep c o (I.Oc x c e) hc QT ho (I.fK x c e),hd⟩
 refine⟨I.ok,I.os,hg,⟨fun b o e n hb hx=>?_,fun b o e n hb hx=>?_,fun b o e n hx=>?_,fun b o e hx=>?_,fun b xs e=>tups b xs (I.base.tups b xs e),fun b o xs e=>lC b o xs (I.base.lC b o xs e),fun b ps e=>?_⟩,?_,fun x c e=>?_,?_,fun x c e=>?_,fun p hp=>?_,hok,I.len⟩
 ·exact keep b o (WG b o e) hb (TF b o e hx) (I.base.keep b o e n hb hx) (I.base.free b o e n hx)
 ·obtain⟨sl,e1⟩:=I.base.slot b o e n hb hx;obtain⟨TH,e2⟩:=slot b _ (WG b o e) hb (TF b o e hx) e1 (I.base.free b o e n hx);exact⟨TH,e2⟩
 ·obtain⟨o',e1⟩:=I.base.there b o e hx;exact free b o' (TF b o e hx) e1 (I.base.free b o e n hx)
 ·obtain⟨o',e1⟩:=I.base.there b o e hx;exact there b o' (TF b o e hx) e1
 ·obtain⟨m1,e1⟩:=I.base.mY b ps e;obtain⟨m2,e2⟩:=mY b _ e1;exact⟨m1++m2,by rw[e2,Array.append_assoc]⟩
 ·obtain⟨m,hn,hl⟩:=I.loc;refine⟨m,ns m hn,fun i x v e1 e2 e3=>?_⟩
  obtain⟨u,r,l⟩:=hl i x v e1 e2 e3;refine⟨u,r,?_⟩;rcases l with l|⟨k,c,e,z⟩
  ·exact .inl l
  ·exact .inr ⟨k,c,e,cellK x c e _ z⟩
 ·obtain⟨v,z⟩:=I.cell x c e;exact⟨v,cellK x c e v z⟩
 ·obtain⟨m,⟨o,_,_,ho,_⟩,_⟩:=I.loc;exact free _ o (fun z=>(hch _ z).2.1 rfl) ho I.free
 ·obtain⟨v,o,ho,hd⟩:=I.cell x c e;exact free c o (fun z=>(hch c z).2.2.1 x c e rfl) ho (I.fK x c e)
 ·obtain⟨e,n,ne,nf,d⟩:=I.pin p hp;have QT:p.1∉ch:=fun z=>(hch p.1 z).2.2.2 p hp rfl
  exact⟨keep p.1 p.2 ne nf QT e n,free p.1 p.2 QT e n,ne,nf,d⟩
theorem Inv.un{t' : Nat}(I:Inv X pq σ H s)(u:Un X.fs [] H H' s.heap h')(hok:nV X.prog X.w H' h'):Inv X pq σ H' { s with heap:=h',toks:=t'}:=by
 obtain⟨m,⟨o,es,ep,ho,r⟩,_⟩:=id I.loc;obtain⟨sl,hL⟩:=u.any ho I.free (by simp)
 exact I.step (g':=s.gens) (d':=s.drawn) (ch:=[]) (fun _ z=>nomatch z) (fun b o _ hb _ e n=>u.keep b o e n hb (by simp)) (fun b o _ hb _ e n=>u.slot b o e n hb (by simp)) (fun b o _ e n=>u.free b o e n (by simp)) (fun b o _ e=>u.there b o e (by simp)) u.tups u.lC u.mY (fun m' hm=>by
  obtain⟨o',es',Ex,ho',r'⟩:=hm;rw[ho]at ho';cases ho';exact⟨_,es',Ex,hL,r'⟩) hok I.bare
theorem Inv.call{g' : Array GenState}{t' : Nat}{d' : Drawn}{ch:List Addr}(I:Inv X pq σ H s)(u:Un (frs X.stack) ch H H' s.heap h')(hok:nV X.prog X.w H' h')(hg:AllBare g')
 (hch:∀ b∈ch,(b∈X.ex\/X.s₀.heap.objs.size<=b)/\b≠X.env.locals/\(∀ x c,X.env.cells.lookup x=some c->c≠b)/\∀ p∈X.pn++pq,p.1≠b) :
 Inv X pq σ H' { s with heap:=h',gens:=g',drawn:=d',toks:=t'}:=by
 obtain⟨m,⟨o,es,ep,ho,r⟩,_⟩:=id I.loc;obtain⟨sl,hL⟩:=u.any ho I.free fun z=>(hch _ z).2.1 rfl
 exact I.step (ch:=ch) hch (fun b o hL hb hc e n=>u.keep b o e n (fun z=>(List.mem_cons.mp (I.uz b z)).elim hL hb) hc) (fun b o _ _ hc e n=>u.any e n hc) (fun b o hc e n=>u.free b o e n hc) (fun b o hc e=>u.there b o e hc) u.tups u.lC u.mY (fun m' hm=>by
  obtain⟨o',es',Ex,ho',r'⟩:=hm;rw[ho]at ho';cases ho';exact⟨_,es',Ex,hL,r'⟩) hok hg
theorem Inv.turned{t' : Nat}{it:Addr}(I:Inv X pq σ H s)(k:∀ b o,b≠it->s.heap.get? b=some o->h'.get? b=some o)(hn:H it=none)(hL:it≠X.env.locals)
 (h1:it∈X.ex\/X.s₀.heap.objs.size<=it) (h2:∀ x c,X.env.cells.lookup x=some c->c≠it) (h3:∀ p∈X.pn++pq,p.1≠it):Inv X pq σ H { s with heap:=h',toks:=t'}:=by
 have WH:∀ b u,H b=some u->b≠it:=fun b u e z=>by rw[z,hn]at e;cases e
 refine I.step (g':=s.gens) (d':=s.drawn) (ch:=[it]) (fun b hb=>?_) (fun b o _ _ hc e _=>k b o (fun z=>hc (by simp[z])) e) (fun b o _ _ hc e _=>⟨o.slots,k b o (fun z=>hc (by simp[z])) e⟩) (fun _ _ _ _ n=>n)
  (fun b o hc e=>⟨o,k b o (fun z=>hc (by simp[z])) e⟩) (fun _ _ e=>e) (fun _ _ _ e=>e) (fun b ps e=>⟨#[],by rw[e];simp⟩) (fun m hm=>?_) (fun b u e=>?_) I.bare
 ·have e:b=it:=by simpa using hb
  subst e;exact⟨h1,hL,h2,h3⟩
 ·obtain⟨o,es,ep,ho,r⟩:=hm;exact⟨o,es,ep,k _ o (Ne.symm hL) ho,r⟩
 ·refine(I.hok b u e).stay (fun c v hc q=>k c v ?_ q) (fun _ q=>q) fun _ _ q=>q
  rcases hc with z|z
  ·rw[z];exact WH b u e
  ·exact WH c _ z
theorem Inv.tok(I:Inv X pq σ H s)(t:Nat):Inv X pq σ H { s with toks:=t}:=I.un (h':=s.heap) (t':=t) Un.refl I.hok
theorem Inv.kept{t' : Nat}(I:Inv X pq σ H s)(k:∀ b u,s.heap.get? b=some u->h'.get? b=some u):Inv X pq σ H { s with heap:=h',toks:=t'}:=I.un (Un.kept k) (I.hok.kept k)
theorem Inv.laid{a:Addr}{o:HO}{t' : Nat}(I:Inv X pq σ H s)(k:∀ b u,s.heap.get? b=some u->h'.get? b=some u)(hp:s.heap.objs.size<=a)(new:bJ X.prog X.w (upd H a o) h' a o):
 Inv X pq σ (upd H a o) { s with heap:=h',toks:=t'}:=I.un (Un.laid k hp (I.hok.fresh hp)) (I.hok.laid k hp new)
theorem Inv.write{x e:Addr}{o:HO}{t' : Nat}(I:Inv X pq σ H s)(mu:QM (H x))(he:e=x\/H e=some (.own x))(k:∀ b u,b≠e->s.heap.get? b=some u->h'.get? b=some u)(Qk:∃ u,h'.get? e=some u)
 (new:bJ X.prog X.w (upd H x o) h' x o):Inv X pq σ (upd H x o) { s with heap:=h',toks:=t'}:=I.un (Un.write mu he k Qk) (I.hok.write mu he k Qk new)
theorem Inv.weak{σ' : List (Option V)}(I:Inv X pq σ H s)(hl:σ'.length=σ.length)(w:∀(i:Nat) v,σ'[i]?=some (some v)->σ[i]?=some (some v)):Inv X pq σ' H s :=
 ⟨I.ok,I.os,I.bare,I.base,let⟨m,hn,hl'⟩:=I.loc;⟨m,hn,fun i x v e1 e2 e3=>hl' i x v e1 (w i v e2) e3⟩,I.cell,I.free,I.fK,I.pin,I.hok,hl.trans I.len⟩
theorem Inv.gD{TJ:aR}(I:Inv X pq σ H s)(h:∀ p∈TJ,s.heap.get? p.1=some p.2/\H p.1=none/\p.1≠X.env.locals/\p.1∉X.fs/\∀ v,p.2.data≠.cell v):Inv X TJ σ H s :=
 ⟨I.ok,I.os,I.bare,I.base,I.loc,I.cell,I.free,I.fK,fun p hp=>(List.mem_append.mp hp).elim (fun z=>I.pin p (Ni _ z)) (h p),I.hok,I.len⟩
theorem As{N:List Str}(hN:N.Nodup){i j:Nat}{x:Str}(a:N[i]?=some x)(b:N[j]?=some x):i=j:=by
 obtain⟨h1,e1⟩:=jQ.mp a;obtain⟨h2,e2⟩:=jQ.mp b;exact(List.getElem_inj hN).mp (e1.trans e2.symm)
theorem FJ{M:Model}{A:Around}{E:eK}{i:Nat}{x:Str}{v:V}{u:Value}{Q:Unit->Shared->Prop}(I:Inv X pq σ H s)(hN:X.N.Nodup)(hi:X.N[i]?=some x)(hx:Loc X.env.scope x)(r:RelV v u)
 (h:∀ s',Inv X pq (σ.set i (some v)) H s'->(∃ a,Heap.SameBut a s.heap s'.heap/\(a=X.env.locals\/X.env.cells.lookup x=some a))->Q () s') (hf:X.fn x=true\/X.env.scope.names.lookup x=some .local:=by first | exact .inl rfl | exact .inr rfl | assumption):wpAny M A (storeName X.env x u) Q E s:=by
 obtain⟨m,hn,hl⟩:=id I.loc;have hcls:(X.env.scope.kind == .class || (X.env.scope.kind == .module&&X.env.locals != X.env.globals))=false:=by rw[I.ok.kind];rfl
 have WI:i<σ.length:=by rw[I.len];exact(jQ.mp hi).1
 have Oc:=I.Oc;have tracked:∀{a:Addr} {h' : Heap},(∃ o,s.heap.get? a=some o/\H a=none)->Heap.SameBut a s.heap h'->nV X.prog X.w H h':=fun {a h'} ha hs b ob e=>by
  obtain⟨_,_,hfree⟩:=ha;refine(I.hok b ob e).stay (fun c w' hc q=>(hs.2 c ?_).trans q) (fun _ q=>q) fun _ _ q=>q
  rintro rfl;rcases hc with rfl|hc
  ·rw[hfree]at e;cases e
  ·rw[hfree]at hc;cases hc
 rcases hx with hk|hk
 ·refine wpAny_storeName_local hk hn (fun h' hn' hs=>?_) hcls
  obtain⟨oL,_,_,Cw,_⟩:=id hn;refine h _ ⟨I.ok,I.os,I.bare,⟨fun b o e n hb hx=>?_,fun b o e n hb hx=>?_,I.base.free,fun b o e hx=>?_,I.base.tups,I.base.lC,I.base.mY⟩,⟨_,hn',fun j y v' e1 e2 e3=>?_⟩,fun y c e=>?_,I.free,I.fK,fun p hp=>?_,tracked ⟨oL,Cw,I.free⟩ hs,by simpa using I.len⟩ ⟨_,hs,.inl rfl⟩
  ·exact(hs.2 b (Nat.ne_of_lt (Nat.lt_of_lt_of_le (Heap.lt_size e) I.ok.above))).trans (I.base.keep b o e n hb hx)
  ·obtain⟨sl,e1⟩:=I.base.slot b o e n hb hx;exact⟨sl,(hs.2 b (Nat.ne_of_lt (Nat.lt_of_lt_of_le (Heap.lt_size e) I.ok.above))).trans e1⟩
  ·obtain⟨o',e1⟩:=I.base.there b o e hx;exact⟨o',(hs.2 b (Nat.ne_of_lt (Nat.lt_of_lt_of_le (Heap.lt_size e) I.ok.above))).trans e1⟩
  ·by_cases hj:j=i
   ·subst hj;rw[hi]at e1;cases e1;rw[List.getElem?_set_self WI]at e2;cases e2;exact⟨u,r,.inl ⟨hk,by simp⟩⟩
   ·rw[List.getElem?_set_ne (Ne.symm hj)]at e2;obtain⟨u',r',q⟩:=hl j y v' e1 e2 e3;refine⟨u',r',?_⟩;rcases q with⟨k,e⟩|⟨k,c,e,z⟩
    ·refine .inl ⟨k,?_⟩;have:y≠x:=fun e=>hj (As hN e1 (e▸hi))
     simp[this,e]
    ·exact .inr ⟨k,c,e,z.sameBut hs (Oc y c e)⟩
  ·obtain⟨w',z⟩:=I.cell y c e;exact⟨w',z.sameBut hs (Oc y c e)⟩
  ·obtain⟨e,n,ne,nf,d⟩:=I.pin p hp;exact⟨(hs.2 p.1 ne).trans e,n,ne,nf,d⟩
 ·have hfn:X.fn x=true:=by
   rcases hf with z|z
   ·exact z
   ·rw[z]at hk;cases hk
  obtain⟨c,hc⟩:=I.ok.has x (.inl hk);obtain⟨w',z⟩:=I.cell x c hc;refine wpAny_storeName_cell I.ok.kind hk hc z (fun h' hc' hs=>?_)
  obtain⟨oc,hoc,UI⟩:=id z;refine h { s with heap:=h'} ⟨I.ok,I.os,I.bare,⟨fun b o e n hb hx=>?_,fun b o e n hb hx=>?_,I.base.free,fun b o e hx=>?_,I.base.tups,I.base.lC,I.base.mY⟩,⟨m,hn.sameBut hs (Ne.symm (Oc x c hc)),fun j y v' e1 e2 e3=>?_⟩,fun y c' e=>?_,I.free,I.fK,fun p hp=>?_,tracked ⟨oc,hoc,I.fK x c hc⟩ hs,by simpa using I.len⟩ ⟨c,hs,.inr hc⟩
  ·exact(hs.2 b (Nat.ne_of_lt (Nat.lt_of_lt_of_le (Heap.lt_size e) (I.ok.QO x c hfn hc)))).trans (I.base.keep b o e n hb hx)
  ·obtain⟨sl,e1⟩:=I.base.slot b o e n hb hx;exact⟨sl,(hs.2 b (Nat.ne_of_lt (Nat.lt_of_lt_of_le (Heap.lt_size e) (I.ok.QO x c hfn hc)))).trans e1⟩
  ·obtain⟨o',e1⟩:=I.base.there b o e hx;exact⟨o',(hs.2 b (Nat.ne_of_lt (Nat.lt_of_lt_of_le (Heap.lt_size e) (I.ok.QO x c hfn hc)))).trans e1⟩
  ·by_cases hj:j=i
   ·subst hj;rw[hi]at e1;cases e1;rw[List.getElem?_set_self WI]at e2;cases e2;exact⟨u,r,.inr ⟨.inl hk,c,hc,hc'⟩⟩
   ·rw[List.getElem?_set_ne (Ne.symm hj)]at e2;obtain⟨u',r',q⟩:=hl j y v' e1 e2 e3;refine⟨u',r',?_⟩;rcases q with q|⟨k,c',e,z'⟩
    ·exact .inl q
    ·refine .inr ⟨k,c',e,z'.sameBut hs ?_⟩;rintro rfl;exact hj (As hN e1 (I.ok.inj _ _ _ e hc▸hi))
  ·by_cases hcc:c' = c
   ·subst hcc;exact⟨_,hc'⟩
   ·obtain⟨w2,z2⟩:=I.cell y c' e;exact⟨w2,z2.sameBut hs hcc⟩
  ·obtain⟨e,n,ne,nf,d⟩:=I.pin p hp;refine⟨(hs.2 p.1 ?_).trans e,n,ne,nf,d⟩;intro q;rw[q,hoc]at e;have q' : oc=p.2:=Option.some.inj e;exact d w' (by rw[<-q'];exact UI)
theorem pZ{M:Model}{A:Around}{E:eK}{i:Nat}{x:Str}{v:V}{u:Value}{Q:Unit->Shared->Prop}(I:Inv X pq σ H s)(hN:X.N.Nodup)(hi:X.N[i]?=some x)(hx:Loc X.env.scope x)(r:RelV v u)
 (h:∀ s',Inv X pq (σ.set i (some v)) H s'->Q () s') (hf:X.fn x=true\/X.env.scope.names.lookup x=some .local:=by first | exact .inl rfl | exact .inr rfl | assumption):wpAny M A (storeName X.env x u) Q E s :=
 FJ I hN hi hx r (fun s' I' _=>h s' I') hf
theorem Inv.Ii{s' : Shared}{ch:List Addr}(I:Inv X pq σ H s)(ho:s'.os=s.os)(u:Un (frs X.stack) ch H H' s.heap s'.heap)(hok:nV X.prog X.w H' s'.heap)(hg:AllBare s'.gens)
 (hch:∀ b∈ch,(b∈X.ex\/X.s₀.heap.objs.size<=b)/\b≠X.env.locals/\(∀ x c,X.env.cells.lookup x=some c->c≠b)/\∀ p∈X.pn++pq,p.1≠b):Inv X pq σ H' s':=by
 obtain⟨h',g',d',t',o'⟩:=s';have e:o' = s.os:=ho;subst e;exact I.call (g':=g') (t':=t') (d':=d') u hok hg hch
end
abbrev XK:=Value->Option Addr->Hp->Prop
abbrev St:=List (Option V)
abbrev VK:=V->Hp->Prop
abbrev TE:=St->Hp->VK->Prop
abbrev TT:=St->Hp->(Bool->Hp->Prop)->Prop
abbrev TA:=St->Hp->(List V->Hp->Prop)->Prop
structure Ends where
 nx:St->Hp->Prop
 rt:VK
 bk:St->Hp->Prop:=fun _ _=>False
 ct:St->Hp->Prop:=fun _ _=>False
abbrev TS:=Ends->St->Hp->Prop
def EP(X:Cx)(pq:aR)(σ:St)(Q:VK)(u:Value)(s' : Shared):Prop:=∃ v H',Inv X pq σ H' s'/\RelV v u/\Q v H'
def TP(X:Cx)(pq:aR)(σ:St)(Q:Bool->Hp->Prop)(b:Bool)(s' : Shared):Prop:=∃ H',Inv X pq σ H' s'/\Q b H'
def AP(X:Cx)(pq:aR)(σ:St)(Q:List V->Hp->Prop)(us:List Value)(s' : Shared):Prop:=∃ vs H',Inv X pq σ H' s'/\Vals vs us/\Q vs H'
def SP(X:Cx)(pq:aR)(D:Ends)(f:Flow)(s' : Shared):Prop :=
 match f with
 | .next=>∃ σ' H',Inv X pq σ' H' s'/\D.nx σ' H'
 | .brk=>∃ σ' H',Inv X pq σ' H' s'/\D.bk σ' H'
 | .cont=>∃ σ' H',Inv X pq σ' H' s'/\D.ct σ' H'
 | .ret u=>∃ v σ' H',Inv X pq σ' H' s'/\RelV v u/\D.rt v H'
def PE(X:Cx)(e:Expr)(t:TE):Prop :=
 ∀(pq:aR) (s:Shared) (σ:St) (H:Hp) (Q:VK),Inv X pq σ H s->t σ H Q->wpAny (model X.prog X.w) X.A (eval e X.env) (EP X pq σ Q) X.xe s
def PT(X:Cx)(e:Expr)(t:TT):Prop :=
 ∀(pq:aR) (s:Shared) (σ:St) (H:Hp) (Q:Bool->Hp->Prop),Inv X pq σ H s->t σ H Q->wpAny (model X.prog X.w) X.A (isTrue e X.env (eval e X.env)) (TP X pq σ Q) X.xe s
def PW(X:Cx)(e:Expr)(t:TT):Prop :=
 ∀(whole:Sem Value) (pq:aR) (s:Shared) (σ:St) (H:Hp) (Q:Bool->Hp->Prop),Inv X pq σ H s->t σ H Q->wpAny (model X.prog X.w) X.A (isTrue e X.env whole) (TP X pq σ Q) X.xe s
theorem PW.pt{X:Cx}{e:Expr}{t:TT}(h:PW X e t):PT X e t:=h _
def PA(X:Cx)(es:List Expr)(t:TA):Prop :=
 ∀(pos:Pos) (pq:aR) (s:Shared) (σ:St) (H:Hp) (Q:List V->Hp->Prop),Inv X pq σ H s->t σ H Q->wpAny (model X.prog X.w) X.A (spliced (backTo pos (starEach es X.env))) (AP X pq σ Q) X.xe s
def PS(X:Cx)(st:Stmt)(t:TS):Prop :=
 ∀(pq:aR) (s:Shared) (σ:St) (H:Hp) (D:Ends),Inv X pq σ H s->t D σ H->wpAny (model X.prog X.w) X.A (exec st X.env) (SP X pq D) X.xe s
def xJ(X:Cx)(st:List Stmt)(t:TS):Prop :=
 ∀(pq:aR) (s:Shared) (σ:St) (H:Hp) (D:Ends),Inv X pq σ H s->t D σ H->wpAny (model X.prog X.w) X.A (execs st X.env) (SP X pq D) X.xe s
theorem dH{α:Type}{t:Sem α}{Q Q' : α->Shared->Prop}{M:Model}{A:Around}{E:eK}{s:Shared}(h:wpAny M A t Q E s)(hQ:∀ a s,Q a s->Q' a s):wpAny M A t Q' E s:=wpAny_mono h hQ fun _ _ x=>x
section
variable {X:Cx}
def QU(i:Nat):TE:=fun σ H Q=>∃ v,σ[i]?=some (some v)/\Q v H
def tC(v:V):TE:=fun _ H Q=>Q v H
theorem Od{i:Nat}{x:Str}{pos:Pos}(hN:X.N[i]?=some x)(hv:Tz X.env.scope x)(hd:(x==("__debug__":Str))=false:=by decide)(hcd:(x==("__classdict__":Str))=false:=by decide):PE X (.Name x pos) (QU i):=by
 intro pq s σ H Q I h;obtain⟨v,e,h⟩:=h;obtain⟨m,hn,hl⟩:=I.loc;obtain⟨u,r,l⟩:=hl i x v hN e hv;have fin:EP X pq σ Q u s:=⟨v,H,I,r,h⟩;rcases l with⟨hk,hm⟩|⟨hk,c,hc,hcell⟩
 ·exact wpAny_Name (wpAny_loadName_local I.ok.kind hk hn hm fin) hd
 ·rcases hk with hk|hk
  ·exact wpAny_Name (wpAny_loadName_cell I.ok.kind hk hc hcell fin) hd
  ·exact wpAny_Name (wpAny_loadName_free I.ok.kind hk hc hcell fin hcd) hd
theorem aj{i j pos}:PE X (.Constant (.int i) j pos) (tC (.int i)):=fun _ _ _ H _ I h=>wpAny_Constant_int ⟨.int i,H,I.tok _,⟨_,rfl⟩,h⟩
theorem mS{b j pos}:PE X (.Constant (.bool b) j pos) (tC (.bl b)):=fun _ _ _ H _ I h=>Constant_bool ⟨.bl b,H,I,rfl,h⟩
theorem qQ{j pos}:PE X (.Constant .none j pos) (tC .fD):=fun _ _ _ H _ I h=>Constant_none ⟨.fD,H,I,rfl,h⟩
theorem fF{x j pos}:PE X (.Constant (.str x) j pos) (tC (.str x)):=fun _ _ _ H _ I h=>Calls.Constant_str ⟨.str x,H,I.tok _,⟨_,rfl⟩,h⟩
def Gl(X:Cx)(x:Str):Prop:=X.env.kindOf x=some .globalImplicit
theorem yJ{E:eK}{pq:aR}{s:Shared}{σ:St}{H:Hp}{x:Str}{u:Value}{pos:Pos}{Q:eK}(I:Inv X pq σ H s)(hg:Gl X x)(hm:X.mg x=some u)(h:Q u s)
 (hd:(x==("__debug__":Str))=false:=by decide):wpAny (model X.prog X.w) X.A (eval (.Name x pos) X.env) Q E s :=
 Calls.Name_function_global I.ok.kind hg (Calls.loadGlobal_global (by rw[I.ok.glob];exact I.mod.glob.keeps I.bk) hm h) hd
theorem lD{E:eK}{pq:aR}{s:Shared}{σ:St}{H:Hp}{x:Str}{u:Value}{pos:Pos}{Q:eK}(I:Inv X pq σ H s)(hg:Gl X x)(hm:X.mg x=none)(hv:bootBuiltins x=some u)(h:Q u s)
 (hn:x≠"__name__":=by decide) (hd:(x==("__debug__":Str))=false:=by decide):wpAny (model X.prog X.w) X.A (eval (.Name x pos) X.env) Q E s:=by
 obtain⟨mb,h1,h2⟩:=I.mod.blt;exact Calls.Name_function_global I.ok.kind hg (Calls.loadGlobal_builtin (by rw[I.ok.glob];exact I.mod.glob.keeps I.bk) hm (by rw[I.ok.blt];exact h1.keeps I.bk) ((h2 x hn).trans hv) h) hd
theorem LM{x:Str}{v:V}{u:Value}{pos:Pos}(hg:Gl X x)(hm:X.mg x=some u)(r:RelV v u)(hd:(x==("__debug__":Str))=false:=by decide):PE X (.Name x pos) (tC v) :=
 fun _ _ _ H _ I h=>yJ I hg hm ⟨v,H,I,r,h⟩ hd
variable {a b:Expr}{ta tb:TE}{pos:Pos}
def tB(t:TE):TT:=fun σ H Q=>t σ H fun x H1=>∃ c,x = .bl c/\Q c H1
theorem c9{e:Expr}{t:TE}(h:PE X e t)(he:∀ whole,isTrue e X.env whole=(do let v←whole;standAt e.pos;holding [v] (truthy v)):=by intro _;rfl):PT X e (tB t):=by
 intro pq s σ H Q I hw;refine isTrue_plain (dH (h pq s σ H _ I hw) fun v s1 ⟨x,H1,I1,r1,q1⟩=>?_) (he _)
 obtain⟨d,rfl,q⟩:=q1;cases r1;exact wpAny_truthy_bool ⟨H1,I1,q⟩
variable {tA TL:TT}{rest:List Expr}
def UJ(t u:TT):TT:=fun σ H Q=>t σ H fun c H1=>if c=true then u σ H1 Q else Q false H1
def Zm(t u:TT):TT:=fun σ H Q=>t σ H fun c H1=>if c=true then Q true H1 else u σ H1 Q
def UK(t:TT):TT:=fun σ H Q=>t σ H fun c H1=>Q (!c) H1
theorem jT(ha:PT X a tA):PW X (.BoolOp .And [a] pos) tA:=by
 intro wh pq s σ H Q I h;refine isTrue_and (dH (ha pq s σ H Q I h) fun c s1 e=>?_)
 cases c with
 | true=>exact isTrue_and_nil e
 | false=>exact e
theorem o7(ha:PT X a tA):PW X (.BoolOp .Or [a] pos) tA:=by
 intro wh pq s σ H Q I h;refine isTrue_or (dH (ha pq s σ H Q I h) fun c s1 e=>?_)
 cases c with
 | false=>exact isTrue_or_nil e
 | true=>exact e
theorem mZ(ha:PT X a tA)(hb:PW X (.BoolOp .And (b::rest) pos) TL):PW X (.BoolOp .And (a::b::rest) pos) (UJ tA TL):=by
 intro wh pq s σ H Q I h;refine isTrue_and (dH (ha pq s σ H _ I h) fun c s1 ⟨H1,I1,q1⟩=>?_)
 cases c with
 | true=>exact hb wh pq s1 σ H1 Q I1 q1
 | false=>exact⟨H1,I1,q1⟩
theorem uA(ha:PT X a tA)(hb:PW X (.BoolOp .Or (b::rest) pos) TL):PW X (.BoolOp .Or (a::b::rest) pos) (Zm tA TL):=by
 intro wh pq s σ H Q I h;refine isTrue_or (dH (ha pq s σ H _ I h) fun c s1 ⟨H1,I1,q1⟩=>?_)
 cases c with
 | true=>exact⟨H1,I1,q1⟩
 | false=>exact hb wh pq s1 σ H1 Q I1 q1
theorem o8(ha:PT X a tA):PT X (.UnaryOp .Not a pos) (UK tA):=by
 intro pq s σ H Q I h;exact isTrue_not (ha pq s σ H (fun c H1=>Q (!c) H1) I h)
def QV(ta tb:TE):TE:=fun σ H Q=>ta σ H fun x H1=>∃ c,x = .bl c/\if c=true then tb σ H1 Q else Q (.bl false) H1
def QW(ta:TE):TE:=fun σ H Q=>ta σ H fun x H1=>∃ c,x = .bl c/\Q (.bl (!c)) H1
theorem CD{op}{t:TE}(h:PE X a t):PE X (.BoolOp op [a] pos) t:=fun pq s σ H Q I hw=>BoolOp_one (h pq s σ H Q I hw)
theorem CF(ha:PE X a ta)(hb:PE X (.BoolOp .And (b::rest) pos) tb):PE X (.BoolOp .And (a::b::rest) pos) (QV ta tb):=by
 intro pq s σ H Q I h;refine BoolOp_and (dH (ha pq s σ H _ I h) fun v s1 ⟨x,H1,I1,r1,q1⟩=>?_)
 obtain⟨c,rfl,q1⟩:=q1;cases r1;refine wpAny_truthy_bool ?_;cases c with
 | true=>exact hb pq s1 σ H1 Q I1 q1
 | false=>exact⟨.bl false,H1,I1,rfl,q1⟩
theorem Oe(ha:PE X a ta):PE X (.UnaryOp .Not a pos) (QW ta):=by
 intro pq s σ H Q I h;refine UnaryOp_ (dH (ha pq s σ H _ I h) fun v s1 ⟨x,H1,I1,r1,q1⟩=>?_)
 obtain⟨c,rfl,q1⟩:=q1;cases r1;exact not_of (wpAny_truthy_bool ⟨.bl (!c),H1,I1,rfl,q1⟩)
def Zn(t:TT)(ta tb:TE):TE:=fun σ H Q=>t σ H fun c H1=>if c=true then ta σ H1 Q else tb σ H1 Q
theorem m4{c:Expr}(hc:PT X c tA)(ha:PE X a ta)(hb:PE X b tb):PE X (.IfExp c a b pos) (Zn tA ta tb):=by
 intro pq s σ H Q I h;refine wpAny_IfExp (dH (hc pq s σ H _ I h) fun d s1 ⟨H1,I1,q1⟩=>?_)
 cases d with
 | true=>exact ha pq s1 σ H1 Q I1 q1
 | false=>exact hb pq s1 σ H1 Q I1 q1
end
def aM(K:bW)(H:Hp)(a:Addr)(xs:List V):Prop :=
 Rd H a (.lst xs)\/
  ∃(o:Obj) (its:Array Value) (n:Nat),K.lookup a=some o/\o.cls = .type "list"/\o.dict=none/\o.data = .seq its n/\its.size<=sizeLine/\Vals xs its.toList
def aV(K:bW)(H:Hp)(a:Addr)(xs:List V):Prop :=
 Rd H a (.tup xs)\/
  ∃(o:Obj) (its:Array Value) (n:Nat),K.lookup a=some o/\o.cls = .type "tuple"/\o.data = .seq its n/\its.size<=sizeLine/\Vals xs its.toList
def UL:Value->Option V
 | .none=>some .fD
 | .bool b=>some (.bl b)
 | .int i _=>some (.int i)
 | .str x _=>some (.str x)
 | .bytes b _=>some (.Ic b)
 | .float b _=>some (.UE b)
 | .ref a=>some (.ref a)
 | .type n=>some (.ty n)
 | _=>none
theorem RelV.abs{x:V}{u:Value}(r:RelV x u):UL u=some x:=by
 cases x with
 | fD=>cases r;rfl
 | bl _=>cases r;rfl
 | int _=>obtain⟨t,rfl⟩:=r;rfl
 | str _=>obtain⟨t,rfl⟩:=r;rfl
 | Ic _=>obtain⟨t,rfl⟩:=r;rfl
 | UE _=>obtain⟨t,rfl⟩:=r;rfl
 | ref _=>cases r;rfl
 | ty _=>cases r;rfl
theorem RelV.inj{x y:V}{u:Value}(r:RelV x u)(q:RelV y u):x=y:=Option.some.inj (r.abs.symm.trans q.abs)
theorem Vals.inj:∀{xs ys:List V} {us:List Value},Vals xs us->Vals ys us->xs=ys
 | _,_,_,.nil,.nil=>rfl
 | _,_,_,.cons r t,.cons r' t'=>by rw[r.inj r',Vals.inj t t']
section
variable {X:Cx}{pq:aR}{σ:St}{H:Hp}{s:Shared}{a:Addr}{xs ys:List V}
theorem aM.of{K:bW}(h:H a=some (.lst xs)):aM K H a xs:=.inl (.inl h)
theorem aV.of{K:bW}(h:H a=some (.tup xs)):aV K H a xs:=.inl (.inl h)
theorem Inv.list(I:Inv X pq σ H s)(h:aM X.K H a xs):∃ its:List Value,Vals xs its/\PlainL s.heap a its.toArray/\xs.length<=sizeLine:=by
 rcases h with h|⟨o,its,n,hk,hc,hd,hs,hz,r⟩
 ·obtain⟨z,its,n,r,e⟩:=h.ok I.hok;exact⟨its,r,⟨_,n,e,rfl,rfl,rfl⟩,z⟩
 ·refine⟨its.toList,r,⟨o,n,I.Ob a o hk,hc,hd,by simpa using hs⟩,?_⟩
  have e:=r.length;simp only[Array.length_toList]at e
  lia
theorem Inv.tuple(I:Inv X pq σ H s)(h:aV X.K H a xs):∃ its:List Value,Vals xs its/\IsTup s.heap a its.toArray/\xs.length<=sizeLine:=by
 rcases h with h|⟨o,its,n,hk,hc,hs,hz,r⟩
 ·obtain⟨z,its,r,p⟩:=h.ok I.hok;exact⟨its,r,p,z⟩
 ·refine⟨its.toList,r,⟨o,I.Ob a o hk,hc,n,by simpa using hs⟩,?_⟩
  have e:=r.length;simp only[Array.length_toList]at e
  lia
theorem Inv.p5(I:Inv X pq σ H s)(h:aM X.K H a xs)(h' : aM X.K H a ys):xs=ys:=by
 obtain⟨its,r,⟨o,n,e,_,_,d⟩,_⟩:=I.list h;obtain⟨its',r',⟨o',n',e',_,_,d'⟩,_⟩:=I.list h';rw[e]at e';cases e';rw[d]at d';injection d' with d1 _
 have:its=its':=by simpa using congrArg Array.toList d1
 subst this;exact r.inj r'
theorem Inv.xK(I:Inv X pq σ H s)(h:aV X.K H a xs)(h' : aV X.K H a ys):xs=ys:=by
 obtain⟨its,r,⟨o,e,_,n,d⟩,_⟩:=I.tuple h;obtain⟨its',r',⟨o',e',_,n',d'⟩,_⟩:=I.tuple h';rw[e]at e';cases e';rw[d]at d';injection d' with d1 _
 have:its=its':=by simpa using congrArg Array.toList d1
 subst this;exact r.inj r'
end
abbrev Cx.uB(X:Cx)(E:eK):Cx:={ X with xe:=E}
abbrev Cx.Cy(X:Cx):Cx:=X.uB fun _ _=>False
theorem Cx.Ok.uB{X:Cx}(ok:X.Ok)(E:eK):(X.uB E).Ok :=
 ⟨ok.mod,ok.kind,ok.glob,ok.blt,ok.above,ok.inj,ok.has,ok.QO,ok.hd,ok.frames,ok.LJ,ok.WE,ok.bs,ok.LK,ok.Ih,ok.LL,ok.funs,ok.Oa⟩
theorem Cx.Ok.jv{X:Cx}{E:eK}(ok:(X.uB E).Ok):X.Ok :=
 ⟨ok.mod,ok.kind,ok.glob,ok.blt,ok.above,ok.inj,ok.has,ok.QO,ok.hd,ok.frames,ok.LJ,ok.WE,ok.bs,ok.LK,ok.Ih,ok.LL,ok.funs,ok.Oa⟩
section
variable {X:Cx}{pq:aR}{σ:St}{H:Hp}{s:Shared}{E:eK}
theorem Inv.uB(I:Inv X pq σ H s)(E:eK):Inv (X.uB E) pq σ H s:=⟨I.ok.uB E,I.os,I.bare,I.base,I.loc,I.cell,I.free,I.fK,I.pin,I.hok,I.len⟩
theorem Inv.jv(I:Inv (X.uB E) pq σ H s):Inv X pq σ H s:=⟨I.ok.jv,I.os,I.bare,I.base,I.loc,I.cell,I.free,I.fK,I.pin,I.hok,I.len⟩
theorem SP.jv{D:Ends}{f:Flow}{s' : Shared}(h:SP (X.uB E) pq D f s'):SP X pq D f s':=by
 cases f with
 | next=>obtain⟨σ',H',I,q⟩:=h;exact⟨σ',H',I.jv,q⟩
 | brk=>obtain⟨σ',H',I,q⟩:=h;exact⟨σ',H',I.jv,q⟩
 | cont=>obtain⟨σ',H',I,q⟩:=h;exact⟨σ',H',I.jv,q⟩
 | ret u=>obtain⟨v,σ',H',I,r,q⟩:=h;exact⟨v,σ',H',I.jv,r,q⟩
theorem xJ.Cy{st:List Stmt}{t:TS}(h:xJ X.Cy st t):xJ X st t:=fun pq s σ H D I hw =>
 wpAny_mono (h pq s σ H D (I.uB _) hw) (fun _ _ q=>q.jv) fun _ _ z=>False.elim z
end
section
variable {X:Cx}{st:Stmt}{rest:List Stmt}{t u:TS}{e:Expr}{te:TE}{pos:Pos}
def aX:TS:=fun D σ H=>D.nx σ H
def Ends.on(D:Ends)(u:TS):Ends:={ D with nx:=u D}
def aA(t u:TS):TS:=fun D σ H=>t (D.on u) σ H
theorem aW:xJ X [] aX:=fun _ _ σ H _ I h=>wpAny_execs_nil ⟨σ,H,I,h⟩
theorem ah(h1:PS X st t)(h2:xJ X rest u):xJ X (st::rest) (aA t u):=by
 intro pq s σ H D I h;refine wpAny_execs_cons (dH (h1 pq s σ H { D with nx:=u D} I h) fun f s1 q=>?_)
 cases f with
 | next =>
   obtain⟨σ',H',I',q⟩:=q;exact h2 pq s1 σ' H' D I' q
 | ret v=>exact q
 | brk=>exact q
 | cont=>exact q
theorem av(h1:PS X st t):xJ X [st] t:=by
 intro pq s σ H D I h;refine wpAny_execs_cons (dH (h1 pq s σ H D I h) fun f s1 q=>?_)
 cases f with
 | next=>exact wpAny_execs_nil q
 | ret v=>exact q
 | brk=>exact q
 | cont=>exact q
theorem Inv.quiet{pq:aR}{σ:St}{H:Hp}{s:Shared}(I:Inv X pq σ H s):interactive X.env=false:=by simp[interactive,I.ok.kind]
def QX(te:TE):TS:=fun D σ H=>te σ H fun _ H1=>D.nx σ H1
theorem cR(he:PE X e te)(hs:swapsWith e none pos.line X.env=pure false:=by rfl):PS X (.Expr e pos) (QX te):=by
 intro pq s σ H D I h;exact wpAny_Expr_any (dH (he pq s σ H _ I h) fun v s1 ⟨x,H1,I1,r1,q1⟩=>⟨σ,H1,I1,q1⟩) I.quiet hs
def UM(te:TE):TS:=fun D σ H=>te σ H D.rt
theorem aH(he:PE X e te):PS X (.Return (some e) pos) (UM te):=by
 intro pq s σ H D I h;exact wpAny_Return_some (dH (he pq s σ H _ I h) fun v s1 ⟨x,H1,I1,r1,q1⟩=>⟨x,σ,H1,I1,r1,q1⟩)
def bX(c:TT)(t u:TS):TS:=fun D σ H=>c σ H fun b H1=>if b=true then t D σ H1 else u D σ H1
theorem b7{c:Expr}{a b:List Stmt}{tc:TT}(hc:PT X c tc)(ha:xJ X a t)(hb:xJ X b u):PS X (.If c a b pos) (bX tc t u):=by
 intro pq s σ H D I h;refine wpAny_If (dH (hc pq s σ H _ I h) fun d s1 ⟨H1,I1,q1⟩=>?_)
 cases d with
 | true=>exact ha pq s1 σ H1 D I1 q1
 | false=>exact hb pq s1 σ H1 D I1 q1
def Of:TS:=fun _ _ _=>False
theorem xM{sts:List Stmt}:xJ X sts Of:=fun _ _ _ _ _ _ h=>h.elim
end
abbrev TG:=V->St->Hp->(St->Hp->Prop)->Prop
abbrev Ln:=List V->St->Hp->(St->Hp->Prop)->Prop
def PG(X:Cx)(target:Expr)(t:TG):Prop :=
 ∀(pq:aR) (s:Shared) (σ:St) (H:Hp) (v:V) (u:Value) (Q:St->Hp->Prop),Inv X pq σ H s->RelV v u->t v σ H Q->
  wpAny (model X.prog X.w) X.A (assign target X.env u) (fun _ s'=>∃ σ' H',Inv X pq σ' H' s'/\Q σ' H') X.xe s
def Qm(X:Cx)(ts:List Expr)(t:Ln):Prop :=
 ∀(pq:aR) (s:Shared) (σ:St) (H:Hp) (vs:List V) (us:List Value) (Q:St->Hp->Prop),Inv X pq σ H s->Vals vs us->t vs σ H Q->
  wpAny (model X.prog X.w) X.A (assignInOrder ((assignEach ts X.env).map (·.2)) us) (fun _ s'=>∃ σ' H',Inv X pq σ' H' s'/\Q σ' H') X.xe s
abbrev Ij:=V->V->V->Hp->(Hp->Prop)->Prop
def Og(X:Cx)(t:Ij):Prop :=
 ∀(pq:aR) (s:Shared) (σ:St) (H:Hp) (o i v:V) (ov iv u:Value) (Q:Hp->Prop),Inv X pq σ H s->RelV o ov->RelV i iv->RelV v u->t o i v H Q->
  wpAny (model X.prog X.w) X.A (setItem ov iv u) (fun _ s'=>∃ H',Inv X pq σ H' s'/\Q H') X.xe s
abbrev QY:=V->V->Hp->VK->Prop
def WJ(X:Cx)(op:Operator)(t:QY):Prop :=
 ∀(pq:aR) (s:Shared) (σ:St) (H:Hp) (x y:V) (v u:Value) (Q:VK),Inv X pq σ H s->RelV x v->RelV y u->t x y H Q->
  wpAny (model X.prog X.w) X.A (inplaceOp op v u) (EP X pq σ Q) X.xe s
section
variable {X:Cx}{pos:Pos}
def Ik(i:Nat):TG:=fun v σ H Q=>Q (σ.set i (some v)) H
theorem uc{i:Nat}{x:Str}(hN:X.N.Nodup)(hi:X.N[i]?=some x)(hx:Loc X.env.scope x)(hf:X.fn x=true\/X.env.scope.names.lookup x=some .local:=by first | exact .inl rfl | exact .inr rfl | assumption):PG X (.Name x pos) (Ik i):=by
 intro pq s σ H v u Q I r h;exact wpAny_assign_Name (pZ I hN hi hx r (fun s' I'=>⟨_,H,I',h⟩) hf)
def UN:Ln:=fun vs σ H Q=>vs=[]/\Q σ H
def QZ(t:TG)(u:Ln):Ln:=fun vs σ H Q=>∃ v r,vs=v::r/\t v σ H fun σ' H'=>u r σ' H' Q
theorem eW:Qm X [] UN:=by
 intro pq s σ H vs us Q I r h;obtain⟨e,h⟩:=h;subst e;cases r;exact assignInOrder_nil ⟨σ,H,I,h⟩
theorem aP{e:Expr}{es:List Expr}{t:TG}{u:Ln}(h1:PG X e t)(h2:Qm X es u)
 (hs:(assignEach (e::es) X.env).map (·.2)=assign e X.env::(assignEach es X.env).map (·.2):=by rfl):Qm X (e::es) (QZ t u):=by
 intro pq s σ H vs us Q I r h;obtain⟨v,vr,e1,h⟩:=h;subst e1;cases r with
 | cons r rr =>
   rw[hs];refine assignInOrder_cons (dH (h1 pq s σ H _ _ _ I r h) fun _ s1 ⟨σ1,H1,I1,q1⟩=>?_)
   exact h2 pq s1 σ1 H1 _ _ Q I1 rr q1
def Q0(K:bW)(n:Nat)(t:Ln):TG:=fun v σ H Q=>∃ a xs,v = .ref a/\aV K H a xs/\xs.length=n/\t xs σ H Q
theorem Oh{es:List Expr}{k:Nat}{t:Ln}{n:Nat}(hc:X.calm=true)(h:Qm X es t)
 (hn:(assignEach es X.env).length=n:=by rfl) (hst:(assignEach es X.env).findIdx? (·.1)=none:=by rfl):PG X (.Tuple es k pos) (Q0 X.K n t):=by
 intro pq s σ H v u Q I r hw;obtain⟨a,xs,e1,hq,hl,hw⟩:=hw;subst e1;cases r;obtain⟨its,rv,ht,hz⟩:=I.tuple hq;refine assign_Tuple_tuple (I.ok.hd hc) ht (by simp[hn,<-hl,rv.length]) hst fun h' hx=>?_
 have I1:Inv X pq σ H { s with heap:=h'}:=I.kept (t':=s.toks) fun b o e=>hx b o (Nat.ne_of_lt (Heap.lt_size e)) e
 exact h pq _ σ H xs _ Q I1 (by simpa using rv) hw
def UO(to ti:TE)(t:Ij):TG:=fun v σ H Q=>to σ H fun o H1=>ti σ H1 fun i H2=>t o i v H2 fun H3=>Q σ H3
theorem CG{o i:Expr}{to ti:TE}{t:Ij}(ho:PE X o to)(hi:PE X i ti)(hs:Og X t)
 (ha:∀ v,assign (.Subscript o i pos) X.env v=(do
  let ov←holding [v] (eval o X.env)
  let iv←holding [v,ov] (eval i X.env)
  standAt pos
  holding [v,ov,iv] (setItem ov iv v)
  release [v,ov,iv] []):=by intro _;rfl):PG X (.Subscript o i pos) (UO to ti t):=by
 intro pq s σ H v u Q I r h;rw[ha];refine aQ (wpAny_holding (dH (ho pq s σ H _ I h) fun ov s1 ⟨x,H1,I1,r1,q1⟩=>?_))
 refine aQ (wpAny_holding (dH (hi pq s1 σ H1 _ I1 q1) fun iv s2 ⟨y,H2,I2,r2,q2⟩=>?_))
 refine aQ (wpAny_standAt (aQ (wpAny_holding (dH (hs pq s2 σ H2 x y v ov iv u _ I2 r1 r2 r q2) fun _ s3 ⟨H3,I3,q3⟩=>?_))))
 exact wpAny_release ⟨σ,H3,I3,q3⟩
def Q2(te:TE)(g:TG):TS:=fun D σ H=>te σ H fun x H1=>g x σ H1 D.nx
theorem CH{tg e:Expr}{te:TE}{g:TG}(he:PE X e te)(hg:PG X tg g)(hs:swapsWithSole [tg] e pos.line X.env=pure false:=by rfl)(hw:swappedStores [tg] e X.env=pure none:=by rfl)
 (h1:(assignEach [tg] X.env).map (·.2)=[assign tg X.env]:=by rfl):PS X (.Assign [tg] e pos) (Q2 te g):=by
 intro pq s σ H D I h;refine wpAny_Assign_stores (dH (he pq s σ H _ I h) fun v s1 ⟨x,H1,I1,r1,q1⟩=>?_) hs hw
 rw[h1];exact dH (hg pq s1 σ H1 x v _ I1 r1 q1) fun _ s2 q=>q
theorem aG{i:Nat}{x:Str}{e:Expr}{te:TE}{pos' : Pos}(hN:X.N.Nodup)(hi:X.N[i]?=some x)(hx:Loc X.env.scope x)(he:PE X e te)(hs:swapsWith e (some (.Name x pos')) pos.line X.env=pure false:=by rfl)(hf:X.fn x=true\/X.env.scope.names.lookup x=some .local:=by first | exact .inl rfl | exact .inr rfl | assumption):
 PS X (.Assign [.Name x pos'] e pos) (Q2 te (Ik i)):=by
 intro pq s σ H D I h;refine wpAny_Assign_Name (dH (he pq s σ H _ I h) fun v s1 ⟨y,H1,I1,r1,q1⟩=>?_) hs
 exact pZ I1 hN hi hx r1 (fun s2 I2=>⟨_,H1,I2,q1⟩) hf
def UP(i:Nat)(te:TE)(ti:QY):TS:=fun D σ H=>∃ x,σ[i]?=some (some x)/\te σ H fun y H1=>ti x y H1 fun z H2=>D.nx (σ.set i (some z)) H2
theorem uC{i:Nat}{x:Str}{e:Expr}{te:TE}{op:Operator}{ti:QY}{pos' : Pos}(hN:X.N.Nodup)(hi:X.N[i]?=some x)(hx:Loc X.env.scope x)(he:PE X e te)(ho:WJ X op ti)(hf:X.fn x=true\/X.env.scope.names.lookup x=some .local:=by first | exact .inl rfl | exact .inr rfl | assumption):
 PS X (.AugAssign (.Name x pos') op e pos) (UP i te ti):=by
 intro pq s σ H D I h;obtain⟨v,e1,h⟩:=h;obtain⟨m,hn,hl⟩:=I.loc;have Zo:Tz X.env.scope x:=by rcases hx with k | k;exact .inl k;exact .inr (.inl k)
 obtain⟨u,r,l⟩:=hl i x v hi e1 Zo;refine wpAny_AugAssign_Name ?_;have go:wpAny (model X.prog X.w) X.A (eval e X.env) (fun w s₂=>wpAny (model X.prog X.w) X.A (inplaceOp op u w) (fun r s₃=>wpAny (model X.prog X.w) X.A (storeName X.env x r) (fun _=>SP X pq D .next) X.xe s₃) X.xe s₂) X.xe s:=by
  refine dH (he pq s σ H _ I h) fun w s1 ⟨y,H1,I1,r1,q1⟩=>?_
  refine dH (ho pq s1 σ H1 v y u w _ I1 r r1 q1) fun z s2 ⟨zv,H2,I2,r2,q2⟩=>?_
  exact pZ I2 hN hi hx r2 (fun s3 I3=>⟨_,H2,I3,q2⟩) hf
 rcases l with⟨hk,hm⟩|⟨hk,c,hc,hcell⟩
 ·exact wpAny_loadName_local I.ok.kind hk hn hm go
 ·rcases hk with hk|hk
  ·exact wpAny_loadName_cell I.ok.kind hk hc hcell go
  ·rcases hx with k|k
   ·have:X.env.scope.names.lookup x=some .free:=hk;rw[k]at this;cases this
   ·have:X.env.scope.names.lookup x=some .free:=hk;rw[k]at this;cases this
def Q3(to ti te:TE)(LN:V->V->Hp->VK->Prop)(TM:QY)(LO:Ij):TS:=fun D σ H=>to σ H fun o H1=>ti σ H1 fun i H2=>LN o i H2 fun x H3=>te σ H3 fun y H4=>TM x y H4 fun z H5=>LO o i z H5 fun H6=>D.nx σ H6
def Q4(X:Cx)(t:V->V->Hp->VK->Prop):Prop :=
 ∀(pq:aR) (s:Shared) (σ:St) (H:Hp) (o i:V) (ov iv:Value) (Q:VK),Inv X pq σ H s->RelV o ov->RelV i iv->t o i H Q->
  wpAny (model X.prog X.w) X.A (getItem ov iv) (EP X pq σ Q) X.xe s
theorem Ey{o i e:Expr}{to ti te:TE}{LN:V->V->Hp->VK->Prop}{TM:QY}{LO:Ij}{op:Operator}{tpos:Pos}(ho:PE X o to)(hi:PE X i ti)(hg:Q4 X LN)(he:PE X e te)(hp:WJ X op TM)(hs:Og X LO)
 (ha:∀ ov iv new,augStore i ov iv new=(do holding [new,ov,iv] (setItem ov iv new);release [new,ov,iv] [];pure .next):=by intros;rfl):PS X (.AugAssign (.Subscript o i tpos) op e pos) (Q3 to ti te LN TM LO):=by
 intro pq s σ H D I h;refine wpAny_AugAssign_SubscriptAny (dH (ho pq s σ H _ I h) fun ov s1 ⟨x1,H1,I1,r1,q1⟩=>?_) ha
 refine dH (hi pq s1 σ H1 _ I1 q1) fun iv s2 ⟨x2,H2,I2,r2,q2⟩=>?_
 refine dH (hg pq s2 σ H2 x1 x2 ov iv _ I2 r1 r2 q2) fun old s3 ⟨x3,H3,I3,r3,q3⟩=>?_
 refine dH (he pq s3 σ H3 _ I3 q3) fun v s4 ⟨x4,H4,I4,r4,q4⟩=>?_
 refine dH (hp pq s4 σ H4 x3 x4 old v _ I4 r3 r4 q4) fun new s5 ⟨x5,H5,I5,r5,q5⟩=>?_
 exact dH (hs pq s5 σ H5 x1 x2 x5 ov iv new _ I5 r1 r2 r5 q5) fun _ s6 ⟨H6,I6,q6⟩=>⟨σ,H6,I6,q6⟩
def uD(c:TT)(tb:TS):TS:=fun D σ H=>∃ W:Nat->St->Hp->Prop,(∃ m,W m σ H)/\∀ m σ H,W m σ H->
 c σ H fun b H1=>if b=true then ∃ N:St->Hp->Prop,(∀ σ' H',N σ' H'->∃ m',m'<m/\W m' σ' H')/\tb { D with nx:=N,ct:=N,bk:=D.nx} σ H1 else D.nx σ H1
theorem Au{c:Expr}{body:List Stmt}{tc:TT}{tb:TS}(hp:PassesOwn (model X.prog X.w) X.A X.env X.xe)(hc:PT X c tc)(hb:xJ X body tb):PS X (.While c body [] pos) (uD tc tb):=by
 intro pq s σ H D I h;obtain⟨W,⟨m0,w0⟩,turn⟩:=h;refine wpAny_While (codeAny_whileLoop (fun n s'=>∃ σ' H',Inv X pq σ' H' s'/\W n σ' H') ?_ m0 ⟨σ,H,I,w0⟩)
 rintro n s1 ⟨σ1,H1,I1,w1⟩;refine wpAny_passesOwn hp (dH (hc pq s1 σ1 H1 _ I1 (turn n σ1 H1 w1)) fun b s2 ⟨H2,I2,q2⟩=>?_)
 cases b with
 | true =>
   obtain⟨N,hN,q2⟩:=q2;rw[if_pos rfl];refine wpAny_passesOwn hp (dH (hb pq s2 σ1 H2 _ I2 q2) fun f s3 q3=>?_)
   cases f with
   | next =>
     obtain⟨σ3,H3,I3,n3⟩:=q3;obtain⟨m',hm,w3⟩:=hN σ3 H3 n3;exact⟨m',hm,σ3,H3,I3,w3⟩
   | cont =>
     obtain⟨σ3,H3,I3,n3⟩:=q3;obtain⟨m',hm,w3⟩:=hN σ3 H3 n3;exact⟨m',hm,σ3,H3,I3,w3⟩
   | brk=>exact q3
   | ret v=>exact q3
 | false =>
   rw[if_neg Bool.false_ne_true];exact wpAny_execs_nil ⟨σ1,H2,I2,q2⟩
end
structure It where
 go:Nat->Hp->Prop
 Lp:Nat->Hp->V->Hp->Prop
 stop:Nat->Hp->Prop
def o9(X:Cx)(pq:aR)(H:Hp)(b:Addr):Prop :=
 H b=none/\b≠X.env.locals/\b∉X.fs/\(b∈X.ex\/X.s₀.heap.objs.size<=b)/\(∀ x c,X.env.cells.lookup x=some c->c≠b)/\∀ p∈X.pn++pq,p.1≠b
theorem Inv.CI{X:Cx}{pq:aR}{σ:St}{H H' : Hp}{s:Shared}{b:Addr}(I:Inv X pq σ H s)(hb:s.heap.objs.size<=b)(hn:H' b=none):o9 X pq H' b:=by
 refine⟨hn,Nat.ne_of_gt (Nat.lt_of_lt_of_le I.lt hb),I.QS hb,.inr (Nat.le_trans I.sz hb),fun x c e z=>?_,fun p hp z=>?_⟩
 ·obtain⟨v,q⟩:=I.cell x c e;exact absurd (Nat.lt_of_lt_of_le q.lt (by rw[z];exact hb)) (Nat.lt_irrefl _)
 ·exact absurd (Nat.lt_of_lt_of_le (Heap.lt_size (I.pin p hp).1) (by rw[z];exact hb)) (Nat.lt_irrefl _)
structure Turn(P:Program)(w:World)(K:bW)(tg:Expr)(J:It)(fp:List Addr)(it:Addr)(tn:Nat->Heap->Prop):Prop where
 mem:it∈fp
 obj:∀ i h,tn i h->∀ b∈fp,∃ o,h.get? b=some o/\∀ v,o.data≠.cell v
 keep:∀ i h h',tn i h->(∀ b∈fp,∀ o,h.get? b=some o->h'.get? b=some o)->tn i h'
 item:∀(X:Cx),X.prog=P->X.w=w->X.K=K->X.calm=true->∀(i:Nat) (pq:aR) (s:Shared) (σ:St) (H:Hp) (E:eK),Inv X pq σ H s->(∀ b∈fp,o9 X pq H b)->tn i s.heap->J.go i H->
  wpAny (model P w) X.A (pyNext (.ref it)) (fun r s1=>∃ u,r=some u/\
   wpAny (model P w) X.A (letOwnedTupleGo tg (.ref it) u) (fun _ s2=>∃ x H',Inv X pq σ H' s2/\RelV x u/\J.Lp i H x H'/\tn (i+1) s2.heap/\∀ b∈fp,H' b=none) E s1) E s
 done:∀(X:Cx),X.prog=P->X.w=w->X.K=K->X.calm=true->∀(i:Nat) (pq:aR) (s:Shared) (σ:St) (H:Hp) (E:eK),Inv X pq σ H s->(∀ b∈fp,o9 X pq H b)->tn i s.heap->J.stop i H->
  wpAny (model P w) X.A (pyNext (.ref it)) (fun r s1=>r=none/\Inv X pq σ H s1) E s
 self:∀(A:Around) (i:Nat) (s:Shared) (Q:eK) (E:eK),tn i s.heap->Q (.ref it) s->wpAny (model P w) A (pyIter (.ref it)) Q E s
abbrev TI:=St->Hp->(It->Hp->Prop)->Prop
def WK(X:Cx)(pq:aR)(σ:St)(tg:Expr)(R:It->Hp->Prop)(itv:Value)(s2:Shared):Prop :=
 ∃(it:Addr) (fp:List Addr) (tn:Nat->Heap->Prop) (J:It) (H' : Hp),itv = .ref it/\Inv X pq σ H' s2/\Turn X.prog X.w X.K tg J fp it tn/\tn 0 s2.heap/\(∀ b∈fp,o9 X pq H' b)/\R J H'
def PI(X:Cx)(tg iter:Expr)(wi:TI):Prop :=
 ∀(pq:aR) (s:Shared) (σ:St) (H:Hp) (R:It->Hp->Prop),Inv X pq σ H s->wi σ H R->
  wpAny (model X.prog X.w) X.A (eval iter X.env) (fun v s1=>wpAny (model X.prog X.w) X.A (pyIter v) (WK X pq σ tg R) X.xe s1) X.xe s
theorem Il{M:Model}{A:Around}{E:eK}{s:Shared}{tg:Expr}{it:Addr}{u:Value}{o:Obj}{n:String}{vs:Array Value}{Q:Unit->Shared->Prop}(ho:s.heap.get? it=some o)(hc:o.cls = .type n)(hd:o.data = .fields vs)
 (hn:["enumerate","zip","dict_itemiterator","dict_reverseitemiterator","odict_iterator","itertools.zip_longest","itertools.pairwise"].contains n=false) (hQ:Q () s):wpAny M A (letOwnedTupleGo tg (.ref it) u) Q E s:=by
 unfold letOwnedTupleGo;cases tg<;>first
  | exact wpAny_pure hQ
  | (cases u<;>first
   | exact wpAny_pure hQ
   | (refine aQ (wpAny_load ho ?_)
      rw[hc,hd];show wpAny M A (if(["enumerate","zip","dict_itemiterator","dict_reverseitemiterator","odict_iterator","itertools.zip_longest","itertools.pairwise"].contains n&&vs[0]? == some (rawInt _))=true then _ else _) Q E s
      rw[if_neg (by intro h;rw[hn,Bool.false_and]at h;cases h)]
      exact wpAny_pure hQ))
def LP(K:bW)(a:Addr):It :=
 ⟨fun i H=>∃ xs x,aM K H a xs/\xs[i]?=some x,fun i H x H'=>H' = H/\∀ xs,aM K H a xs->xs[i]?=some x,fun i H=>∃ xs,aM K H a xs/\xs.length<=i⟩
def UQ(K:bW)(a:Addr):It :=
 ⟨fun i H=>∃ xs x,aV K H a xs/\xs[i]?=some x,fun i H x H'=>H' = H/\∀ xs,aV K H a xs->xs[i]?=some x,fun i H=>∃ xs,aV K H a xs/\xs.length<=i⟩
def Im(lo:Int)(n:Nat):It:=⟨fun i _=>i<n,fun i H x H'=>H' = H/\x = .int (lo+i),fun i _=>n<=i⟩
theorem FL{P:Program}{w:World}{K:bW}{tg:Expr}(a it:Addr):Turn P w K tg (LP K a) [it] it (fun i h=>h.IsListIter it a i) where
 mem:=by simp
 obj:=fun i h st b hb=>by
  have e:b=it:=by simpa using hb
  subst e;obtain⟨o,e,c,d⟩:=st;exact⟨o,e,fun v z=>by rw[d]at z;cases z⟩
 keep:=fun i h h' st k=>st.at fun o e=>k it (by simp) o e
 item:=by
  intro X hP hw hK hc i pq s σ H E I hf st hg;subst hP hw hK;obtain⟨xs,x,hq,hx⟩:=hg;obtain⟨its,rv,p,hz⟩:=I.list hq;obtain⟨u,hu,ru⟩:=rv.get hx;obtain⟨f0,f1,f2,f3,f4,f5⟩:=hf it (by simp)
  refine wpAny_pyNext_list_item st p.isList (x:=u) (by simpa using hu) fun h' st' sb=>?_
  have I1:Inv X pq σ H { s with heap:=h'}:=I.turned (t':=s.toks) (fun b o hb e=>(sb.2 b hb).trans e) f0 f1 f3 f4 f5
  obtain⟨o,e,c,d⟩:=id st';exact⟨u,rfl,Il (s:={ s with heap:=h'}) e c d (by decide) ⟨x,H,I1,ru,⟨rfl,fun ys hy=>by rw[I.p5 hy hq];exact hx⟩,st',fun b hb=>(hf b hb).1⟩⟩
 done:=by
  intro X hP hw hK hc i pq s σ H E I hf st hg;subst hP hw hK;obtain⟨xs,hq,hx⟩:=hg;obtain⟨its,rv,p,hz⟩:=I.list hq;obtain⟨f0,f1,f2,f3,f4,f5⟩:=hf it (by simp)
  have hl:=rv.length;exact wpAny_pyNext_list_end (I.ok.hd hc) st p.isList (by simp;lia) fun h' eb=>⟨rfl,I.turned (t':=s.toks) (fun b o hb e=>eb b o hb e) f0 f1 f3 f4 f5⟩
 self:=fun _ _ _ _ _ st h=>wpAny_pyIter_listiter st h
theorem CJ{P:Program}{w:World}{K:bW}{tg:Expr}(a it:Addr):Turn P w K tg (UQ K a) [it] it (fun i h=>h.IsTupleIter it a i) where
 mem:=by simp
 obj:=fun i h st b hb=>by
  have e:b=it:=by simpa using hb
  subst e;obtain⟨o,e,c,d⟩:=st;exact⟨o,e,fun v z=>by rw[d]at z;cases z⟩
 keep:=fun i h h' st k=>st.at fun o e=>k it (by simp) o e
 item:=by
  intro X hP hw hK hc i pq s σ H E I hf st hg;subst hP hw hK;obtain⟨xs,x,hq,hx⟩:=hg;obtain⟨its,rv,p,hz⟩:=I.tuple hq;obtain⟨u,hu,ru⟩:=rv.get hx;obtain⟨f0,f1,f2,f3,f4,f5⟩:=hf it (by simp)
  refine wpAny_pyNext_tuple_item st (show s.heap.IsTuple a its.toArray from p) (x:=u) (by simpa using hu) fun h' st' sb=>?_
  have I1:Inv X pq σ H { s with heap:=h'}:=I.turned (t':=s.toks) (fun b o hb e=>(sb.2 b hb).trans e) f0 f1 f3 f4 f5
  obtain⟨o,e,c,d⟩:=id st';exact⟨u,rfl,Il (s:={ s with heap:=h'}) e c d (by decide) ⟨x,H,I1,ru,⟨rfl,fun ys hy=>by rw[I.xK hy hq];exact hx⟩,st',fun b hb=>(hf b hb).1⟩⟩
 done:=by
  intro X hP hw hK hc i pq s σ H E I hf st hg;subst hP hw hK;obtain⟨xs,hq,hx⟩:=hg;obtain⟨its,rv,p,hz⟩:=I.tuple hq;obtain⟨f0,f1,f2,f3,f4,f5⟩:=hf it (by simp)
  have hl:=rv.length;exact wpAny_pyNext_tuple_end (I.ok.hd hc) st (show s.heap.IsTuple a its.toArray from p) (by simp;lia) fun h' eb=>⟨rfl,I.turned (t':=s.toks) (fun b o hb e=>eb b o hb e) f0 f1 f3 f4 f5⟩
 self:=fun _ _ _ _ _ st h=>wpAny_pyIter_tupleiter st h
theorem CK{P:Program}{w:World}{K:bW}{tg:Expr}(it:Addr)(lo:Int)(n:Nat):Turn P w K tg (Im lo n) [it] it (fun i h=>IsRangeIter h it (lo+(i:Nat)*1) ((n:Int)-(i:Nat)) 1) where
 mem:=by simp
 obj:=fun i h st b hb=>by
  have e:b=it:=by simpa using hb
  subst e;exact⟨_,st,fun v z=>by
   have z' : Data.fields _=Data.cell v:=z;cases z'⟩
 keep:=fun i h h' st k=>k it (by simp) _ st
 item:=by
  intro X hP hw hK hc i pq s σ H E I hf st hg;subst hP hw hK;obtain⟨f0,f1,f2,f3,f4,f5⟩:=hf it (by simp)
  have W:=Walks.range (prog:=X.prog) (w:=X.w) (I.ok.hd hc) it lo 1 n;refine W.item i s _ _ hg st fun v h' tk hv st' kk=>?_
  obtain⟨t,rfl⟩:=hv;have I1:Inv X pq σ H { s with heap:=h',toks:=tk}:=I.turned (fun b o hb e=>kk b o (by simpa using hb) e) f0 f1 f3 f4 f5
  refine⟨_,rfl,Il (s:={ s with heap:=h',toks:=tk}) (n:="range_iterator") st' rfl rfl (by decide) ⟨.int (lo+i),H,I1,⟨t,?_⟩,⟨rfl,rfl⟩,st',fun b hb=>(hf b hb).1⟩⟩
  rw[Int.mul_one]
 done:=by
  intro X hP hw hK hc i pq s σ H E I hf st hg;subst hP hw hK;obtain⟨f0,f1,f2,f3,f4,f5⟩:=hf it (by simp)
  exact wpAny_pyNext_range_end (I.ok.hd hc) st (by have:n<=i:=hg;lia) fun h' eb=>⟨rfl,I.turned (t':=s.toks) (fun b o hb e=>eb b o hb e) f0 f1 f3 f4 f5⟩
 self:=fun _ _ _ _ _ st h=>wpAny_pyIter_rangeiter st h
section
variable {X:Cx}{tg:Expr}
def Nj(K:bW)(tl:TE):TI:=fun σ H R=>tl σ H fun x H1=>∃ a,x = .ref a/\(∃ xs,aM K H1 a xs)/\R (LP K a) H1
def Q5(K:bW)(tl:TE):TI:=fun σ H R=>tl σ H fun x H1=>∃ a,x = .ref a/\(∃ xs,aV K H1 a xs)/\R (UQ K a) H1
theorem LQ{l:Expr}{tl:TE}(hl:PE X l tl):PI X tg l (Nj X.K tl):=by
 intro pq s σ H R I h;refine dH (hl pq s σ H _ I h) fun v s1 ⟨x,H1,I1,r1,q1⟩=>?_
 obtain⟨a,e,⟨xs,hq⟩,q⟩:=q1;subst e;cases r1;obtain⟨its,rv,p,hz⟩:=I1.list hq;refine wpAny_pyIter_list p.isList ?_;refine⟨s1.heap.objs.size,[s1.heap.objs.size],_,_,H1,rfl,I1.kept (t':=s1.toks) fun b o e=>Heap.get?_push_of_some _ e,FL a _,⟨_,Heap.get?_push_size _ rfl,rfl,rfl⟩,fun b hb=>?_,q⟩
 have e:b=s1.heap.objs.size:=by simpa using hb
 subst e;exact I1.CI (Nat.le_refl _) (I1.hok.fresh (Nat.le_refl _))
theorem Oi{l:Expr}{tl:TE}(hl:PE X l tl):PI X tg l (Q5 X.K tl):=by
 intro pq s σ H R I h;refine dH (hl pq s σ H _ I h) fun v s1 ⟨x,H1,I1,r1,q1⟩=>?_
 obtain⟨a,e,⟨xs,hq⟩,q⟩:=q1;subst e;cases r1;obtain⟨its,rv,p,hz⟩:=I1.tuple hq;refine wpAny_pyIter_tuple (show s1.heap.IsTuple a its.toArray from p) ?_
 refine⟨s1.heap.objs.size,[s1.heap.objs.size],_,_,H1,rfl,I1.kept (t':=s1.toks) fun b o e=>Heap.get?_push_of_some _ e,CJ a _,⟨_,Heap.get?_push_size _ rfl,rfl,rfl⟩,fun b hb=>?_,q⟩
 have e:b=s1.heap.objs.size:=by simpa using hb
 subst e;exact I1.CI (Nat.le_refl _) (I1.hok.fresh (Nat.le_refl _))
theorem Av{pq:aR}{σ:St}{H:Hp}{s:Shared}{R:It->Hp->Prop}{E:eK}{lo hi:Int}{t u v:Tok}{tk:Nat}(I:Inv X pq σ H s)(h1 : -(2^62)<=lo)(h2:lo<2^62)(h3 : -(2^62)<=hi)(h4:hi<2^62)
 (q:R (Im lo (hi-lo).toNat) H):wpAny (model X.prog X.w) X.A (pyIter (.ref s.heap.objs.size)) (WK X pq σ tg R) E { s with heap:=s.heap.push { cls:=.type "range",data:=.fields #[.int lo t,.int hi u,.int 1 v]},toks:=tk}:=by
 refine wpAny_pyIter_range (IsRange.new ..) (small_one h1 h2 h3 h4) ?_;have I1:Inv X pq σ H { s with heap:=s.heap.push { cls:=.type "range",data:=.fields #[.int lo t,.int hi u,.int 1 v]},toks:=tk}:=I.kept fun b o e=>Heap.get?_push_of_some _ e
 refine⟨(s.heap.push { cls:=.type "range",data:=.fields #[.int lo t,.int hi u,.int 1 v]}).objs.size,[(s.heap.push { cls:=.type "range",data:=.fields #[.int lo t,.int hi u,.int 1 v]}).objs.size],_,_,H,rfl,
  I1.kept (t':=tk) fun b o e=>Heap.get?_push_of_some _ e,CK _ lo (hi-lo).toNat,?_,fun b hb=>?_,q⟩
 ·have e1:lo+((0:Nat):Int)*1=lo:=by simp
  have e2:(((hi-lo).toNat:Nat):Int)-((0:Nat):Int)=Builtin.Range.rangeSize lo hi 1:=by rw[rangeSize_one];split<;>lia
  show IsRangeIter _ _ (lo+((0:Nat):Int)*1) ((((hi-lo).toNat:Nat):Int)-((0:Nat):Int)) 1;rw[e1,e2];exact Heap.get?_push_size _ rfl
 ·have e:b=(s.heap.push { cls:=.type "range",data:=.fields #[.int lo t,.int hi u,.int 1 v]}).objs.size:=by simpa using hb
  subst e;exact I1.CI (Nat.le_refl _) (I1.hok.fresh (Nat.le_refl _))
def Q6(ta:TA):TI:=fun σ H R=>ta σ H fun vs H1=>∃ j:Int,vs=[.int j]/\-(2^62)<=j/\j<2^62/\R (Im 0 j.toNat) H1
def Q7(ta:TA):TI:=fun σ H R=>ta σ H fun vs H1=>∃ i j:Int,vs=[.int i,.int j]/\(-(2^62)<=i/\i<2^62/\-(2^62)<=j/\j<2^62)/\R (Im i (j-i).toNat) H1
theorem bL{a:Expr}{ta:TA}{p pos:Pos}(hg:Gl X "range")(hm:X.mg "range"=none)(ha:PA X [a] ta)(hs:starEach [a] X.env=[(false,eval a X.env)]:=by rfl):PI X tg (.Call (.Name "range" p) [a] [] pos) (Q6 ta):=by
 intro pq s σ H R I h;refine Call_ (lD I hg hm boot_range (PyProof.Rows.callWith_type1 (dH (ha pos pq s σ H _ I h) fun us s1 ⟨vs,H1,I1,r1,q1⟩=>?_) hs rfl))
 obtain⟨j,e,q1,q2,q⟩:=q1;subst e;cases r1 with
 | cons r rr =>
   cases rr;obtain⟨t,rfl⟩:=r;exact call_range_1 (Av I1 (by lia) (by lia) q1 q2 (by simpa using q))
theorem FN{a b:Expr}{ta:TA}{p pos:Pos}(hg:Gl X "range")(hm:X.mg "range"=none)(ha:PA X [a,b] ta)(hs:starEach [a,b] X.env=[(false,eval a X.env),(false,eval b X.env)]:=by rfl)(hs2:starEach [b] X.env=[(false,eval b X.env)]:=by rfl):
 PI X tg (.Call (.Name "range" p) [a,b] [] pos) (Q7 ta):=by
 intro pq s σ H R I h;refine Call_ (lD I hg hm boot_range (PyProof.Rows.callWith_type1 (dH (ha pos pq s σ H _ I h) fun us s1 ⟨vs,H1,I1,r1,q1⟩=>?_) (by rw[hs,hs2]) (by rw[hs2];rfl)))
 obtain⟨i,j,e,⟨q1,q2,q3,q4⟩,q⟩:=q1;subst e;cases r1 with
 | cons r rr =>
   cases rr with
   | cons r' rr =>
     cases rr;obtain⟨t,rfl⟩:=r;obtain⟨t',rfl⟩:=r';exact call_range_2 (Av I1 q1 q2 q3 q4 q)
def dF(wi:TI)(g:TG)(tb:TS):TS:=fun D σ H=>wi σ H fun J H1=>∃ W:Nat->Nat->St->Hp->Prop,(∃ m,W 0 m σ H1)/\∀ i m σ H,W i m σ H->
 (J.stop i H/\D.nx σ H)\/(J.go i H/\∃ N:St->Hp->Prop,(∀ σ' H',N σ' H'->∃ m',m'<m/\W (i+1) m' σ' H')/\∀ x H',J.Lp i H x H'->g x σ H' fun σ2 H2=>tb { D with nx:=N,ct:=N,bk:=D.nx} σ2 H2)
def qR(fp:List Addr)(h:Heap):aR:=fp.filterMap fun b=>(h.get? b).map fun o=>(b,o)
theorem g7{fp:List Addr}{h:Heap}{b:Addr}{o:Obj}(hb:b∈fp)(e:h.get? b=some o):(b,o)∈qR fp h:=List.mem_filterMap.mpr ⟨b,hb,by rw[e];rfl⟩
theorem FO{fp:List Addr}{h:Heap}{p:Addr×Obj}(hp:p∈qR fp h):p.1∈fp/\h.get? p.1=some p.2:=by
 obtain⟨b,hb,e⟩:=List.mem_filterMap.mp hp;cases q:h.get? b with
 | none=>rw[q]at e;cases e
 | some o =>
   rw[q]at e;have e' : (b,o)=p:=Option.some.inj e;subst e';exact⟨hb,q⟩
theorem Inv.pinned{pq:aR}{σ:St}{H:Hp}{s:Shared}{fp:List Addr}(I:Inv X pq σ H s)(hf:∀ b∈fp,o9 X pq H b)(ho:∀ b∈fp,∃ o,s.heap.get? b=some o/\∀ v,o.data≠.cell v):Inv X (pq++qR fp s.heap) σ H s :=
 I.gD fun p hp=>(List.mem_append.mp hp).elim (fun z=>I.pin p (i9 _ z)) fun z=>by
  obtain⟨hb,e⟩:=FO z;obtain⟨f0,f1,f2,_⟩:=hf p.1 hb;obtain⟨o,e',d⟩:=ho p.1 hb;rw[e]at e';cases e';exact⟨e,f0,f1,f2,d⟩
theorem Inv.jw{pq pl:aR}{σ:St}{H:Hp}{s:Shared}(I:Inv X (pq++pl) σ H s):Inv X pq σ H s:=I.gD fun p hp=>I.pin p (i9 _ (Ni _ hp))
theorem eE{iter:Expr}{body:List Stmt}{wi:TI}{g:TG}{tb:TS}{pos:Pos}(hp:PassesOwn (model X.prog X.w) X.A X.env X.xe)(hc:X.calm=true)(hi:PI X tg iter wi)(hg:PG X tg g)(hb:xJ X body tb)
 (hs:∀ x,foldedSetIterable iter X.env x=pure x:=by intro _;rfl):PS X (.For tg iter body [] pos) (dF wi g tb):=by
 intro pq s σ H D I h;refine wpAny_For (dH (hi pq s σ H _ I h) fun v s1 h1=>dH h1 fun itv s2 h2=>?_) hs
 obtain⟨it,fp,tn,J,H2,e,I2,T,st2,f2,W,⟨m0,w0⟩,turn⟩:=h2;subst e;have CL:∀{H' : Hp},(∀ b∈fp,H' b=none)->∀ b∈fp,o9 X pq H' b:=fun hn b hb=>⟨hn b hb,(f2 b hb).2⟩
 refine codeAny_forLoop_any (fun n s'=>∃ i σ' H',Inv X pq σ' H' s'/\tn i s'.heap/\(∀ b∈fp,H' b=none)/\W i n σ' H') ?_ m0 ⟨0,σ,H2,I2,st2,fun b hb=>(f2 b hb).1,w0⟩
 rintro n s3 ⟨i,σ3,H3,I3,st3,Nk,w3⟩;rcases turn i n σ3 H3 w3 with⟨stop,qn⟩|⟨go,N,hN,step⟩
 ·refine wpAny_passesOwn hp (dH (T.done X rfl rfl rfl hc i pq s3 σ3 H3 X.xe I3 (CL Nk) st3 stop) fun r s4 ⟨hr,I4⟩=>?_)
  subst hr;exact wpAny_execs_nil ⟨σ3,H3,I4,qn⟩
 ·refine wpAny_passesOwn hp (dH (T.item X rfl rfl rfl hc i pq s3 σ3 H3 X.xe I3 (CL Nk) st3 go) fun r s4 ⟨u,hr,h4⟩=>?_)
  subst hr;refine wpAny_passesOwn hp (dH h4 fun _ s5 ⟨x,H5,I5,r5,y5,Io,Q8⟩=>?_)
  have Q9:=I5.pinned (CL Q8) (T.obj _ _ Io);refine wpAny_passesOwn hp (dH (hg _ s5 σ3 H5 x u _ Q9 r5 (step x H5 y5)) fun _ s6 ⟨σ6,H6,I6,q6⟩=>?_)
  refine wpAny_passesOwn hp (dH (hb _ s6 σ6 H6 _ I6 q6) fun f s7 q7=>?_)
  have again:∀{σ7:St} {H7:Hp},Inv X (pq++qR fp s5.heap) σ7 H7 s7->N σ7 H7->∃ m,m<n/\∃ i σ' H',Inv X pq σ' H' s7/\tn i s7.heap/\(∀ b∈fp,H' b=none)/\W i m σ' H':=fun {σ7 H7} I7 n7=>by
   obtain⟨m',hm,w7⟩:=hN σ7 H7 n7;refine⟨m',hm,i+1,σ7,H7,I7.jw,T.keep _ _ _ Io fun b hb o e=>(I7.pin (b,o) (i9 _ (i9 _ (g7 hb e)))).1,fun b hb=>?_,w7⟩
   obtain⟨o,e,d⟩:=T.obj _ _ Io b hb;exact(I7.pin (b,o) (i9 _ (i9 _ (g7 hb e)))).2.1
  cases f with
  | next=>obtain⟨σ7,H7,I7,n7⟩:=q7;exact again I7 n7
  | cont=>obtain⟨σ7,H7,I7,n7⟩:=q7;exact again I7 n7
  | brk=>obtain⟨σ7,H7,I7,q7⟩:=q7;exact⟨σ7,H7,I7.jw,q7⟩
  | ret v=>obtain⟨x7,σ7,H7,I7,r7,q7⟩:=q7;exact⟨x7,σ7,H7,I7.jw,r7,q7⟩
end
theorem uE{K:bW}{a:Addr}{xs:List V}{g:TG}{tb:TS}{D:Ends}{σ:St}{H:Hp}(Pv:Nat->St->Hp->Prop)(h0:Pv 0 σ H)(hl:∀ i σ H,i<=xs.length->Pv i σ H->aM K H a xs)
 (hs:∀ i x σ H,xs[i]?=some x->Pv i σ H->g x σ H fun σ2 H2=>tb { D with nx:=Pv (i+1),ct:=Pv (i+1),bk:=D.nx} σ2 H2) (hd:∀ σ H,Pv xs.length σ H->D.nx σ H) :
 ∃ W:Nat->Nat->St->Hp->Prop,(∃ m,W 0 m σ H)/\∀ i m σ H,W i m σ H->
   ((LP K a).stop i H/\D.nx σ H)\/((LP K a).go i H/\∃ N:St->Hp->Prop,(∀ σ' H',N σ' H'->∃ m',m'<m/\W (i+1) m' σ' H')/\∀ x H',(LP K a).Lp i H x H'->g x σ H' fun σ2 H2=>tb { D with nx:=N,ct:=N,bk:=D.nx} σ2 H2):=by
 refine⟨fun i m σ H=>m=xs.length-i/\i<=xs.length/\Pv i σ H,⟨xs.length,by simp,Nat.zero_le _,h0⟩,?_⟩
 rintro i m σ H ⟨rfl,hi,p⟩;have q:=hl i σ H hi p
 by_cases hlt:i<xs.length
 ·refine .inr ⟨⟨xs,xs[i],q,by simp[hlt]⟩,Pv (i+1),fun σ' H' p'=>⟨xs.length-(i+1),by lia,rfl,hlt,p'⟩,fun x H' y=>?_⟩
  obtain⟨e,y⟩:=y;subst e;exact hs i x σ _ (y xs q) p
 ·have e:i=xs.length:=by lia
  subst e;exact .inl ⟨⟨xs,q,Nat.le_refl _⟩,hd σ H p⟩
theorem FP{lo:Int}{n:Nat}{g:TG}{tb:TS}{D:Ends}{σ:St}{H:Hp}(Pv:Nat->St->Hp->Prop)(h0:Pv 0 σ H)
 (hs:∀ i σ H,i<n->Pv i σ H->g (.int (lo+i)) σ H fun σ2 H2=>tb { D with nx:=Pv (i+1),ct:=Pv (i+1),bk:=D.nx} σ2 H2) (hd:∀ σ H,Pv n σ H->D.nx σ H) :
 ∃ W:Nat->Nat->St->Hp->Prop,(∃ m,W 0 m σ H)/\∀ i m σ H,W i m σ H->
   ((Im lo n).stop i H/\D.nx σ H)\/((Im lo n).go i H/\∃ N:St->Hp->Prop,(∀ σ' H',N σ' H'->∃ m',m'<m/\W (i+1) m' σ' H')/\∀ x H',(Im lo n).Lp i H x H'->g x σ H' fun σ2 H2=>tb { D with nx:=N,ct:=N,bk:=D.nx} σ2 H2):=by
 refine⟨fun i m σ H=>m=n-i/\i<=n/\Pv i σ H,⟨n,by simp,Nat.zero_le _,h0⟩,?_⟩
 rintro i m σ H ⟨rfl,hi,p⟩
 by_cases hlt:i<n
 ·refine .inr ⟨hlt,Pv (i+1),fun σ' H' p'=>⟨n-(i+1),by lia,rfl,hlt,p'⟩,fun x H' y=>?_⟩
  obtain⟨e,y⟩:=y;subst e y;exact hs i σ _ hlt p
 ·have e:i=n:=by lia
  subst e;exact .inl ⟨Nat.le_refl _,hd σ H p⟩
abbrev R2:=V->V->Hp->VK->Prop
def mU(X:Cx)(f:Value->Value->Sem Value)(r:R2):Prop :=
 ∀(pq:aR) (s:Shared) (σ:St) (H:Hp) (x y:V) (v u:Value) (Q:VK),Inv X pq σ H s->RelV x v->RelV y u->r x y H Q->
  wpAny (model X.prog X.w) X.A (f v u) (EP X pq σ Q) X.xe s
def UR(X:Cx)(f:Value->Sem Value)(r:V->Hp->VK->Prop):Prop :=
 ∀(pq:aR) (s:Shared) (σ:St) (H:Hp) (x:V) (v:Value) (Q:VK),Inv X pq σ H s->RelV x v->r x H Q->
  wpAny (model X.prog X.w) X.A (f v) (EP X pq σ Q) X.xe s
def gE(X:Cx)(f:Value)(r:List V->Hp->VK->Prop):Prop :=
 ∀(pq:aR) (s:Shared) (σ:St) (H:Hp) (xs:List V) (us:List Value) (Q:VK),Inv X pq σ H s->Vals xs us->r xs H Q->
  wpAny (model X.prog X.w) X.A (call f us) (EP X pq σ Q) X.xe s
def Ra(r:R2)(ta tb:TE):TE:=fun σ H Q=>ta σ H fun x H1=>tb σ H1 fun y H2=>r x y H2 Q
def Zp(r:V->Hp->VK->Prop)(ta:TE):TE:=fun σ H Q=>ta σ H fun x H1=>r x H1 Q
def rI(C:Int->Int->Prop)(g:Int->Int->V):R2:=fun x y H Q=>∃ i j,x = .int i/\y = .int j/\C i j/\Q (g i j) H
def FQ(g:Int->Int->V):R2:=fun x y H Q=>∃ i j,x = .int i/\y = .int j/\Q (g i j) H
def rU(g:Int->V):V->Hp->VK->Prop:=fun x H Q=>∃ i,x = .int i/\Q (g i) H
section
variable {X:Cx}{a b c:Expr}{ta tb tc:TE}{pos:Pos}
theorem Oj(ha:PE X a ta)(hb:PE X b tb){pq:aR}{s:Shared}{σ:St}{H:Hp}{R:V->V->Hp->Prop}(I:Inv X pq σ H s)
 (h:ta σ H fun x H1=>tb σ H1 fun y H2=>R x y H2) {Q:eK} {f:Value->Value->Sem Value}
 (hf:∀ v u s2 x y H2,Inv X pq σ H2 s2->RelV x v->RelV y u->R x y H2->wpAny (model X.prog X.w) X.A (f v u) Q X.xe s2) :
 wpAny (model X.prog X.w) X.A (eval a X.env) (fun v s₁=>wpAny (model X.prog X.w) X.A (eval b X.env) (fun u s₂=>wpAny (model X.prog X.w) X.A (f v u) Q X.xe s₂) X.xe s₁) X.xe s:=by
 refine dH (ha pq s σ H _ I h) fun v s1 ⟨x,H1,I1,r1,q1⟩=>?_
 refine dH (hb pq s1 σ H1 _ I1 q1) fun u s2 ⟨y,H2,I2,r2,q2⟩=>?_
 exact hf v u s2 x y H2 I2 r1 r2 q2
theorem aK{op:Operator}{r:R2}(ho:mU X (binaryOp op) r)(ha:PE X a ta)(hb:PE X b tb):PE X (.BinOp a op b pos) (Ra r ta tb):=by
 intro pq s σ H Q I h;exact wpAny_BinOp (Oj ha hb I h fun v u s2 x y H2 I2 rx ry q=>ho pq s2 σ H2 x y v u Q I2 rx ry q)
theorem Rb{op:UnaryOp}{r:V->Hp->VK->Prop}(ho:UR X (unaryOp op) r)(ha:PE X a ta):PE X (.UnaryOp op a pos) (Zp r ta):=by
 intro pq s σ H Q I h;exact UnaryOp_ (dH (ha pq s σ H _ I h) fun v s1 ⟨x,H1,I1,r1,q1⟩=>ho pq s1 σ H1 x v Q I1 r1 q1)
theorem Qn{f:Value->Value->Sem Value}{C:Int->Int->Prop}{g:Int->Int->Int}
 (rule:∀(i j:Int) (t u:Tok) (s:Shared) (Q:eK) (E:eK),C i j->Q (.int (g i j) s.toks) { s with toks:=s.toks+1}->wpAny (model X.prog X.w) X.A (f (.int i t) (.int j u)) Q E s) :
 mU X f (rI C fun i j=>.int (g i j)):=by
 intro pq s σ H x y v u Q I rx ry h;obtain⟨i,j,rfl,rfl,hc,q⟩:=h;obtain⟨t,rfl⟩:=rx;obtain⟨t',rfl⟩:=ry;exact rule i j t t' s _ _ hc ⟨.int (g i j),H,I.tok _,⟨_,rfl⟩,q⟩
theorem CM{f:Value->Value->Sem Value}{g:Int->Int->Int}
 (rule:∀(i j:Int) (t u:Tok) (s:Shared) (Q:eK) (E:eK),Q (.int (g i j) s.toks) { s with toks:=s.toks+1}->wpAny (model X.prog X.w) X.A (f (.int i t) (.int j u)) Q E s) :
 mU X f (FQ fun i j=>.int (g i j)):=by
 intro pq s σ H x y v u Q I rx ry h;obtain⟨i,j,rfl,rfl,q⟩:=h;obtain⟨t,rfl⟩:=rx;obtain⟨t',rfl⟩:=ry;exact rule i j t t' s _ _ ⟨.int (g i j),H,I.tok _,⟨_,rfl⟩,q⟩
theorem LR{f:Value->Value->Sem Value}{g:Int->Int->Bool}
 (rule:∀(i j:Int) (t u:Tok) (s:Shared) (Q:eK) (E:eK),Q (.bool (g i j)) s->wpAny (model X.prog X.w) X.A (f (.int i t) (.int j u)) Q E s) :
 mU X f (FQ fun i j=>.bl (g i j)):=by
 intro pq s σ H x y v u Q I rx ry h;obtain⟨i,j,rfl,rfl,q⟩:=h;obtain⟨t,rfl⟩:=rx;obtain⟨t',rfl⟩:=ry;exact rule i j t t' s _ _ ⟨.bl (g i j),H,I,rfl,q⟩
def US(i j:Int):Prop:=0<j/\j<1073741824
def Rc(i j:Int):Prop:=0<=j/\j<=1000000/\i.natAbs<2^64
def Ol(i j:Int):Prop:=(-(2^64)<i/\i<2^64)\/(-(2^64)<j/\j<2^64)
theorem Ol.ok{i j:Int}(h:Ol i j):IntMulOk i j:=by
 rcases h with⟨h1,h2⟩|⟨h1,h2⟩
 ·exact .of_left (intBits_le_64 h1 h2)
 ·exact .of_right (intBits_le_64 h1 h2)
theorem CO(k:Nat):(0:Int)<=2^k:=by
 rw[two_pow_cast];exact Int.natCast_nonneg _
theorem fG:mU X (binaryOp .Add) (FQ fun i j=>.int (i+j)):=CM fun _ _ _ _ _ _ _ q=>add_int q
theorem qS:mU X (binaryOp .Sub) (FQ fun i j=>.int (i-j)):=CM fun _ _ _ _ _ _ _ q=>sub_int q
theorem CP:mU X (binaryOp .Mult) (rI Ol fun i j=>.int (i*j)):=Qn fun _ _ _ _ _ _ _ hc q=>mul_int q hc.ok
theorem p7:mU X (binaryOp .FloorDiv) (rI US fun i j=>.int (i/j)):=Qn fun i j _ _ _ _ _ hc q=>by
 have h1:(0:Int)<j:=hc.1;have h2:j<1073741824:=hc.2;exact floordiv_int (by lia) (by rw[Int.fdiv_eq_ediv_of_nonneg i (by lia)];exact q) (.inl (PyProof.noPylong_small (by lia)))
theorem dO:mU X (binaryOp .Mod) (rI (fun _ j=>0<j) fun i j=>.int (i%j)):=Qn fun i j _ _ _ _ _ hc q=>by
 have h1:(0:Int)<j:=hc;exact mod_int' (by lia) (by rw[Int.fmod_eq_emod_of_nonneg i (by lia)];exact q)
theorem Om:mU X (binaryOp .Pow) (rI Rc fun i j=>.int (i^j.toNat)):=Qn fun _ _ _ _ _ _ _ hc q=>pow_int_small hc.1 hc.2.1 hc.2.2 q
theorem kD:mU X (binaryOp .LShift) (rI Rc fun i j=>.int (i*2^j.toNat)):=Qn fun _ _ _ _ _ _ _ hc q=>lshift_int_small hc.1 hc.2.1 hc.2.2 q
theorem yK:mU X (binaryOp .RShift) (rI (fun _ j=>0<=j) fun i j=>.int (i/2^j.toNat)):=Qn fun i j _ _ _ _ _ hc q =>
 rshift_int hc (by rw[Int.fdiv_eq_ediv_of_nonneg i (CO _)];exact q)
theorem Ip:mU X (binaryOp .BitAnd) (FQ fun i j=>.int (Builtin.bitAnd i j)):=CM fun _ _ _ _ _ _ _ q=>and_int q
theorem gi:mU X (binaryOp .BitXor) (FQ fun i j=>.int (Builtin.bitXor i j)):=CM fun _ _ _ _ _ _ _ q=>xor_int q
theorem Ez:mU X (inplaceOp .Add) (FQ fun i j=>.int (i+j)):=CM fun _ _ _ _ _ _ _ q=>iadd_int q
theorem CQ:mU X (inplaceOp .BitOr) (FQ fun i j=>.int (Builtin.bitOr i j)):=CM fun _ _ _ _ _ _ _ q=>ior_int q
theorem EA:mU X (inplaceOp .BitXor) (FQ fun i j=>.int (Builtin.bitXor i j)):=CM fun _ _ _ _ _ _ _ q=>ixor_int q
theorem Zq{f:Value->Sem Value}{g:Int->Int}
 (rule:∀(i:Int) (t:Tok) (s:Shared) (Q:eK) (E:eK),Q (.int (g i) s.toks) { s with toks:=s.toks+1}->wpAny (model X.prog X.w) X.A (f (.int i t)) Q E s) :
 UR X f (rU fun i=>.int (g i)):=by
 intro pq s σ H x v Q I rx h;obtain⟨i,rfl,q⟩:=h;obtain⟨t,rfl⟩:=rx;exact rule i t s _ _ ⟨.int (g i),H,I.tok _,⟨_,rfl⟩,q⟩
theorem Oo:UR X (unaryOp .USub) (rU fun i=>.int (-i)):=Zq fun _ _ _ _ _ q=>neg_int q
end
def Rf:V->V->Bool
 | .fD,.fD=>true | .fD,.int _=>true | .int _,.fD=>true | .fD,.bl _=>true | .bl _,.fD=>true | .fD,.str _=>true | .str _,.fD=>true
 | .int _,.int _=>true | .bl _,.bl _=>true | .str _,.str _=>true | .Ic _,.Ic _=>true
 | .int _,.str _=>true | .str _,.int _=>true | .bl _,.str _=>true | .str _,.bl _=>true
 | _,_=>false
def Zr:R2:=fun x y H Q=>Rf x y=true/\Q (.bl (decide (x=y))) H
def Zs:R2:=fun x y H Q=>Rf x y=true/\Q (.bl (!decide (x=y))) H
theorem EB{i j:Int}:decide (V.int i=V.int j)=(i==j):=by
 rw[Bool.eq_iff_iff];simp
theorem Iq{i j:Bool}:decide (V.bl i=V.bl j)=(i==j):=by
 rw[Bool.eq_iff_iff];simp
theorem EC{i j:Str}:decide (V.str i=V.str j)=(i==j):=by
 rw[Bool.eq_iff_iff];simp
theorem ED{i j:Array UInt8}:decide (V.Ic i=V.Ic j)=(i.toList==j.toList):=by
 rw[Bool.eq_iff_iff];cases i;cases j;simp
section
variable {X:Cx}{a b c:Expr}{ta tb tc:TE}{pos:Pos}
theorem bG{pq:aR}{σ:St}{H:Hp}{s:Shared}{Q:VK}{k k' : Bool}(I:Inv X pq σ H s)(q:Q (.bl k) H)(e:k=k'):EP X pq σ Q (.bool k') s:=by
 subst e;exact⟨.bl k,H,I,rfl,q⟩
theorem dI:mU X (compareOp .Eq) Zr:=by
 intro pq s σ H x y v u Q I rx ry h;obtain⟨hs,q⟩:=h;cases x with
 | fD =>
   cases rx;cases y with
   | fD=>cases ry;exact PySem.EqNone.eq_none_none (bG I q (by simp))
   | bl j=>cases ry;exact PySem.EqNone.eq_none_bool (bG I q (by simp))
   | int j=>obtain⟨t',rfl⟩:=ry;exact PySem.EqNone.eq_none_int (bG I q (by simp))
   | str j=>obtain⟨t',rfl⟩:=ry;exact PySem.EqNone.eq_none_str (bG I q (by simp))
   | _=>exact absurd (show false=true from hs) Bool.false_ne_true
 | bl i =>
   cases rx;cases y with
   | fD=>cases ry;exact PySem.EqNone.eq_bool_none (bG I q (by simp))
   | bl j=>cases ry;exact eq_bool (bG I q Iq)
   | str j=>obtain⟨t',rfl⟩:=ry;exact PySem.EqMixed.eq_bool_str (bG I q (by simp))
   | _=>exact absurd (show false=true from hs) Bool.false_ne_true
 | int i =>
   obtain⟨t,rfl⟩:=rx;cases y with
   | fD=>cases ry;exact PySem.EqNone.eq_int_none (bG I q (by simp))
   | int j=>obtain⟨t',rfl⟩:=ry;exact eq_int (bG I q EB)
   | str j=>obtain⟨t',rfl⟩:=ry;exact PySem.EqMixed.eq_int_str (bG I q (by simp))
   | _=>exact absurd (show false=true from hs) Bool.false_ne_true
 | str i =>
   obtain⟨t,rfl⟩:=rx;cases y with
   | fD=>cases ry;exact PySem.EqNone.eq_str_none (bG I q (by simp))
   | bl j=>cases ry;exact PySem.EqMixed.eq_str_bool (bG I q (by simp))
   | int j=>obtain⟨t',rfl⟩:=ry;exact PySem.EqMixed.eq_str_int (bG I q (by simp))
   | str j=>obtain⟨t',rfl⟩:=ry;exact eq_str (bG I q EC)
   | _=>exact absurd (show false=true from hs) Bool.false_ne_true
 | Ic i =>
   obtain⟨t,rfl⟩:=rx;cases y with
   | Ic j=>obtain⟨t',rfl⟩:=ry;exact PySem.W.eq_bytes (bG I q ED)
   | _=>exact absurd (show false=true from hs) Bool.false_ne_true
 | _=>cases y<;>exact absurd (show false=true from hs) Bool.false_ne_true
theorem uF:mU X (compareOp .NotEq) Zs:=by
 intro pq s σ H x y v u Q I rx ry h;obtain⟨hs,q⟩:=h;cases x with
 | fD =>
   cases rx;cases y with
   | fD=>cases ry;exact PySem.EqNone.ne_none_none (bG I q (by simp))
   | bl j=>cases ry;exact PySem.EqNone.ne_none_bool (bG I q (by simp))
   | int j=>obtain⟨t',rfl⟩:=ry;exact PySem.EqNone.ne_none_int (bG I q (by simp))
   | str j=>obtain⟨t',rfl⟩:=ry;exact PySem.EqNone.ne_none_str (bG I q (by simp))
   | _=>exact absurd (show false=true from hs) Bool.false_ne_true
 | bl i =>
   cases rx;cases y with
   | fD=>cases ry;exact PySem.EqNone.ne_bool_none (bG I q (by simp))
   | bl j=>cases ry;exact ne_bool (bG I q (congrArg not Iq))
   | str j=>obtain⟨t',rfl⟩:=ry;exact PySem.EqMixed.ne_bool_str (bG I q (by simp))
   | _=>exact absurd (show false=true from hs) Bool.false_ne_true
 | int i =>
   obtain⟨t,rfl⟩:=rx;cases y with
   | fD=>cases ry;exact PySem.EqNone.ne_int_none (bG I q (by simp))
   | int j=>obtain⟨t',rfl⟩:=ry;exact ne_int (bG I q (congrArg not EB))
   | str j=>obtain⟨t',rfl⟩:=ry;exact PySem.EqMixed.ne_int_str (bG I q (by simp))
   | _=>exact absurd (show false=true from hs) Bool.false_ne_true
 | str i =>
   obtain⟨t,rfl⟩:=rx;cases y with
   | fD=>cases ry;exact PySem.EqNone.ne_str_none (bG I q (by simp))
   | bl j=>cases ry;exact PySem.EqMixed.ne_str_bool (bG I q (by simp))
   | int j=>obtain⟨t',rfl⟩:=ry;exact PySem.EqMixed.ne_str_int (bG I q (by simp))
   | str j=>obtain⟨t',rfl⟩:=ry;exact ne_str (bG I q (congrArg not EC))
   | _=>exact absurd (show false=true from hs) Bool.false_ne_true
 | Ic i =>
   obtain⟨t,rfl⟩:=rx;cases y with
   | Ic j=>obtain⟨t',rfl⟩:=ry;exact PySem.W.ne_bytes (bG I q (congrArg not ED))
   | _=>exact absurd (show false=true from hs) Bool.false_ne_true
 | _=>cases y<;>exact absurd (show false=true from hs) Bool.false_ne_true
theorem xN:mU X (compareOp .Lt) (FQ fun i j=>.bl (decide (i<j))):=LR fun _ _ _ _ _ _ _ q=>lt_int q
theorem EF:mU X (compareOp .LtE) (FQ fun i j=>.bl (decide (i<=j))):=LR fun _ _ _ _ _ _ _ q=>le_int q
theorem uG:mU X (compareOp .Gt) (FQ fun i j=>.bl (decide (j<i))):=LR fun _ _ _ _ _ _ _ q=>gt_int q
theorem Ir:mU X (compareOp .GtE) (FQ fun i j=>.bl (decide (j<=i))):=LR fun _ _ _ _ _ _ _ q=>ge_int q
theorem Iu:mU X (compareOp .Is) (fun x y H Q=>y = .fD/\Q (.bl (decide (x = .fD))) H):=by
 intro pq s σ H x y v u Q I rx ry h;obtain⟨rfl,q⟩:=h;cases ry;refine is_none_gen (bG I q ?_);cases x<;>first
  | (cases rx;rfl)
  | (obtain⟨t,rfl⟩:=rx;rfl)
theorem LS:mU X (compareOp .IsNot) (fun x y H Q=>y = .fD/\Q (.bl (!decide (x = .fD))) H):=by
 intro pq s σ H x y v u Q I rx ry h;obtain⟨rfl,q⟩:=h;cases ry;refine isnot_none_gen (bG I q ?_);cases x<;>first
  | (cases rx;rfl)
  | (obtain⟨t,rfl⟩:=rx;rfl)
theorem aO(b:Expr){op:CmpOp}(h:op≠.In:=by decide)(h2:op≠.NotIn:=by decide):behindInMarks op b=false:=by
 have e1:(op==CmpOp.In)=false:=by cases op<;>first | rfl | exact absurd rfl h
 have e2:(op==CmpOp.NotIn)=false:=by cases op<;>first | rfl | exact absurd rfl h2
 cases b<;>simp[behindInMarks,e1,e2]
theorem dP{op:CmpOp}{r:R2}(ho:mU X (compareOp op) r)(ha:PE X a ta)(hb:PE X b tb)(hm:behindInMarks op b=false):PE X (.Compare a [op] [b] pos) (Ra r ta tb):=by
 intro pq s σ H Q I h;exact wpAny_Compare1 (Oj ha hb I h fun v u s2 x y H2 I2 rx ry q=>ho pq s2 σ H2 x y v u Q I2 rx ry q) hm
def Rg(t:TE):TT:=fun σ H Q=>t σ H fun x H'=>∃ k,x = .bl k/\Q k H'
theorem aL{op:CmpOp}{r:R2}(ho:mU X (compareOp op) r)(ha:PE X a ta)(hb:PE X b tb)(hm:behindInMarks op b=false):PT X (.Compare a [op] [b] pos) (Rg (Ra r ta tb)):=by
 intro pq s σ H Q I h;refine wpAny_isTrue_Compare1 (dH (ha pq s σ H _ I h) fun v s1 ⟨x,H1,I1,r1,q1⟩=>dH (hb pq s1 σ H1 _ I1 q1) fun u s2 ⟨y,H2,I2,r2,q2⟩ =>
  dH (ho pq s2 σ H2 x y v u _ I2 r1 r2 q2) fun c s3 ⟨z,H3,I3,r3,k,e,q3⟩=>?_) hm
 subst e;cases r3;exact wpAny_truthy_bool ⟨H3,I3,q3⟩
theorem uH:(sizeLine:Nat)<2^63:=by rw[sizeLine_eq];decide
theorem vals1{x:V}{us:List Value}(r:Vals [x] us):∃ u,us=[u]/\RelV x u:=by
 cases r with
 | cons r1 r2=>cases r2;exact⟨_,rfl,r1⟩
theorem vals2{x y:V}{us:List Value}(r:Vals [x,y] us):∃ u w',us=[u,w']/\RelV x u/\RelV y w':=by
 cases r with
 | cons r1 r2 =>
   cases r2 with
   | cons r3 r4=>cases r4;exact⟨_,_,rfl,r1,r3⟩
theorem qT(hc:X.calm=true):gE X (.builtin "max") (fun xs H Q=>∃ i j,xs=[.int i,.int j]/\Q (.int (if j > i then j else i)) H):=by
 intro pq s σ H xs us Q I r h;obtain⟨i,j,rfl,q⟩:=h;obtain⟨u,w',rfl,⟨t,rfl⟩,⟨t',rfl⟩⟩:=vals2 r;refine max_two_ints (I.ok.hd hc) fun h' tk k=>⟨_,H,I.kept k,?_,q⟩
 by_cases hj:j > i
 ·rw[if_pos hj,if_pos hj];exact⟨_,rfl⟩
 ·rw[if_neg hj,if_neg hj];exact⟨_,rfl⟩
theorem xO(hc:X.calm=true):gE X (.builtin "min") (fun xs H Q=>∃ i j,xs=[.int i,.int j]/\Q (.int (if j<i then j else i)) H):=by
 intro pq s σ H xs us Q I r h;obtain⟨i,j,rfl,q⟩:=h;obtain⟨u,w',rfl,⟨t,rfl⟩,⟨t',rfl⟩⟩:=vals2 r;refine min_two_ints (I.ok.hd hc) fun h' tk k=>⟨_,H,I.kept k,?_,q⟩
 by_cases hj:j<i
 ·rw[if_pos hj,if_pos hj];exact⟨_,rfl⟩
 ·rw[if_neg hj,if_neg hj];exact⟨_,rfl⟩
theorem nW:gE X (.type "int") (fun xs H Q=>(∃ i,xs=[.int i]/\Q (.int i) H)\/∃ k,xs=[.bl k]/\Q (.int (if k then 1 else 0)) H):=by
 intro pq s σ H xs us Q I r h;rcases h with⟨i,rfl,q⟩|⟨k,rfl,q⟩
 ·obtain⟨u,rfl,t,rfl⟩:=vals1 r;exact call_int_int ⟨.int i,H,I,⟨_,rfl⟩,q⟩
 ·obtain⟨u,rfl,r1⟩:=vals1 r;cases r1;exact call_int_bool ⟨.int (if k then 1 else 0),H,I.tok _,⟨_,rfl⟩,q⟩
end
theorem qP.some_of{v:V}{o:Option Value}(r:qP (some v) o):∃ u,o=some u/\RelV v u:=by
 cases o with
 | none=>exact(show False from r).elim
 | some u=>exact⟨u,rfl,r⟩
structure fH(k:Nat)(A:Around):Prop where
 hd:A.handled=none
 dp:A.depth+3*k+5<recursionLimit
 un:A.units+16*k+200<cLine
theorem fH.mono{j k:Nat}{A:Around}(r:fH k A)(h:j<=k):fH j A:=⟨r.hd,by have:=r.dp;lia,by have:=r.un;lia⟩
theorem fH.deeper{k:Nat}{A:Around}(r:fH (k+1) A)(env:Env):fH k (A.deeper env) :=
 ⟨r.hd,by have:=r.dp;show A.depth+1+3*k+5<_;lia,by have:=r.un;show A.units+3+16*k+200<_;lia⟩
theorem fH.in1{k:Nat}{A:Around}(r:fH (k+1) A):fH k A.in1 :=
 ⟨r.hd,by have:=r.dp;show A.depth+3*k+5<_;lia,by have:=r.un;show A.units+1+16*k+200<_;lia⟩
theorem fH.depth{k:Nat}{A:Around}(r:fH k A):A.depth<recursionLimit:=by have:=r.dp;lia
theorem fH.units{k:Nat}{A:Around}(r:fH k A):A.units+64<cLine:=by have:=r.un;lia
theorem fH.CS{k:Nat}{A:Around}(r:fH k A):A.units<cLine:=by have:=r.un;lia
def UT:TA:=fun _ H Q=>Q [] H
def Rh(ta:TE)(tr:TA):TA:=fun σ H Q=>ta σ H fun x H1=>tr σ H1 fun xs H2=>Q (x::xs) H2
section
variable {X:Cx}{e:Expr}{es:List Expr}{te:TE}{t:TA}{pos:Pos}
theorem af:PA X [] UT:=fun _ _ _ _ H Q I h=>Calls.spliced_nil ⟨[],H,I,.nil,h⟩
theorem aa(ha:PE X e te)(hr:PA X es t)(hs:starEach (e::es) X.env=(false,eval e X.env)::starEach es X.env:=by rfl):PA X (e::es) (Rh te t):=by
 intro pos pq s σ H Q I h;rw[hs];show wpAny _ _ (spliced ((false,eval e X.env)::backTo pos (starEach es X.env))) _ _ s;refine Calls.spliced_cons (dH (ha pq s σ H _ I h) fun u s1 ⟨x,H1,I1,r1,q1⟩=>?_)
 exact dH (hr pos pq s1 σ H1 _ I1 q1) fun us s2 ⟨xs,H2,I2,r2,q2⟩=>⟨x::xs,H2,I2,.cons r1 r2,q2⟩
def UU(t:TA):TE:=fun σ H Q=>t σ H fun xs H1=>xs.length<=sizeLine/\∀ p,H1 p=none->Q (.ref p) (upd H1 p (.tup xs))
def UW(t:TA):TE:=fun σ H Q=>t σ H fun xs H1=>xs.length<=sizeLine/\∀ p,H1 p=none->Q (.ref p) (upd H1 p (.lst xs))
theorem cP{x1}(h:PA X es t):PE X (.Tuple es x1 pos) (UU t):=by
 intro pq s σ H Q I hq;refine wpAny_Tuple_spliced (dH (h pos pq s σ H _ I hq) fun us s1 ⟨xs,H1,I1,r,z,q⟩=>⟨by rw[<-r.length];exact z,?_⟩)
 have hf:H1 s1.heap.objs.size=none:=I1.hok.fresh (Nat.le_refl _);refine⟨.ref s1.heap.objs.size,upd H1 s1.heap.objs.size (.tup xs),I1.laid (t':=s1.toks) (fun b u e=>Heap.get?_push_of_some _ e) (Nat.le_refl _) ?_,rfl,q _ hf⟩
 exact⟨z,us,r,⟨_,Heap.get?_push_size _ rfl,rfl,_,rfl⟩⟩
theorem dQ(h:PA X es t):PE X (.List es pos) (UW t):=by
 intro pq s σ H Q I hq;refine wpAny_List_spliced (dH (h pos pq s σ H _ I hq) fun us s1 ⟨xs,H1,I1,r,z,q⟩=>⟨by rw[<-r.length];exact z,?_⟩)
 have hf:H1 s1.heap.objs.size=none:=I1.hok.fresh (Nat.le_refl _);refine⟨.ref s1.heap.objs.size,upd H1 s1.heap.objs.size (.lst xs),I1.laid (t':=s1.toks) (fun b u e=>Heap.get?_push_of_some _ e) (Nat.le_refl _) ?_,rfl,q _ hf⟩
 exact⟨z,us,0,r,Heap.get?_push_size _ rfl⟩
end
abbrev Sp:=List V->Hp->VK->XK->Prop
abbrev HV:=List Env->Hp->Shared->XK->Value->Shared->Prop
structure LU(P:Program)(w:World)(K:bW)(mg:oQ)(base:Heap)(A:Around)(outer:List Env)(s:Shared)(H:Hp):Prop where
 frames:A.frames=some outer
 mod:Mod K mg base
 bs:∀ b o,base.get? b=some o->s.heap.get? b=some o/\H b=none
 LK:base.objs.size<=s.heap.objs.size
 funs:s.heap.FunFrames base outer
 Oa:∀ b∈frs outer,H b=none
 hok:nV P w H s.heap
 bare:AllBare s.gens
def CE(outer:List Env)(P:Program)(w:World)(H:Hp)(s:Shared)(Q:VK)(u:Value)(s' : Shared):Prop :=
 ∃ v H',s'.os=s.os/\AllBare s'.gens/\Un (frs outer) [] H H' s.heap s'.heap/\nV P w H' s'.heap/\RelV v u/\Q v H'
def CR(CX:HV)(outer:List Env)(P:Program)(w:World)(H:Hp)(s:Shared)(Q:VK)(E:XK)(r:Result)(s' : Shared):Prop :=
 match r with
 | .ok (.ret u)=>CE outer P w H s Q u s'
 | .ok _=>False
 | .error e=>CX outer H s E e s'
structure m5(P:Program)(w:World)(K:bW)(mg:oQ)(base:Heap)(CX:HV)(k:Nat)(f:Addr)(fd:FuncData)(ps:List Str)(sp:Sp):Prop where
 len:∀ vs H Q E,sp vs H Q E->vs.length=ps.length
 run:∀(A:Around) (outer:List Env) (s:Shared) (H:Hp) (args:Args) (us:List Value) (vs:List V) (Q:VK) (E:XK),fH k A->LU P w K mg base A outer s H->BindsTo s fd args (ps.zip us)->Vals vs us->sp vs H Q E->
  codeAny (model P w) A (.call (.ref f) args) (CR CX outer P w H s Q E) s
section
variable {X:Cx}{pq:aR}{σ:St}{H:Hp}{s s' : Shared}
theorem Inv.UX(I:Inv X pq σ H s):LU X.prog X.w X.K X.mg X.base X.A X.stack s H :=
 ⟨I.ok.frames,I.ok.mod,I.bs,Nat.le_trans I.ok.LK I.sz,I.stack,I.yI,I.hok,I.bare⟩
theorem Inv.after{Q:VK}{u:Value}(I:Inv X pq σ H s)(h:CE X.stack X.prog X.w H s Q u s'):EP X pq σ Q u s':=by
 obtain⟨v,H',os,bare,un,hok,r,q⟩:=h;obtain⟨hh,g,d,t,os'⟩:=s';obtain rfl:os' = s.os:=os;exact⟨v,H',I.call (h':=hh) (g':=g) (d':=d) (t':=t) (ch:=[]) un hok bare (fun b z=>absurd z (by simp)),r,q⟩
end
def Nl(sp:Sp)(Nm:List V)(E:XK)(t:TA):TE:=fun σ H Q=>t σ H fun vs H1=>sp (vs++Nm) H1 Q E
def Binds(K:bW)(fd:FuncData)(ps:List Str)(ds:List Value):Prop :=
 ∀(s:Shared) (us:List Value),K.In s.heap->(us++ds).length=ps.length->BindsTo s fd ⟨us,[]⟩ (ps.zip (us++ds))
theorem Binds.all{K:bW}{fd:FuncData}{ps:List Str}(h:∀ us:List Value,us.length=ps.length->bindArgs fd ⟨us,[]⟩=pure (ps.zip us)):Binds K fd ps []:=fun s us _ hl=>by
 rw[List.append_nil]at hl ⊢;exact .of_eq (h us hl)
def Passes(CX:HV)(X:Cx)(E:XK):Prop:=∀(pq:aR) (σ:St) (H:Hp) (s:Shared) (e:Value) (s' : Shared),Inv X pq σ H s->CX X.stack H s E e s'->X.xe e s'
section
variable {X:Cx}{CX:HV}{k:Nat}{f C:Addr}{fd:FuncData}{ps:List Str}{sp:Sp}{Nm:List V}{ds:List Value}{E:XK}{x m:Str}{p pos apos:Pos}{e o:Expr}{es:List Expr}{ta:TE}{t:TA}
theorem Oq{pq:aR}{σ:St}{H:Hp}{s:Shared}{Q:VK}{us:List Value}{vs:List V}(F:m5 X.prog X.w X.K X.mg X.base CX k f fd ps sp)(hr:fH k X.A)(hb:Binds X.K fd ps ds)(hd:Vals Nm ds)(hx:Passes CX X E)
 (I:Inv X pq σ H s) (r:Vals vs us) (h:sp (vs++Nm) H Q E):wpAny (model X.prog X.w) X.A (call (.ref f) us) (EP X pq σ Q) X.xe s:=by
 have r2:Vals (vs++Nm) (us++ds):=r.append hd;have hl:(us++ds).length=ps.length:=by rw[<-r2.length];exact F.len _ _ _ _ h
 refine wpAny_call (codeAny_mono (F.run X.A X.stack s H ⟨us,[]⟩ (us++ds) (vs++Nm) Q E hr I.UX (hb s us I.Ob hl) r2 h) fun r s' hq=>?_)
 cases r with
 | error e=>exact hx pq σ H s e s' I hq
 | ok fl =>
   cases fl with
   | ret u=>exact I.after hq
   | next=>exact False.elim hq
   | brk=>exact False.elim hq
   | cont=>exact False.elim hq
theorem LV(F:m5 X.prog X.w X.K X.mg X.base CX k f fd ps sp)(hr:fH k X.A)(hg:Gl X x)(hm:X.mg x=some (.ref f))(hk:PySem.W.keepIn X.K (.ref f)=true)(hb:Binds X.K fd ps ds)(hd:Vals Nm ds)(hx:Passes CX X E)
 (ha:PA X (e::es) t) (hdb:(x==("__debug__":Str))=false:=by decide) (he:starEach (e::es) X.env=(false,eval e X.env)::starEach es X.env:=by rfl) (hpl:(backTo pos (starEach es X.env)).any (·.1)=false:=by rfl) :
 PE X (.Call (.Name x p) (e::es) [] pos) (Nl sp Nm E t):=by
 intro pq s σ H Q I h;refine wpAny_Call_Name_kw (yJ I hg hm ?_ hdb);refine PySem.W.callWith_K (h₀:=X.base) I.ok.mod.Tw hk (dH (ha pos pq s σ H _ I h) fun us s1 ⟨vs,H1,I1,r,q⟩=>⟨I1.Ob,?_⟩) he hpl
 exact Oq F hr hb hd hx I1 r q
end
structure aD(N P:List Str)(sc:Scope):Prop where
 kind:sc.kind = .function
 co:sc.isCoroutine=false
 gen:sc.isGenerator=false
 nd:N.Nodup
 pre:N.take P.length=P
 par:∀ x∈P,sc.names.lookup x=some .local\/sc.names.lookup x=some .cell
 Ot:∀ y∈sc.names,y.2≠.free
theorem xP{kindOf:Str->Option NameKind}{x:Str}:∀{binds:List (Str×Value)} {m:oQ},(∀ v,(x,v)∉binds)->bindL kindOf binds m x=m x
 | [],_,_=>rfl
 | (n,v)::r,m,h=>by
   unfold bindL;rw[xP fun w hw=>h w (kU _ hw)]
   split
   ·have:x≠n:=by rintro rfl;exact h v List.mem_cons_self
    simp[this]
   ·rfl
theorem xQ{kindOf:Str->Option NameKind}{x:Str}:∀{binds:List (Str×Value)} {m:oQ},(∀ v,(x,v)∉binds)->bindC kindOf binds m x=m x
 | [],_,_=>rfl
 | (n,v)::r,m,h=>by
   unfold bindC;rw[xQ fun w hw=>h w (kU _ hw)]
   split
   ·rfl
   ·have:x≠n:=by rintro rfl;exact h v List.mem_cons_self
    simp[this]
theorem xR{kindOf:Str->Option NameKind}{x:Str}{v:Value}:∀{P:List Str} {vs:List Value} {i:Nat} {m:oQ},P.Nodup->P[i]?=some x->vs[i]?=some v->kindOf x=some .local->
 bindL kindOf (P.zip vs) m x=some v
 | [],_,_,_,_,h,_,_=>by simp at h
 | _::_,[],_,_,_,_,h,_=>by simp at h
 | p::P,w::vs,0,m,nd,h1,h2,hk=>by
   simp at h1 h2;subst h1;subst h2;show bindL kindOf ((p,w)::P.zip vs) m p=_;unfold bindL;rw[xP fun v hv=>(List.nodup_cons.mp nd).1 (List.of_mem_zip hv).1,if_pos hk]
   simp
 | p::P,w::vs,i+1,m,nd,h1,h2,hk=>by
   show bindL kindOf ((p,w)::P.zip vs) m x=_;unfold bindL;exact xR (i:=i) (List.nodup_cons.mp nd).2 (by simpa using h1) (by simpa using h2) hk
theorem xS{kindOf:Str->Option NameKind}{x:Str}{v:Value}:∀{P:List Str} {vs:List Value} {i:Nat} {m:oQ},P.Nodup->P[i]?=some x->vs[i]?=some v->kindOf x≠some .local->
 bindC kindOf (P.zip vs) m x=some v
 | [],_,_,_,_,h,_,_=>by simp at h
 | _::_,[],_,_,_,_,h,_=>by simp at h
 | p::P,w::vs,0,m,nd,h1,h2,hk=>by
   simp at h1 h2;subst h1;subst h2;show bindC kindOf ((p,w)::P.zip vs) m p=_;unfold bindC;rw[xQ fun v hv=>(List.nodup_cons.mp nd).1 (List.of_mem_zip hv).1,if_neg hk]
   simp
 | p::P,w::vs,i+1,m,nd,h1,h2,hk=>by
   show bindC kindOf ((p,w)::P.zip vs) m x=_;unfold bindC;exact xS (i:=i) (List.nodup_cons.mp nd).2 (by simpa using h1) (by simpa using h2) hk
def start(N:List Str)(vs:List V):St:=vs.map some++List.replicate (N.length-vs.length) none
def tI(CX:HV)(P:Program)(w:World)(K:bW)(mg:oQ)(base:Heap)(N:List Str)(qual:Str)(scope:Scope)(f:Addr)(cd:Value)(A:Around)(outer:List Env)(s:Shared)(H:Hp)(E:XK):Cx where
 prog:=P
 w:=w
 K:=K
 mg:=mg
 base:=base
 A:=A.deeper (envOfC qual scope s.heap.objs.size f cd)
 N:=N
 s₀:=s
 H₀:=H
 env:=envOfC qual scope s.heap.objs.size f cd
 outer:=outer
 stack:=envOfC qual scope s.heap.objs.size f cd::outer
 ex:=[]
 calm:=true
 fn:=fun _=>true
 pn:=[]
 xe:=fun e s'=>wpAny (model P w) (A.deeper (envOfC qual scope s.heap.objs.size f cd)) (leaving (envOfC qual scope s.heap.objs.size f cd) e) (fun _ s''=>CX outer H s E e s'') (fun e' s''=>CX outer H s E e' s'') s'
theorem Aw{sc:Scope}{n:Nat}{x:Str}(h:sc.names.lookup x=some .cell):∃ c,(cellsFrom n sc.names []).lookup x=some c:=by
 have q:=PySem.W.cellsFrom_some sc.names n [] (.inl h);exact Option.isSome_iff_exists.mp q
theorem FT{CX:HV}{P:Program}{w:World}{K:bW}{mg:oQ}{base:Heap}{N ps:List Str}{qual:Str}{scope:Scope}{f:Addr}{cd:Value}{A:Around}{outer:List Env}{s s1:Shared}{H:Hp}{E:XK}{us:List Value}{vs:List V}
 (S:aD N ps scope) (hd:A.handled=none) (e0:LU P w K mg base A outer s H) (hl:vs.length=ps.length) (r:Vals vs us)
 (x:InCallC s s.heap.objs.size (bindL (envOfC qual scope s.heap.objs.size f cd).kindOf (ps.zip us) fun _=>none) (cellsFrom (s.heap.objs.size+1) scope.names []) (bindC (envOfC qual scope s.heap.objs.size f cd).kindOf (ps.zip us) fun _=>none) s1) :
 Inv (tI CX P w K mg base N qual scope f cd A outer s H E) [] (start N vs) H s1:=by
 have hpl:ps.length<=N.length:=by have:=congrArg List.length S.pre;rw[List.length_take]at this;lia
 obtain⟨h1,tk,rfl,hk⟩:=x.done;have UY:∀ b:Addr,b∉(tI CX P w K mg base N qual scope f cd A outer s H E).ex:=fun b z=>absurd (show b∈([]:List Addr) from z) (by simp)
 refine⟨⟨e0.mod,S.kind,rfl,rfl,Nat.le_refl _,fun y z c h1 h2=>?_,fun y hy=>?_,fun y c _ h=>?_,fun _=>hd,Around.frames_deeper e0.frames,.inr ⟨rfl,rfl⟩,fun b z=>absurd z (UY b),e0.bs,e0.LK,fun b _ _=>UY b,fun b z=>absurd z (UY b),e0.funs,e0.Oa⟩,
  rfl,e0.bare,Un.kept hk,⟨_,x.toInCall.ns,fun i y v h1 h2 h3=>?_⟩,fun y c h=>⟨_,x.cell y c h⟩,e0.hok.fresh (Nat.le_refl _),fun y c h=>?_,fun p hp=>absurd (show p∈([]:aR) from hp) (by simp),e0.hok.kept hk,?_⟩
 ·exact name_of_addr x.apart (PySem.mem_of_lookup h1) (PySem.mem_of_lookup h2)
 ·have hy:scope.names.lookup y=some .cell\/scope.names.lookup y=some .free:=hy;rcases hy with hy|hy
  ·exact Aw hy
  ·exact absurd rfl (S.Ot _ (PySem.mem_of_lookup hy))
 ·exact Nat.le_of_lt (x.above y c (PySem.mem_of_lookup h))
 ·have hi:i<vs.length:=by
   unfold start at h2
   by_cases hi:i<vs.length
   ·exact hi
   ·rw[List.getElem?_append_right (by simpa using hi)]at h2
    rw[List.getElem?_replicate]at h2
    split at h2<;>cases h2
  have ha:vs[i]?=some v:=by
   unfold start at h2;rw[List.getElem?_append_left (by simpa using hi),List.getElem?_map]at h2
   cases e:vs[i]? with
   | none=>rw[e]at h2;cases h2
   | some a=>rw[e]at h2;cases h2;rfl
  obtain⟨u,hu,rv⟩:=r.get ha;have hp:ps[i]?=some y:=by
   rw[<-S.pre,List.getElem?_take_of_lt (by lia)];exact h1
  have WL:ps.Nodup:=by rw[<-S.pre];exact S.nd.sublist (List.take_sublist _ _)
  refine⟨u,rv,?_⟩;rcases S.par y (iT hp) with k|k
  ·exact .inl ⟨k,xR WL hp hu k⟩
  ·obtain⟨c,e⟩:=Aw (n:=s.heap.objs.size+1) k;refine .inr ⟨.inl k,c,e,?_⟩;have q:=x.cell y c e;rw[xS WL hp hu (by show scope.names.lookup y≠_;rw[k];decide)]at q
   exact q
 ·exact e0.hok.fresh (Nat.le_of_lt (x.above y c (PySem.mem_of_lookup h)))
 ·unfold start;show _=N.length;rw[List.length_append,List.length_map,List.length_replicate]
  lia
theorem Iv{CX:HV}{P:Program}{w:World}{K:bW}{mg:oQ}{base:Heap}{k:Nat}{f:Addr}{name qual:Str}{params:Arguments}{body:List Stmt}{scope:Scope}{dV kV doc pm cdv ct oc:Value}{an od:Option Addr}
 {osl:Array (Option Value)} {N ps:List Str} {sp:Sp} (lk:K.lookup f=some ⟨oc,od,.func (PySem.W.fnOf name qual params body scope dV kV doc pm an cdv ct),osl⟩) (hcd:PySem.W.codeIn K cdv qual=true) (S:aD N ps scope)
 (len:∀ vs H Q E,sp vs H Q E->vs.length=ps.length)
 (hbody:∀(A:Around) (outer:List Env) (s:Shared) (H:Hp) (vs:List V) (Q:VK) (E:XK),fH k (A.deeper (envOfC qual scope s.heap.objs.size f cdv))->sp vs H Q E->
  ∃ t,xJ (tI CX P w K mg base N qual scope f cdv A outer s H E) body t/\t { nx:=fun _ H'=>Q .fD H',rt:=Q} (start N vs) H) :
 m5 P w K mg base CX (k+1) f (PySem.W.fnOf name qual params body scope dV kV doc pm an cdv ct) ps sp:=by
 refine⟨len,fun A outer s H args us vs Q E hr e0 hb r qO=>?_⟩
 have hl:=len _ _ _ _ qO;have KX:K.In s.heap:=e0.mod.Tw.keeps fun b o e=>(e0.bs b o e).1
 have lim:s.heap.NoLimit:=e0.mod.nolimit.keeps fun b o e=>(e0.bs b o e).1
 have hkind:∀ y∈ps.zip us,scope.names.lookup y.1=some .local\/(scope.names.lookup y.1=some .cell/\((cellsFrom (s.heap.objs.size+1) scope.names []).lookup y.1).isSome=true):=fun⟨n,v⟩ hy=>by
  rcases S.par n (List.of_mem_zip hy).1 with q|q
  ·exact .inl q
  ·exact .inr ⟨q,PySem.W.cellsFrom_some _ _ _ (.inl q)⟩
 refine codeAny_call_function hr.depth (KX _ _ lk) rfl S.co S.gen rfl (PySem.W.codeRec_of KX hcd) (hb _ _ _ _ ?_);refine wpAny_newFunctionEnv_cells S.kind hkind fun env he s1 x=>?_
 subst he;refine⟨lim.keeps x.toInCall.keep,codeAny_func ?_⟩;obtain⟨t,ht,hq⟩:=hbody A outer s H vs Q E (hr.deeper _) qO;have I:Inv (tI CX P w K mg base N qual scope f cdv A outer s H E) [] (start N vs) H s1:=FT S hr.hd e0 hl r x;refine wpAny_mono (ht [] s1 (start N vs) H _ I hq) (fun fl s' hs=>?_) fun e s' hs=>hs
 have fin:∀{σ' : St} {H' : Hp} {v:V} {u:Value},Inv (tI CX P w K mg base N qual scope f cdv A outer s H E) [] σ' H' s'->RelV v u->Q v H'->CE outer P w H s Q u s' :=
  fun {σ' H' v u} J rv q=>⟨v,H',J.os,J.bare,J.base,J.hok,rv,q⟩
 cases fl with
 | ret u =>
   obtain⟨v,σ',H',J,rv,q⟩:=hs;exact fin J rv q
 | next =>
   obtain⟨σ',H',J,q⟩:=hs;exact fin (v:=V.fD) (u:=Value.none) J rfl q
 | brk =>
   obtain⟨_,_,_,q⟩:=hs;exact False.elim q
 | cont =>
   obtain⟨_,_,_,q⟩:=hs;exact False.elim q
section
variable {X:Cx}{x:Str}{p pos:Pos}{e:Expr}{es:List Expr}{t:TA}{id T:String}{r:List V->Hp->VK->Prop}
def UZ(r:List V->Hp->VK->Prop)(t:TA):TE:=fun σ H Q=>t σ H fun vs H1=>r vs H1 Q
theorem cW(hc:gE X (.builtin id) r)(hg:Gl X x)(hm:X.mg x=none)(hv:bootBuiltins x=some (.builtin id))(ha:PA X (e::es) t)(hn:x≠"__name__":=by decide)(hdb:(x==("__debug__":Str))=false:=by decide)
 (he:starEach (e::es) X.env=(false,eval e X.env)::starEach es X.env:=by rfl) (hpl:(backTo pos (starEach es X.env)).any (·.1)=false:=by rfl):PE X (.Call (.Name x p) (e::es) [] pos) (UZ r t):=by
 intro pq s σ H Q I h;refine wpAny_Call_Name_kw (lD I hg hm hv ?_ hn hdb);exact PyProof.Rows.callWith_builtin1 (dH (ha pos pq s σ H _ I h) fun us s1 ⟨vs,H1,I1,r1,q1⟩=>hc pq s1 σ H1 vs us Q I1 r1 q1) he hpl
theorem cL(hc:gE X (.type T) r)(hg:Gl X x)(hm:X.mg x=none)(hv:bootBuiltins x=some (.type T))(ha:PA X (e::es) t)(hn:x≠"__name__":=by decide)(hdb:(x==("__debug__":Str))=false:=by decide)
 (he:starEach (e::es) X.env=(false,eval e X.env)::starEach es X.env:=by rfl) (hpl:(backTo pos (starEach es X.env)).any (·.1)=false:=by rfl):PE X (.Call (.Name x p) (e::es) [] pos) (UZ r t):=by
 intro pq s σ H Q I h;refine wpAny_Call_Name_kw (lD I hg hm hv ?_ hn hdb);exact PyProof.Rows.callWith_type1 (dH (ha pos pq s σ H _ I h) fun us s1 ⟨vs,H1,I1,r1,q1⟩=>hc pq s1 σ H1 vs us Q I1 r1 q1) he hpl
end
end L2
namespace HT
open PySem PyProof.Rows
def lexLt:List Int->List Int->Bool
 | [],[]=>false
 | [],_::_=>true
 | _::_,[]=>false
 | x::xs,y::ys=>if x=y then lexLt xs ys else decide (x<y)
theorem g8(x y:Int)(xs ys:List Int):lexLt (x::xs) (y::ys)=if x=y then lexLt xs ys else decide (x<y):=rfl
theorem oR:lexLt [] []=false:=rfl
theorem uI(y:Int)(ys:List Int):lexLt [] (y::ys)=true:=rfl
theorem gF(x:Int)(xs:List Int):lexLt (x::xs) []=false:=rfl
theorem Ax(A:Around)(s:Shared)(a:Int)(t:Tok)(c:Int)(u:Tok):∃ e,SeqAt.EqAt A s (.int a t) (.int c u) e/\(e=true↔a=c) :=
 ⟨(a==c),SeqAt.EqAt.int_int a t c u,by simp⟩
theorem Iw(A:Around)(s:Shared)(a:Int)(t:Tok)(c:Int)(u:Tok)(prog:Program)(w:World)(E:eK)(Q:eK)(h:Q (.bool (decide (a<c))) s):
 wpAny (model prog w) A (richCompare .Lt (.int a t) (.int c u)) Q E s :=
 (PyProof.Rows.lt_int h:wpAny (model prog w) A (compareOp .Lt (.int a t) (.int c u)) Q E s)
section
open PySem.SeqAt
open PySem.AutoSeq1 (wpAny_loadPart')
open PySem.MeetsSeq PySem.MeetsSeq2 PySem.MeetsSeq3
theorem wI(l b:Addr)(items items2:Array Value)(n n2:Nat)(dd dd2:Option Addr)(sl sl2:Array (Option Value))(ns ms:List Int)(hi:IntsAre items.toList ns)(hj:IntsAre items2.toList ms):
 Meets (Builtin.«tuple.__lt__» ⟨[.ref l,.ref b],[]⟩)
  (fun _ R s=>s.heap.get? l=some { cls:=.type "tuple",dict:=dd,data:=.seq items n,slots:=sl}/\s.heap.get? b=some { cls:=.type "tuple",dict:=dd2,data:=.seq items2 n2,slots:=sl2}/\
   R (.ok (.ret (.bool (lexLt ns ms)))) s) :=
 .of_wp fun prog w A R s h=>by
  obtain⟨hp,g,d,tk,os⟩:=s;obtain⟨hl,hb,h⟩:=h;have f2:=AutoSeq1.sub_tuple_tuple;have z1:items.size=ns.length:=by rw[<-hi.length];simp
  have z2:items2.size=ms.length:=by rw[<-hj.length];simp
  wp_walk using wpAny_loadPart' hl,wpAny_loadPart' hb,wpAny_forIn_list _ (fun rest b s'=>b.1=none/\s' = ⟨hp,g,d,tk,os⟩/\∃(vs ws:List Value) (ns' ms' : List Int),rest=vs.zip ws/\
   IntsAre vs ns'/\IntsAre ws ms'/\ns'.length+items2.size=ms'.length+items.size/\R (.ok (.ret (.bool (lexLt ns' ms')))) ⟨hp,g,d,tk,os⟩) _
  case turn =>
   rintro⟨y,x⟩ rest b s' ⟨hb',rfl,vs,ws,ns',ms',hz,Nn,hwi,hlen,hR⟩;cases Nn with
   | nil=>rw[List.zip_nil_left]at hz;cases hz
   | cons a t hvi' =>
     cases hwi with
     | nil=>rw[List.zip_nil_right]at hz;cases hz
     | cons c u hwi' =>
       rw[List.zip_cons_cons]at hz;injection hz with hyx hrest
       injection hyx with hy hx
       subst hy hx;rw[g8]at hR;simp only[List.length_cons]at hlen;obtain⟨e,he,Iz⟩:=Ax A.in1 ⟨hp,g,d,tk,os⟩ a t c u;refine wpAny_bind (he prog w _ _ ?_);cases e with
       | true =>
         rw[if_pos (Iz.mp rfl)]at hR
         wp_walk
         exact⟨rfl,rfl,_,_,_,_,hrest,hvi',hwi',by lia,hR⟩
       | false =>
         rw[if_neg (fun q=>absurd (Iz.mpr q) Bool.false_ne_true)]at hR
         have Ou:=Iw A.in1 ⟨hp,g,d,tk,os⟩ a t c u prog w
         wp_walk using Ou
         exact⟨_,rfl,by simpa using hR⟩
  case fin =>
   rintro⟨b1,b2⟩ s' ⟨hb',rfl,vs,ws,ns',ms',hz,Nn,hwi,hlen,hR⟩;simp only at hb';subst hb';have hv:lexLt ns' ms' = decide (items.size<items2.size):=by
    cases Nn with
    | nil =>
      cases hwi with
      | nil =>
        simp only[List.length_nil]at hlen;rw[oR];exact(c7 (by lia)).symm
      | cons c u hw =>
        simp only[List.length_nil,List.length_cons]at hlen;rw[uI];exact(cD (by lia)).symm
    | cons a t hv =>
      cases hwi with
      | nil =>
        simp only[List.length_nil,List.length_cons]at hlen;rw[gF];exact(c7 (by lia)).symm
      | cons c u hw =>
        rw[List.zip_cons_cons]at hz;cases hz
   rw[hv]at hR
   wp_walk
   exact⟨_,rfl,by simpa[Builtin.Tuple.tupleCompareSizes]using hR⟩
  case h =>
   exact⟨rfl,rfl,items.toList,items2.toList,ns,ms,rfl,hi,hj,by lia,h⟩
end
section
variable {prog:Program}{w:World}{A:Around}{E:eK}{s:Shared}
theorem CU{l b:Addr}{items items2:Array Value}{ns ms:List Int}{Q:eK}(hl:IsTup s.heap l items)(hb:IsTup s.heap b items2)(hi:IntsAre items.toList ns)(hj:IntsAre items2.toList ms)
 (hu:A.units<cLine) (h:Q (.bool (lexLt ns ms)) s):wpAny (model prog w) A (compareOp .Lt (.ref l) (.ref b)) Q E s:=by
 obtain⟨⟨cls,dd,data,sl⟩,ho,hc,n,hd⟩:=id hl;obtain⟨⟨Ri,dd2,data2,sl2⟩,ho2,hc2,n2,hd2⟩:=id hb;simp only at hc hd hc2 hd2;subst hc hd hc2 hd2;exact richCompare_meets_room (op:=.Lt) ⟨_,ho,rfl⟩ ⟨_,ho2,rfl⟩ PySem.F.slot_tuple_lt PySem.F.entry_tuple_lt (PySem.F.args_tuple_lt_2 _ _) (wI l b items items2 n n2 dd dd2 sl sl2 ns ms hi hj)
  ⟨ho,ho2,show Value.bool (lexLt ns ms)≠Value.notImplemented/\Q (.bool (lexLt ns ms)) s from⟨(fun x=>nomatch x),h⟩⟩ hu
def p8(n d:Nat):Option Int->Nat
 | none=>d
 | some v=>if v<0 then(v+(n:Int)).toNat else min v.toNat n
theorem IA(n d:Nat):p8 n d none=d:=rfl
theorem LW(n d k:Nat):p8 n d (some (k:Int))=min k n:=by
 show(if(k:Int)<0 then((k:Int)+(n:Int)).toNat else min (k:Int).toNat n)=min k n
 rw[if_neg (by lia),Int.toNat_natCast]
end
end HT
namespace L2
open PySem PySem.Spec PyProof.Rows
abbrev TO:=St->Hp->(Option Int->Hp->Prop)->Prop
def PO(X:Cx)(e:Option Expr)(t:TO):Prop :=
 ∀(pq:aR) (s:Shared) (σ:St) (H:Hp) (Q:Option Int->Hp->Prop),Inv X pq σ H s->t σ H Q->
  wpAny (model X.prog X.w) X.A (evalPart e X.env) (fun u s'=>∃ o H',Inv X pq σ H' s'/\IsPart u o/\Q o H') X.xe s
def LX:TO:=fun _ H Q=>Q none H
def Rj(t:TE):TO:=fun σ H Q=>t σ H fun x H1=>∃ i,x = .int i/\Q (some i) H1
theorem intsAre_of{ns:List Int}:∀{us:List Value},Vals (ns.map V.int) us->IntsAre us ns:=by
 induction ns with
 | nil=>intro us r;rw[List.map_nil]at r;cases r;exact .nil
 | cons n ns ih =>
   intro us r;rw[List.map_cons]at r;cases r with
   | cons r1 r2 =>
     obtain⟨t,e⟩:=r1;subst e;exact .cons n t (ih r2)
section
variable {X:Cx}{e:Expr}{te:TE}{lo hi:Option Expr}{tl th:TO}{pos p2:Pos}
theorem nX:PO X none LX:=by
 intro pq s σ H Q I h;rw[evalPart_none];exact wpAny_pure ⟨none,H,I,.none,h⟩
theorem nY(h:PE X e te):PO X (some e) (Rj te):=by
 intro pq s σ H Q I hw;rw[evalPart_some];refine dH (h pq s σ H _ I hw) fun u s1 ⟨x,H1,I1,r1,q1⟩=>?_
 obtain⟨i,rfl,q⟩:=q1;obtain⟨t,rfl⟩:=r1;exact⟨some i,H1,I1,.int i t,q⟩
def U0(X:Cx)(r:V->Option Int->Option Int->Hp->VK->Prop):Prop :=
 ∀(pq:aR) (s:Shared) (σ:St) (H:Hp) (x:V) (v vl vu:Value) (lo hi:Option Int) (sl:Addr) (Q:VK),Inv X pq σ H s->RelV x v->s.heap.IsSliceOf sl vl vu .none->IsPart vl lo->IsPart vu hi->r x lo hi H Q->
  ∃ T id,typeLookup (.type T) "__getitem__"=pure (some (.builtin id))/\s.TypeIs v T/\wpAny (model X.prog X.w) X.A (getItem v (.ref sl)) (EP X pq σ Q) X.xe s
def Zt(r:V->Option Int->Option Int->Hp->VK->Prop)(te:TE)(tl th:TO):TE:=fun σ H Q=>te σ H fun x H1=>tl σ H1 fun l H2=>th σ H2 fun u H3=>r x l u H3 Q
theorem kW{r:V->Option Int->Option Int->Hp->VK->Prop}(hr:U0 X r)(he:PE X e te)(hl:PO X lo tl)(hu:PO X hi th):PE X (.Subscript e (.Slice lo hi none p2) pos) (Zt r te tl th):=by
 intro pq s σ H Q I h;refine Subscript_ (dH (he pq s σ H _ I h) fun v s1 ⟨x,H1,I1,r1,q1⟩=>?_)
 refine wpAny_Slice (dH (hl pq s1 σ H1 _ I1 q1) fun vl s2 ⟨l,H2,I2,pl,q2⟩=>dH (hu pq s2 σ H2 _ I2 q2) fun vu s3 ⟨u,H3,I3,pu,q3⟩=>?_)
 rw[evalPart_none];refine wpAny_pure ?_;have I4:Inv X pq σ H3 { s3 with heap:=s3.heap.push { cls:=.type "slice",data:=.fields #[vl,vu,.none]}}:=I3.kept (t':=s3.toks) fun b ob q=>Heap.get?_push_of_some _ q
 obtain⟨T,id,hT,ht,hg⟩:=hr pq { s3 with heap:=s3.heap.push { cls:=.type "slice",data:=.fields #[vl,vu,.none]}} σ H3 x v vl vu l u s3.heap.objs.size Q I4 r1 (Heap.IsSliceOf.new ..) pl pu q3
 show wpAny (model X.prog X.w) X.A (subscriptTail e (.Slice lo hi none p2) v (.ref s3.heap.objs.size)) (EP X pq σ Q) X.xe { s3 with heap:=s3.heap.push { cls:=.type "slice",data:=.fields #[vl,vu,.none]}}
 exact tail_any (ops:=[.ref s3.heap.objs.size,v]) ht hT hg (by with_unfolding_all rfl)
def uJ(xs:List V)(lo hi:Option Int):List V:=(xs.drop (HT.p8 xs.length 0 lo)).take (HT.p8 xs.length xs.length hi-HT.p8 xs.length 0 lo)
theorem Ay(xs:List V)(lo hi:Option Int):(uJ xs lo hi).length<=xs.length:=by
 unfold uJ;rw[List.length_take,List.length_drop]
 lia
end
def LY(n:Nat)(i:Int):Option Nat:=if 0<=i then(if i<n then some i.toNat else none) else if -(n:Int)<=i then some (i+n).toNat else none
def HW{α:Type}(xs:List α)(i:Int):Option α:=(LY xs.length i).bind fun j=>xs[j]?
theorem EG{n:Nat}{i:Int}{j:Nat}(h:LY n i=some j):seqIndex? i n=some j/\j<n/\-(n:Int)<=i/\i<n:=by
 unfold LY at h
 by_cases h0:0<=i
 ·rw[if_pos h0]at h
  by_cases h1:i<n
  ·rw[if_pos h1]at h;have e:i.toNat=j:=Option.some.inj h;exact⟨by rw[seqIndex_of h0 h1,e],by lia,by lia,h1⟩
  ·rw[if_neg h1]at h;cases h
 ·rw[if_neg h0]at h
  by_cases h1 : -(n:Int)<=i
  ·rw[if_pos h1]at h;have e:(i+n).toNat=j:=Option.some.inj h;exact⟨by rw[seqIndex_neg (by lia) h1,e],by lia,h1,by lia⟩
  ·rw[if_neg h1]at h;cases h
theorem EH{α:Type}{xs:List α}{i:Int}{v:α}(h:HW xs i=some v):∃ j,seqIndex? i xs.length=some j/\xs[j]?=some v/\j<xs.length/\-(xs.length:Int)<=i/\i<xs.length:=by
 unfold HW at h;cases e:LY xs.length i with
 | none=>rw[e]at h;cases h
 | some j =>
   rw[e]at h;obtain⟨h1,h2,h3,h4⟩:=EG e;exact⟨j,h1,h,h2,h3,h4⟩
theorem ak{α:Type}{xs:List α}{j:Nat}{v:α}(h:xs[j]?=some v):HW xs (j:Int)=some v:=by
 have hj:j<xs.length:=(jQ.mp h).1;have e:LY xs.length (j:Int)=some j:=by
  unfold LY;rw[if_pos (by lia),if_pos (by lia)];simp
 unfold HW;rw[e];exact h
def EI(b:Expr):Prop:=∀ o i,subscripted b false o i=operate [o,i] (getItem o i)
def Qo(X:Cx)(r:R2):Prop :=
 ∀(value slice:Expr) (pq:aR) (s:Shared) (σ:St) (H:Hp) (x y:V) (v u:Value) (Q:VK),Inv X pq σ H s->RelV x v->RelV y u->r x y H Q->
  subscripted slice false v u=operate [v,u] (getItem v u)->wpAny (model X.prog X.w) X.A (subscriptTail value slice v u) (EP X pq σ Q) X.xe s
def U1(X:Cx)(id:String)(r:V->List V->Hp->VK->Prop):Prop :=
 ∀(pq:aR) (s:Shared) (σ:St) (H:Hp) (x:V) (xs:List V) (v:Value) (us:List Value) (Q:VK),Inv X pq σ H s->RelV x v->Vals xs us->r x xs H Q->
  wpAny (model X.prog X.w) X.A (call (.builtin id) (v::us)) (EP X pq σ Q) X.xe s
section
variable {X:Cx}{a b:Expr}{ta tb:TE}{pos:Pos}
theorem Rk{r:R2}(hr:Qo X r)(ha:PE X a ta)(hb:PE X b tb)(hs:EI b):PE X (.Subscript a b pos) (Ra r ta tb):=by
 intro pq s σ H Q I h;exact Subscript_ (Oj ha hb I h fun v u s2 x y H2 I2 rx ry q=>hr a b pq s2 σ H2 x y v u Q I2 rx ry q (hs _ _))
def Rl(K:bW):R2:=fun x y H Q=>∃ p xs i v,x = .ref p/\y = .int i/\aM K H p xs/\HW xs i=some v/\Q v H
def Rm(K:bW):R2:=fun x y H Q=>∃ p xs i v,x = .ref p/\y = .int i/\aV K H p xs/\HW xs i=some v/\Q v H
theorem LZ:Qo X (Rl X.K):=by
 intro value slice pq s σ H x y v u Q I rx ry h hs;obtain⟨p,xs,i,z,rfl,rfl,hq,he,q⟩:=h;cases rx;obtain⟨t,rfl⟩:=ry;obtain⟨its,r,pl,hz⟩:=I.list hq;obtain⟨j,h1,h2,h3,h4,h5⟩:=EH he;obtain⟨w,ew,rw'⟩:=r.get h2;have hl:=r.length;have hn:=uH;have fin:EP X pq σ Q w s:=⟨z,H,I,rw',q⟩
 by_cases h0:0<=i
 ·have hj:i.toNat=j:=by
   rw[seqIndex_of h0 h5]at h1;exact Option.some.inj h1
  exact item_listR pl.isList h0 (by lia) (by rw[hj];simpa using ew) fin hs
 ·have hj:(i+(its.toArray.size:Int)).toNat=j:=by
   rw[seqIndex_neg (by lia) h4]at h1
   rw[List.size_toArray,<-hl];exact Option.some.inj h1
  exact subscriptTail_builtinR (x:=w) pl.isList.typeIs slot_list_getitem.lookup
   (wpAny_getItem_list_neg (Q:=fun r s'=>r=w/\EP X pq σ Q r s') pl.isList (by lia) (by rw[List.size_toArray]<;>lia) (by lia) (by rw[hj];simpa using ew) ⟨rfl,fin⟩) hs
theorem Ov:Qo X (Rm X.K):=by
 intro value slice pq s σ H x y v u Q I rx ry h hs;obtain⟨p,xs,i,z,rfl,rfl,hq,he,q⟩:=h;cases rx;obtain⟨t,rfl⟩:=ry;obtain⟨its,r,pl,hz⟩:=I.tuple hq;obtain⟨j,h1,h2,h3,h4,h5⟩:=EH he;obtain⟨w,ew,rw'⟩:=r.get h2;have hl:=r.length;have hn:=uH;have fin:EP X pq σ Q w s:=⟨z,H,I,rw',q⟩;exact subscriptTail_builtinR (x:=w) pl.typeIs slot_tuple_getitem.lookup
  (getItem_tuple (j:=j) (Q:=fun r s'=>r=w/\EP X pq σ Q r s') pl (by lia) (by lia) (by rw[List.size_toArray,<-hl];exact h1) (by simpa using ew) ⟨rfl,fin⟩) hs
theorem CV(its:List Value)(n j:Nat)(u:Value):Obj.mapSeq (·.setIfInBounds j u) { cls:=.type "list",data:=.seq its.toArray n}={ cls:=.type "list",data:=.seq (its.set j u).toArray n}:=by
 simp[Obj.mapSeq]
theorem Inv.lst{pq:aR}{σ:St}{H:Hp}{s:Shared}{p:Addr}{xs:List V}(I:Inv X pq σ H s)(h:H p=some (.lst xs)):
 ∃(its:List Value) (n:Nat),Vals xs its/\s.heap.get? p=some { cls:=.type "list",data:=.seq its.toArray n}/\xs.length<=sizeLine:=by
 obtain⟨z,its,n,r,e⟩:=I.hok p _ h;exact⟨its,n,r,e,z⟩
theorem Inv.Ow{pq:aR}{σ:St}{H:Hp}{s:Shared}{p:Addr}{xs ys:List V}{its its' : List Value}{n n' : Nat}{f:Obj->Obj}(I:Inv X pq σ H s)(h:H p=some (.lst xs))
 (ho:s.heap.get? p=some { cls:=.type "list",data:=.seq its.toArray n}) (hf:f { cls:=.type "list",data:=.seq its.toArray n}={ cls:=.type "list",data:=.seq its'.toArray n'}) (r:Vals ys its') (hz:ys.length<=sizeLine) (t:Nat) :
 Inv X pq σ (upd H p (.lst ys)) { s with heap:=s.heap.update p f,toks:=t}:=by
 have e:(s.heap.update p f).get? p=some { cls:=.type "list",data:=.seq its'.toArray n'}:=by
  rw[Heap.get?_update_self f ho (by rw[hf]<;>rfl),hf]
 refine I.write (x:=p) (e:=p) (by rw[h];trivial) (.inl rfl) (fun b u hb q=>(Heap.get?_update_other _ _ (Ne.symm hb)).trans q) ⟨_,e⟩ ?_
 exact⟨hz,its',n',r,e⟩
def Rn:V->V->V->Hp->(Hp->Prop)->Prop:=fun o i v H Q=>∃ p xs k j,o = .ref p/\i = .int k/\H p=some (.lst xs)/\LY xs.length k=some j/\Q (upd H p (.lst (xs.set j v)))
theorem set_list:Og X Rn:=by
 intro pq s σ H o i v ov iv u Q I ro ri rv h;obtain⟨p,xs,k,j,rfl,rfl,hp,hj,q⟩:=h;cases ro;obtain⟨t,rfl⟩:=ri;obtain⟨its,n,r,ho,hz⟩:=I.lst hp;obtain⟨h1,h2,h3,h4⟩:=EG hj;have hl:=r.length;have hn:=uH;have I' : Inv X pq σ (upd H p (.lst (xs.set j v))) { s with heap:=s.heap.update p (Obj.mapSeq (·.setIfInBounds j u))} :=
  I.Ow hp ho (CV its n j u) (r.set rv j) (by rw[List.length_set];exact hz) s.toks
 by_cases h0:0<=k
 ·have hk:k.toNat=j:=by
   rw[seqIndex_of h0 h4]at h1;exact Option.some.inj h1
  exact PySem.W.ki_setAt ho h0 (by lia) (by rw[List.size_toArray,<-hl];exact h4) (by rw[hk];exact⟨_,I',q⟩)
 ·have hk:(k+(its.toArray.size:Int)).toNat=j:=by
   rw[seqIndex_neg (by lia) h3]at h1
   rw[List.size_toArray,<-hl];exact Option.some.inj h1
  exact PySem.W.ki_setBack ho (by lia) (by rw[List.size_toArray,<-hl];exact h3) (by lia) (by rw[hk];exact⟨_,I',q⟩)
theorem yL(lo hi:Option Int)(n:Nat):(sliceBounds lo hi none n).1=((HT.p8 n 0 lo:Nat):Int)/\(sliceBounds lo hi none n).2.1=((HT.p8 n n hi:Nat):Int)/\(sliceBounds lo hi none n).2.2=1:=by
 refine⟨?_,?_,rfl⟩
 ·cases lo with
  | none=>simp[sliceBounds,HT.p8]
  | some i =>
    simp only[sliceBounds,HT.p8,Option.getD_none,show(1:Int) > 0 by decide,if_true]
    by_cases h:i<0
    ·simp only[h,if_true]<;>lia
    ·simp only[h,if_false]<;>lia
 ·cases hi with
  | none=>simp[sliceBounds,HT.p8]
  | some i =>
    simp only[sliceBounds,HT.p8,Option.getD_none,show(1:Int) > 0 by decide,if_true]
    by_cases h:i<0
    ·simp only[h,if_true]<;>lia
    ·simp only[h,if_false]<;>lia
theorem wJ(its:List Value)(lo hi:Option Int):slicePick its.toArray lo hi none=((its.drop (HT.p8 its.length 0 lo)).take (HT.p8 its.length its.length hi-HT.p8 its.length 0 lo)).toArray:=by
 obtain⟨h1,h2,h3⟩:=yL lo hi its.toArray.size;unfold slicePick;rw[h1,h2,h3];simp only[sliceRange_one,pick_run,List.size_toArray]<;>rfl
def Ro(K:bW):V->Option Int->Option Int->Hp->VK->Prop:=fun x lo hi H Q=>∃ a xs,x = .ref a/\aM K H a xs/\∀ p,H p=none->Q (.ref p) (upd H p (.lst (uJ xs lo hi)))
theorem L0:U0 X (Ro X.K):=by
 intro pq s σ H x v vl vu lo hi sl Q I rx hs pl pu h;obtain⟨a,xs,rfl,hx,q⟩:=h;cases rx;obtain⟨its,r,ht,hz⟩:=I.list hx;have hlen:=r.length;refine⟨"list",_,slot_list_getitem.lookup,ht.isList.typeIs,?_⟩;refine wpAny_getItem_list_slice ht.isList hs pl pu .none (by simp) ?_ (by rw[List.size_toArray]<;>lia)
 rw[wJ,<-hlen];refine⟨.ref s.heap.objs.size,_,I.laid (t':=s.toks) (o:=.lst (uJ xs lo hi)) (fun b ob q=>Heap.get?_push_of_some _ q) (Nat.le_refl _) ?_,rfl,q _ (I.hok.fresh (Nat.le_refl _))⟩
 exact⟨Nat.le_trans (Ay xs lo hi) hz,_,0,(r.drop (HT.p8 xs.length 0 lo)).take (HT.p8 xs.length xs.length hi-HT.p8 xs.length 0 lo),Heap.get?_push_size _ rfl⟩
def p9:V->Bool
 | .fD=>true
 | .bl _=>true
 | .int _=>true
 | .str _=>true
 | _=>false
def L1:V->V->Bool
 | .fD,.fD=>true
 | .bl a,.bl b=>a==b
 | .bl a,.int b=>(if a then 1 else 0)==b
 | .int a,.bl b=>a==(if b then 1 else 0)
 | .int a,.int b=>a==b
 | .str a,.str b=>a==b
 | _,_=>false
theorem Ox{A:Around}{s:Shared}{y x:V}{u v:Value}(ry:RelV y u)(rx:RelV x v)(fy:p9 y=true)(fx:p9 x=true):SeqAt.EqAt A s u v (L1 y x):=by
 cases y with
 | fD =>
   cases ry;cases x with
   | fD=>cases rx;exact SeqAt.EqAt.same _
   | bl b=>cases rx;exact SeqAt.EqAt.none_bool b
   | int b=>obtain⟨t,rfl⟩:=rx;exact SeqAt.EqAt.none_int b t
   | str b=>obtain⟨t,rfl⟩:=rx;exact SeqAt.EqAt.none_str b t
   | _=>exact absurd (show false=true from fx) Bool.false_ne_true
 | bl a =>
   cases ry;cases x with
   | fD=>cases rx;exact SeqAt.EqAt.bool_none a
   | bl b=>cases rx;exact SeqAt.EqAt.bool_bool a b
   | int b=>obtain⟨t,rfl⟩:=rx;exact SeqAt.EqAt.bool_int a b t
   | str b=>obtain⟨t,rfl⟩:=rx;exact SeqAt.EqAt.bool_str a b t
   | _=>exact absurd (show false=true from fx) Bool.false_ne_true
 | int a =>
   obtain⟨t',rfl⟩:=ry;cases x with
   | fD=>cases rx;exact SeqAt.EqAt.int_none a t'
   | bl b=>cases rx;exact SeqAt.EqAt.int_bool a t' b
   | int b=>obtain⟨t,rfl⟩:=rx;exact SeqAt.EqAt.int_int a t' b t
   | str b=>obtain⟨t,rfl⟩:=rx;exact SeqAt.EqAt.int_str a t' b t
   | _=>exact absurd (show false=true from fx) Bool.false_ne_true
 | str a =>
   obtain⟨t',rfl⟩:=ry;cases x with
   | fD=>cases rx;exact SeqAt.EqAt.str_none a t'
   | bl b=>cases rx;exact SeqAt.EqAt.str_bool a t' b
   | int b=>obtain⟨t,rfl⟩:=rx;exact SeqAt.EqAt.str_int a t' b t
   | str b=>obtain⟨t,rfl⟩:=rx;exact SeqAt.EqAt.str_str a t' b t
   | _=>exact absurd (show false=true from fx) Bool.false_ne_true
 | _=>exact absurd (show false=true from fy) Bool.false_ne_true
def CW(x:V)(u:Value):Bool:=match u with
 | .none=>L1 .fD x
 | .bool b=>L1 (.bl b) x
 | .int i _=>L1 (.int i) x
 | .str z _=>L1 (.str z) x
 | _=>false
theorem IB{x y:V}{u:Value}(r:RelV y u)(f:p9 y=true):CW x u=L1 y x:=by
 cases y with
 | fD=>cases r;rfl
 | bl b=>cases r;rfl
 | int i=>obtain⟨t,rfl⟩:=r;rfl
 | str z=>obtain⟨t,rfl⟩:=r;rfl
 | _=>exact absurd (show false=true from f) Bool.false_ne_true
theorem qa{x:V}:∀{xs:List V} {us:List Value},Vals xs us->xs.all p9=true->us.any (CW x)=xs.any fun y=>L1 y x
 | _,_,.nil,_=>rfl
 | y::xs,u::us,.cons r t,f=>by
   rw[List.all_cons,Bool.and_eq_true]at f;rw[List.any_cons,List.any_cons,IB r f.1,qa t f.2]
theorem m6{A:Around}{s:Shared}{x:V}{v:Value}(rx:RelV x v)(fx:p9 x=true):∀{xs:List V} {us:List Value},Vals xs us->xs.all p9=true->∀ u∈us,SeqAt.EqAt A s u v (CW x u)
 | _,_,.nil,_=>fun u hu=>by cases hu
 | y::xs,u::us,.cons r t,f=>fun u' hu=>by
   rw[List.all_cons,Bool.and_eq_true]at f;rcases List.mem_cons.mp hu with rfl|hu
   ·rw[IB r f.1];exact Ox r rx f.1 fx
   ·exact m6 rx fx t f.2 u' hu
def Lq(x:V)(xs:List V):Bool:=xs.any fun y=>L1 y x
def TN(K:bW)(neg:Bool):R2:=fun x y H Q=>∃ p xs,y = .ref p/\(aM K H p xs\/aV K H p xs)/\p9 x=true/\xs.all p9=true/\Q (.bl (if neg then !Lq x xs else Lq x xs)) H
theorem FU:mU X (compareOp .In) (TN X.K false):=by
 intro pq s σ H x y v u Q I rx ry h;obtain⟨p,xs,rfl,hq,fx,fs,q⟩:=h;cases ry;rcases hq with hq|hq
 ·obtain⟨its,r,pl,hz⟩:=I.list hq;refine SeqAt.in_listAt (CW x) pl.isList (fun w hw=>m6 rx fx r fs w (by simpa using hw)) ⟨.bl _,H,I,rfl,?_⟩
  rw[show its.toArray.any (CW x)=its.any (CW x) by simp,qa r fs]
  exact q
 ·obtain⟨its,r,pl,hz⟩:=I.tuple hq;refine SeqAt.in_tupleAt (CW x) pl (fun w hw=>m6 rx fx r fs w (by simpa using hw)) ⟨.bl _,H,I,rfl,?_⟩
  rw[show its.toArray.any (CW x)=its.any (CW x) by simp,qa r fs]
  exact q
theorem yM:mU X (compareOp .NotIn) (TN X.K true):=by
 intro pq s σ H x y v u Q I rx ry h;obtain⟨p,xs,rfl,hq,fx,fs,q⟩:=h;cases ry;rcases hq with hq|hq
 ·obtain⟨its,r,pl,hz⟩:=I.list hq;refine SeqAt.notIn_listAt (CW x) pl.isList (fun w hw=>m6 rx fx r fs w (by simpa using hw)) ⟨.bl _,H,I,rfl,?_⟩
  rw[show its.toArray.any (CW x)=its.any (CW x) by simp,qa r fs]
  exact q
 ·obtain⟨its,r,pl,hz⟩:=I.tuple hq;refine SeqAt.notIn_tupleAt (CW x) pl (fun w hw=>m6 rx fx r fs w (by simpa using hw)) ⟨.bl _,H,I,rfl,?_⟩
  rw[show its.toArray.any (CW x)=its.any (CW x) by simp,qa r fs]
  exact q
theorem yN:gE X (.builtin "len") (fun xs H Q=>∃ p ys,xs=[.ref p]/\(aM X.K H p ys\/aV X.K H p ys)/\Q (.int ys.length) H):=by
 intro pq s σ H xs us Q I r h;obtain⟨p,ys,rfl,hq,q⟩:=h;obtain⟨u,rfl,rx⟩:=vals1 r;cases rx;have hn:=uH;rcases hq with hq|hq
 ·obtain⟨its,r',pl,hz⟩:=I.list hq;have hlen:=r'.length;exact Calls.call_len_list pl.isList (by simp only[List.size_toArray]<;>lia) ⟨.int ys.length,H,I.tok _,⟨s.toks+1,by rw[List.size_toArray,hlen]⟩,q⟩
 ·obtain⟨its,r',pl,hz⟩:=I.tuple hq;have hlen:=r'.length;exact len_tuple pl (by simp only[List.size_toArray]<;>lia) ⟨.int ys.length,H,I.tok _,⟨s.toks+1,by rw[List.size_toArray,hlen]⟩,q⟩
theorem wK:gE X (.type "tuple") (fun xs H Q=>∃ p ys,xs=[.ref p]/\((aM X.K H p ys/\∀ l,H l=none->Q (.ref l) (upd H l (.tup ys)))\/(aV X.K H p ys/\Q (.ref p) H))):=by
 intro pq s σ H xs us Q I r h;obtain⟨p,ys,rfl,h⟩:=h;obtain⟨u,rfl,rx⟩:=vals1 r;cases rx;rcases h with⟨hq,q⟩|⟨hq,q⟩
 ·obtain⟨its,r',pl,hz⟩:=I.list hq;have hlen:=r'.length;refine call_tuple_list pl.isList (fun h' kp=>?_) (by simp only[List.size_toArray]<;>lia)
  have I1:Inv X pq σ H { s with heap:=h'}:=I.kept (t':=s.toks) kp
  have I2:Inv X pq σ (upd H h'.objs.size (.tup ys)) { s with heap:=h'.push { cls:=.type "tuple",data:=.seq its.toArray}} :=
   I1.laid (t':=s.toks) (fun b o e=>Heap.get?_push_of_some _ e) (Nat.le_refl _) (show bJ X.prog X.w _ _ _ (.tup ys) from⟨hz,its,r',IsTup.new _ _⟩)
  exact⟨.ref h'.objs.size,_,I2,rfl,q _ (I1.hok.fresh (Nat.le_refl _))⟩
 ·obtain⟨its,r',pl,hz⟩:=I.tuple hq;exact call_tuple_same pl ⟨.ref p,H,I,rfl,q⟩
def U3(K:bW)(T:String)(x:V)(H:Hp):Prop:=match x with
 | .str _=>T="str"
 | .int _=>T="int"
 | .ref p=>(T="list"/\∃ xs,aM K H p xs)\/(T="tuple"/\∃ o,K.lookup p=some o/\o.cls = .type "tuple"/\o.dict=none)\/
  (T="dict"/\((∃ kvs,H p=some (.dK kvs))\/∃ kvs,H p=some (.dT kvs)))\/(T="set"/\∃ S n,H p=some (.set S n))
 | _=>False
theorem IC{pq:aR}{σ:St}{H:Hp}{s:Shared}{T:String}{x:V}{v:Value}(I:Inv X pq σ H s)(r:RelV x v)(ty:U3 X.K T x H):
 s.TypeIs v T/\∀ a,v = .ref a->∃ ob,s.heap.get? a=some ob/\ob.dict=none:=by
 cases x with
 | str z =>
   obtain⟨t,rfl⟩:=r;cases(show T="str" from ty)
   exact⟨typeIs_str s z t,fun _ e=>nomatch e⟩
 | int i =>
   obtain⟨t,rfl⟩:=r;cases(show T="int" from ty)
   exact⟨typeIs_int s i t,fun _ e=>nomatch e⟩
 | ref p =>
   cases r;rcases ty with⟨rfl,xs,hq⟩|⟨rfl,o,hk,hc,hd⟩|⟨rfl,hk⟩|⟨rfl,S,n,hk⟩
   ·obtain⟨its,_,pl,_⟩:=I.list hq;refine⟨pl.isList.typeIs,fun a e=>?_⟩
    cases e;obtain⟨o,n,e,c,hd,_⟩:=pl;exact⟨o,e,hd⟩
   ·refine⟨⟨o,I.Ob p o hk,hc⟩,fun a e=>?_⟩
    cases e;exact⟨o,I.Ob _ o hk,hd⟩
   ·have z:∃ o,s.heap.get? p=some o/\o.ExactDict:=by
     rcases hk with⟨kvs,hk⟩|⟨kvs,hk⟩
     ·obtain⟨_,_,_,_,o,_,_,e,ex,_⟩:=I.hok p _ hk;exact⟨o,e,ex⟩
     ·obtain⟨_,_,_,_,o,_,_,e,ex,_⟩:=I.hok p _ hk;exact⟨o,e,ex⟩
    obtain⟨o,e,ex⟩:=z;refine⟨⟨o,e,ex.1⟩,fun a e2=>?_⟩
    cases e2;exact⟨o,e,ex.2.1⟩
   ·obtain⟨o,_,_,_,e,ex,_⟩:=I.hok p _ hk;refine⟨⟨o,e,ex.1⟩,fun a e2=>?_⟩
    cases e2;exact⟨o,e,ex.2.1⟩
 | _=>exact False.elim ty
def U4(K:bW)(T:String)(r:V->List V->Hp->VK->Prop)(to:TE):TE:=fun σ H Q=>to σ H fun x H1=>U3 K T x H1/\r x [] H1 Q
def U5(K:bW)(T:String)(r:V->List V->Hp->VK->Prop)(to:TE)(t:TA):TE:=fun σ H Q=>to σ H fun x H1=>U3 K T x H1/\t σ H1 fun xs H2=>r x xs H2 Q
variable {o e:Expr}{es:List Expr}{to:TE}{t:TA}{name:Str}{apos cpos:Pos}{T id:String}{r:V->List V->Hp->VK->Prop}
theorem ID(pa:PlainAttrs T)(slot:Slot T name id)(hty:typeOf (.builtin id)=pure (.type "method_descriptor"))(hm:U1 X id r)(ho:PE X o to)
 (hbase:attributeBase o name X.env (eval o X.env)=eval o X.env:=by rfl) (hline:(apos.endLine==cpos.line)=true:=by rfl):PE X (.Call (.Attribute o name apos) [] [] cpos) (U4 X.K T r to):=by
 intro pq s σ H Q I h;refine wpAny_Call_method0_late hbase hline (dH (ho pq s σ H _ I h) fun v s1 ⟨x,H1,I1,r1,ty,q1⟩=>?_)
 obtain⟨h1,h2⟩:=IC I1 r1 ty;exact⟨T,id,pa,slot,hty,h1,h2,Calls.callWith_builtin rfl (PySem.evalArgs_none (hm pq s1 σ H1 x [] v [] Q I1 r1 .nil q1))⟩
theorem m7(pa:PlainAttrs T)(slot:Slot T name id)(hty:typeOf (.builtin id)=pure (.type "method_descriptor"))(hm:U1 X id r)(ho:PE X o to)(ha:PA X (e::es) t)
 (hbase:attributeBase o name X.env (eval o X.env)=eval o X.env:=by rfl)
 (hfew:((backTo cpos (starEach (e::es) X.env)).all (fun x=>!x.1)&&(backToKw cpos (keywordEach [] X.env)).all (fun x=>x.1.isSome)
  && decide ((e::es).length+([]:List Keyword).length+(if([]:List Keyword).isEmpty then 0 else 1)<30))=true:=by rfl)
 (hline:(apos.endLine==cpos.line)=true:=by rfl) (hs:starEach (e::es) X.env=(false,eval e X.env)::starEach es X.env:=by rfl) (hplain:(backTo cpos (starEach es X.env)).any (·.1)=false:=by rfl) :
 PE X (.Call (.Attribute o name apos) (e::es) [] cpos) (U5 X.K T r to t):=by
 intro pq s σ H Q I h;refine wpAny_Call_method_late hbase hfew hline rfl (dH (ho pq s σ H _ I h) fun v s1 ⟨x,H1,I1,r1,ty,q1⟩=>?_)
 obtain⟨h1,h2⟩:=IC I1 r1 ty;refine⟨T,id,pa,slot,hty,h1,h2,?_⟩;have hA:=ha cpos pq s1 σ H1 _ I1 q1;rw[hs]at hA ⊢;refine Calls.callWith_builtin (by show(false || (backTo cpos (starEach es X.env)).any (·.1))=false;rw[hplain]<;>rfl) (Calls.evalArgs_plain ?_)
 exact dH hA fun us s2 ⟨vs,H2,I2,r2,q2⟩=>hm pq s2 σ H2 x vs v us Q I2 r1 r2 q2
end
def WM(X:Cx)(id:String)(r:V->List V->Hp->VK->Prop):Prop :=
 ∀(pq:aR) (s:Shared) (σ:St) (H:Hp) (x:V) (xs:List V) (v:Value) (us:List Value) (Q:VK),Inv X pq σ H s->RelV x v->Vals xs us->r x xs H Q->
  wpAny (model X.prog X.w) X.A (call (.builtin id) (v::us)) (EP X pq σ Q) X.xe s
theorem Vals.one:∀{x:V} {us:List Value},Vals [x] us->∃ u,us=[u]/\RelV x u
 | _,_,.cons r .nil=>⟨_,rfl,r⟩
theorem Vals.rep{xs:List V}{us:List Value}(h:Vals xs us):∀ k:Nat,Vals (List.replicate k xs).flatten (List.replicate k us).flatten
 | 0=>.nil
 | k+1=>by
   rw[List.replicate_succ,List.replicate_succ,List.flatten_cons,List.flatten_cons];exact Vals.append h (Vals.rep h k)
theorem foldl_rep(its:List Value):∀(k:Nat) (acc:List Value),
 List.foldl (fun x1 x2=>x1++x2) acc.toArray (List.replicate k its.toArray)=(acc++(List.replicate k its).flatten).toArray
 | 0,acc=>by simp
 | k+1,acc=>by
   have e:acc.toArray++its.toArray=(acc++its).toArray:=by simp
   have e2:(acc++its)++(List.replicate k its).flatten=acc++(List.replicate (k+1) its).flatten:=by
    rw[List.replicate_succ,List.flatten_cons,List.append_assoc]
   rw[<-e2,<-foldl_rep its k (acc++its),<-e,List.replicate_succ,List.foldl_cons]
section
variable {X:Cx}{pq:aR}{σ:St}{H:Hp}{s:Shared}{l b:Addr}{xs ys zs:List V}
theorem Inv.Rp{its its' : List Value}{n:Nat}{f:Array Value->Array Value}{t' : Nat}(I:Inv X pq σ H s)(hH:H l=some (.lst xs))
 (e:s.heap.get? l=some { cls:=.type "list",data:=.seq its.toArray n}) (hf:f its.toArray=its'.toArray) (hv:Vals ys its') (hz:ys.length<=sizeLine) :
 Inv X pq σ (upd H l (.lst ys)) { s with heap:=s.heap.update l (Obj.mapSeq f),toks:=t'}:=by
 have q:=PySem.IsL.update e f;rw[hf]at q;refine I.write (x:=l) (e:=l) (by rw[hH];exact trivial) (.inl rfl) (fun b' u hb hu=>(Heap.get?_update_other s.heap (Obj.mapSeq f) (Ne.symm hb)).trans hu) ⟨_,q⟩ ?_
 exact⟨hz,its',_,hv,q⟩
theorem Inv.Rq{its:List Value}{t' : Nat}(I:Inv X pq σ H s)(hv:Vals ys its)(hz:ys.length<=sizeLine):
 Inv X pq σ (upd H s.heap.objs.size (.lst ys)) { s with heap:=s.heap.push { cls:=.type "list",data:=.seq its.toArray},toks:=t'} :=
 I.laid (fun _ _ q=>Heap.get?_push_of_some _ q) (Nat.le_refl _) ⟨hz,its,0,hv,Heap.get?_push_size _ rfl⟩
theorem Inv.fresh(I:Inv X pq σ H s):H s.heap.objs.size=none:=I.hok.fresh (Nat.le_refl _)
theorem Inv.L3(I:Inv X pq σ H s)(hH:H l=some (.lst xs)):xs.length<=sizeLine/\∃(its:List Value) (n:Nat),Vals xs its/\xs.length=its.length/\s.heap.get? l=some { cls:=.type "list",data:=.seq its.toArray n}:=by
 obtain⟨z,its,n,r,e⟩:=I.hok l _ hH;exact⟨z,its,n,r,r.length,e⟩
theorem Az{n:Nat}(h:n<=sizeLine):Builtin.List.listTooLong n=false:=by
 unfold Builtin.List.listTooLong;exact c7 (by lia)
end
section
variable {X:Cx}
def L4:V->List V->Hp->VK->Prop:=fun x vs H Q=>∃ l xs y,x = .ref l/\vs=[y]/\H l=some (.lst xs)/\xs.length<sizeLine/\Q .fD (upd H l (.lst (xs++[y])))
theorem dc:WM X "list.append" L4:=by
 intro pq s σ H x vs v us Q I rx rv h;obtain⟨l,xs,y,rfl,rfl,hH,hz,q⟩:=h;cases rx;obtain⟨u,rfl,ru⟩:=rv.one;obtain⟨z,its,n,r,hl,e⟩:=I.L3 hH;refine call_meets F.slot_list_append ⟨_,e,rfl⟩ F.entry_list_append (F.args_list_append_2 _ _) (PySem.list_append l its.toArray n u (by rw[List.size_toArray];lia)) ⟨e,?_⟩
 refine⟨.fD,_,I.Rp (its':=its++[u]) hH e (by simp) (r.append (.cons ru .nil)) ?_,rfl,q⟩
 rw[List.length_append,List.length_singleton]
 lia
def L5:V->List V->Hp->VK->Prop:=fun x vs H Q=>∃ l b xs zs,x = .ref l/\vs=[.ref b]/\H l=some (.lst xs)/\H b=some (.lst zs)/\xs.length+zs.length<=sizeLine/\Q .fD (upd H l (.lst (xs++zs)))
theorem FW:WM X "list.extend" L5:=by
 intro pq s σ H x vs v us Q I rx rv h;obtain⟨l,b,xs,zs,rfl,rfl,hH,hB,hz,q⟩:=h;cases rx;obtain⟨u,rfl,ru⟩:=rv.one;cases ru;obtain⟨z,its,n,r,hl,e⟩:=I.L3 hH;obtain⟨z2,its2,n2,r2,hl2,e2⟩:=I.L3 hB;have hsz:its.toArray.size+its2.toArray.size<=sizeLine:=by rw[List.size_toArray,List.size_toArray];lia
 have IE : ¬(!its.toArray.isEmpty&&Builtin.List.listTooLong (its.toArray.size+its2.toArray.size))=true:=by
  rw[Az hsz,Bool.and_false];exact Bool.false_ne_true
 refine call_meets F.slot_list_extend ⟨_,e,rfl⟩ F.entry_list_extend (F.args_list_extend_2 _ _)
  (AutoSeq1.list_extend_list_list_0 l its.toArray n b its2.toArray n2 IE (by rw[List.size_toArray];lia) (by lia)) ⟨e,e2,?_⟩
 refine⟨.fD,_,I.Rp (its':=its++its2) hH e (by simp) (r.append r2) ?_,rfl,q⟩
 rw[List.length_append]
 lia
def U6:R2:=fun x y H Q=>∃ l k xs,x = .ref l/\y = .int k/\H l=some (.lst xs)/\-(2^63)<=k/\k<2^63/\xs.length*k.toNat<=sizeLine/\
 ∀ p,H p=none->Q (.ref p) (upd H p (.lst (List.replicate k.toNat xs).flatten))
theorem len_rep{α:Type}(xs:List α)(k:Nat):(List.replicate k xs).flatten.length=k*xs.length:=by
 induction k with
 | zero=>simp
 | succ k ih=>rw[List.replicate_succ,List.flatten_cons,List.length_append,ih,Nat.succ_mul,Nat.add_comm]
theorem CY:mU X (binaryOp .Mult) U6:=by
 intro pq s σ H x y v u Q I rx ry h;obtain⟨l,k,xs,rfl,rfl,hH,h1,h2,hz,q⟩:=h;cases rx;obtain⟨t,rfl⟩:=ry;obtain⟨z,its,n,r,hl,e⟩:=I.L3 hH;have hlen:its.toArray.size*k.toNat<=sizeLine:=by rw[List.size_toArray,<-hl];exact hz
 have U7 : ¬ its.toArray.size*k.toNat > (2^63-1)/8:=by
  have:(sizeLine:Nat)<=(2^63-1)/8:=by decide
  lia
 have hfit : ¬(!Builtin.List.listFitsIndex k)=true:=by
  rw[fitsIndex_both h1 h2];exact Bool.false_ne_true
 have IE : ¬ Builtin.List.listTooLong (its.toArray.size*k.toNat)=true:=by
  rw[Az hlen];exact Bool.false_ne_true
 have hnew:List.foldl (fun x1 x2=>x1++x2) #[] (List.replicate (if its.toArray.isEmpty=true then 0 else k.toNat) its.toArray)=(List.replicate k.toNat its).flatten.toArray:=by
  have f0:∀ m:Nat,List.foldl (fun x1 x2=>x1++x2) #[] (List.replicate m its.toArray)=(List.replicate m its).flatten.toArray:=fun m=>by
   have:=foldl_rep its m [];rw[List.nil_append]at this;exact this
  rw[f0];cases its with
  | nil=>simp
  | cons a r'=>rw[if_neg (by simp)]
 refine wpAny_binaryOp_repeat_ref (T:="list") (U:="int") (by decide) ⟨_,e,rfl⟩ (fun s'=>typeIs_int s' k t) noFill_list_mul F.fills_int_mul F.slot_int_rmul repeat_list F.slot_int_index.lookup
  (call_meets F.slot_int_rmul (typeIs_int s k t) F.entry_int_rmul (F.args_int_rmul_2 _ _) (int___rmul___int_list k t l its.toArray n)
   ⟨e,rfl,⟨_,e,rfl⟩,call_meets F.slot_list_mul ⟨_,e,rfl⟩ F.entry_list_mul (F.args_list_mul_2 _ _) (AutoListH.list___mul___list_int_3 l its.toArray n k t hfit U7 IE) ⟨e,?_⟩⟩)
 rw[hnew];exact⟨.ref _,_,I.Rq (t':=s.toks) (r.rep k.toNat) (by rw[len_rep,Nat.mul_comm];exact hz),rfl,q _ I.fresh⟩
end
end L2
namespace Att
open PySem PySem.W PySem.Calls PyProof.Rows
theorem tJ{P:Params}{h:Heap}:∀(ns:List Int) (vs:List Value),WellAll P h vs (ns.map WData.int)->IntsAre vs ns:=by
 intro ns
 induction ns with
 | nil =>
   intro vs w;rw[List.map_nil]at w;cases w;exact .nil
 | cons n ns ih =>
   intro vs w;rw[List.map_cons]at w;cases w with
   | cons a b =>
     cases a;exact .cons _ _ (ih _ b)
theorem FY{l:OpenLaw}{n:Nat}(hn:l.most=some n){P:Params}{h:Heap}{args:List WData}{vals:List Value}
 (hpre:l.row.toRowW.claim.pre args=true) (U8:WellAll P h vals args) :
 ∃ a vs ns,vals=[Value.ref a]/\args=[WData.list (ns.map WData.int)]/\h.get? a=some { cls:=.type "list",data:=.seq vs.toArray}/\IntsAre vs ns/\ns.length<=n:=by
 have hsh:WShape.hasAll [] args [.list .int]=true:=(pre_splitW hpre).1;have hc:l.pre.holds [] { args:=args}=true:=(pre_splitW hpre).2;obtain⟨d,r,rfl,h1,h2⟩:=hasAllW_cons hsh;obtain rfl:=hasAllW_nil h2;obtain⟨xs,rfl,h3⟩:=hasW_list h1;obtain⟨ns,rfl⟩:=items_int h3;have hlen:ns.length<=n:=by
  unfold OpenLaw.pre at hc;have h4:(WTm.not (.lt (.lit (.int (n:Int))) (.len (.arg 0)))).holds [] { args:=[.list (ns.map .int)]}=true:=by
   have h4:=(holds_andW hc).1;rw[hn]at h4;exact h4
  have h5:=condW_of h4 (w_not (w_lt w_lit (w_len_list (w_arg rfl))));rw[List.length_map]at h5;refine Nat.le_of_not_lt fun q=>?_
  have q' : (n:Int)<((ns.length:Nat):Int):=by lia
  first
   | (rw[cD q']at h5;exact absurd h5 (by decide))
   | (simp at h5;lia)
 cases U8 with
 | cons w1 w2 =>
   cases w2;cases w1 with
   | list ho hall=>exact⟨_,_,ns,rfl,rfl,ho,tJ ns _ hall,hlen⟩
theorem FZ(l:OpenLaw)(args:List WData):l.row.toRowW.claim.post args (.bool true) args=true :=
 postW_of (r:=l.row.toRowW) (X:=(true==true))
  (show WShape.has [] (.bool true) .bool=true by first | rfl | decide | simp[WShape.has,WShape.arms,WShape.armsAll])
  (show(WTm.eq .res (.lit (.bool true))).value [] { args:=args,res:=some (.bool true),after:=args}=some (.bool (true==true)) from w_eq_bool (w_res rfl) w_lit) rfl
theorem AA{l:OpenLaw}{n:Nat}{q:Program}{loose:List Str}{XP:(Str->Option Value)->Heap->Prop}{YP:World->Heap->Prop}{d:DefRec}
 (hn:l.most=some n) (Rr:d.params.defaults=[])
 (call:∀(w:World) (s₀ s₁:Shared) (mg mb:oQ) (fa:Addr) (o:Obj) (pm cd doc:Value) (a:Addr) (vs:List Value) (ns:List Int),
  Ground q loose [] XP w s₀ mg mb s₁.heap->YP w s₁.heap->
  s₁.heap.get? fa=some o->o.data = .func (docDef d.name d.params d.body d.scope pm cd doc)->s₁.heap.CodeRec cd d.name->mg d.name=some (.ref fa)->
  s₁.heap.get? a=some { cls:=.type "list",data:=.seq vs.toArray}->IntsAre vs ns->ns.length<=n->s₁.gens = #[]->
  codeAny (model l.prog w) callerA (.call (.ref fa) ⟨[.ref a],[]⟩) (fun r s'=>r = .ok (.ret (.bool true))/\OldK s₁.heap s'.heap/\s'.os=s₁.os/\AllBare s'.gens) s₁) :
 WalkO q loose XP YP l.row.toRowW d [] (fun f vs=>PySem.call f vs):=by
 intro w s₀ s₁ mg mb G Y fa o pm cd doc dV kV ho hd hcd hD hmg hg args vals as hpre hlay hrd U8 hlo;obtain rfl:dV = .none:=Dflts.none hD Rr;obtain rfl:kV = .none:=Dflts.noKw hD;obtain⟨a,vs,ns,rfl,rfl,hobj,hints,hlen⟩:=FY hn hpre U8;refine enter_call (codeAny_mono (call w s₀ s₁ mg mb fa o pm cd doc a vs ns G Y ho (fd_plain hd) hcd hmg hobj hints hlen hg) fun r s' hq=>?_)
 obtain⟨rfl,h2,h3,h4⟩:=hq;exact⟨.inl ⟨.bool true,.bool true,[],rfl,fun _=>rfl,.bool true,FZ l _,fun _=>⟨List.Pairwise.nil,fun _ hm=>(nomatch hm)⟩⟩,h2,h3,h4⟩
end Att
namespace L2
open PySem PySem.Spec PyProof.Rows
theorem xT:∀{vs:List Value} {ns:List Int},IntsAre vs ns->Vals (ns.map V.int) vs
 | _,_,.nil=>.nil
 | _,_,.cons n t h=>.cons ⟨t,rfl⟩ (xT h)
end L2
namespace L2
open PySem PySem.Spec PyProof.Rows
def eM(s:Stmt):Arguments:=match s with
 | .FunctionDef _ a _ _ _ _ _ _ _ _=>a
 | _=>{ posonlyargs:=[],args:=[],vararg:=none,kwonlyargs:=[],kw_defaults:=[],kwarg:=none,defaults:=[]}
def b9(s:Stmt):List Stmt:=match s with
 | .FunctionDef _ _ b _ _ _ _ _ _ _=>b
 | _=>[]
def ai(s:Stmt):Scope:=match s with
 | .FunctionDef _ _ _ _ _ _ sc _ _ _=>sc
 | _=>{ kind:=.function,names:=[],isGenerator:=false,isCoroutine:=false}
abbrev EJ:HV:=fun _ _ _ _ _ _=>False
abbrev E0:XK:=fun _ _ _=>False
theorem aJ{X:Cx}:Passes EJ X E0:=fun _ _ _ _ _ _ _ h=>h.elim
structure L6(K:bW)(x qual:Str)(st:Stmt)(f:Addr)(fd:FuncData):Prop where
 ex:∃(oc:Value) (od:Option Addr) (kV doc pm:Value) (an:Option Addr) (cdv ct:Value) (osl:Array (Option Value)),
  fd=PySem.W.fnOf x qual (eM st) (b9 st) (ai st) .none kV doc pm an cdv ct/\K.lookup f=some ⟨oc,od,.func fd,osl⟩/\PySem.W.codeIn K cdv qual=true
 kp:PySem.W.keepIn K (.ref f)=true
section
variable {P:Program}{w:World}{K:bW}{mg:oQ}{base:Heap}
theorem L6.ok{x qual:Str}{st:Stmt}{f:Addr}{fd:FuncData}{N ps:List Str}{k:Nat}{sp:Sp}(F:L6 K x qual st f fd)(S:aD N ps (ai st))(len:∀ vs H Q E,sp vs H Q E->vs.length=ps.length)
 (hbody:∀(cdv:Value) (A:Around) (outer:List Env) (s:Shared) (H:Hp) (vs:List V) (Q:VK) (E:XK),fH k (A.deeper (envOfC qual (ai st) s.heap.objs.size f cdv))->sp vs H Q E->
  ∃ t,xJ (tI EJ P w K mg base N qual (ai st) f cdv A outer s H E).Cy (b9 st) t/\t { nx:=fun _ H'=>Q .fD H',rt:=Q} (start N vs) H):m5 P w K mg base EJ (k+1) f fd ps sp:=by
 obtain⟨oc,od,kV,doc,pm,an,cdv,ct,osl,rfl,lk,hcd⟩:=F.ex;refine Iv lk hcd S len fun A outer s H vs Q E hr qO=>?_
 obtain⟨t,h,q⟩:=hbody cdv A outer s H vs Q E hr qO;exact⟨t,h.Cy,q⟩
theorem L6.binds{x qual:Str}{st:Stmt}{f:Addr}{fd:FuncData}{ps:List Str}(F:L6 K x qual st f fd)
 (h:∀(kV doc pm:Value) (an:Option Addr) (cdv ct:Value) (us:List Value),us.length=ps.length->bindArgs (PySem.W.fnOf x qual (eM st) (b9 st) (ai st) .none kV doc pm an cdv ct) ⟨us,[]⟩=pure (ps.zip us)):Binds K fd ps []:=by
 obtain⟨oc,od,kV,doc,pm,an,cdv,ct,osl,rfl,lk,hcd⟩:=F.ex;exact .all (h kV doc pm an cdv ct)
theorem Oz{x qual:Str}{st:Stmt}{f:Addr}{oc:Value}{od an:Option Addr}{osl:Array (Option Value)}{kV doc pm cdv ct:Value}(l:K.lookup f=some ⟨oc,od,.func (PySem.W.fnOf x qual (eM st) (b9 st) (ai st) .none kV doc pm an cdv ct),osl⟩)
 (c:PySem.W.codeIn K cdv qual=true) (k:PySem.W.keepIn K (.ref f)=true):L6 K x qual st f (PySem.W.fnOf x qual (eM st) (b9 st) (ai st) .none kV doc pm an cdv ct):=⟨⟨oc,od,kV,doc,pm,an,cdv,ct,osl,rfl,l,c⟩,k⟩
end
theorem AB{A:Around}{k:Nat}(hr:fH k A):A.units+1<cLine:=Nat.lt_of_le_of_lt (Nat.add_le_add_left (by decide:1<=64) _) hr.units
theorem jj{n:Nat}(h:n<=1000):n<sizeLine:=Nat.lt_of_le_of_lt h (by decide)
section
variable {X:Cx}
theorem pv(i:Nat){x:Str}{pos:Pos}(hN:X.N[i]?=some x:=by rfl)(hv:Tz X.env.scope x:=by first | exact Or.inl rfl | exact Or.inr (Or.inl rfl) | exact Or.inr (Or.inr rfl))(hd:(x==("__debug__":Str))=false:=by decide)
 (hcd:(x==("__classdict__":Str))=false:=by decide):PE X (.Name x pos) (QU i):=Od hN hv hd hcd
end
theorem cE{A B:Prop}(h:B):if false=true then A else B:=by
 rw[if_neg Bool.false_ne_true];exact h
theorem eF{A B:Prop}(h:A):if true=true then A else B:=by
 rw[if_pos rfl];exact h
theorem lE{c A B:Prop}[Decidable c](h1:c->A)(h2 : ¬ c->B):if c then A else B:=by
 by_cases h:c
 ·rw[if_pos h];exact h1 h
 ·rw[if_neg h];exact h2 h
theorem Np{c A B:Prop}[Decidable c](hc:c)(h:B):if(!decide c)=true then A else B:=by
 rw[cD hc];exact cE h
def aq(H H' : Hp):Prop:=∀ b o,H b=some o->H' b=some o
theorem aq.refl(H:Hp):aq H H:=fun _ _ h=>h
theorem aq.trans{H H1 H2:Hp}(a:aq H H1)(b:aq H1 H2):aq H H2:=fun c o h=>b c o (a c o h)
theorem aq.free{H H' : Hp}(e:aq H H'){l:Addr}(h:H' l=Option.none):H l=Option.none:=by
 cases q:H l with
 | none=>rfl
 | some o =>
   rw[e l o q]at h;cases h
theorem aq.seq{K:bW}{H H' : Hp}{a:Addr}{xs:List V}(e:aq H H')(h:aM K H a xs):aM K H' a xs:=by
 rcases h with(h|⟨o,h⟩) | h
 ·exact .inl (.inl (e _ _ h))
 ·exact .inl (.inr ⟨o,e _ _ h⟩)
 ·exact .inr h
def dh(cells:List (Str×Addr)):List (Str×NameKind)->List (Str×Addr)->List (Str×Addr)
 | [],cs=>cs
 | (n,k)::r,cs=>dh cells r (if(k==NameKind.free)=true then(n,(cells.lookup n).getD 0)::cs else cs)
theorem uK{env:Env}{f:Str×NameKind->List (Str×Addr)->Sem (ForInStep (List (Str×Addr)))}
 (hf1:∀ n k cs c,(k==NameKind.free)=true->env.cells.lookup n=some c->f (n,k) cs=pure (.yield ((n,c)::cs)))
 (hf2:∀ n k cs,(k==NameKind.free)=false->f (n,k) cs=pure (.yield cs)) :
 ∀(names:List (Str×NameKind)) (cs:List (Str×Addr)),(∀ n k,(n,k)∈names->(k==NameKind.free)=true->∃ c,env.cells.lookup n=some c)->
  forIn names cs f=(pure (dh env.cells names cs):Sem (List (Str×Addr)))
 | [],cs,_=>by rw[List.forIn_nil];rfl
 | (n,k)::r,cs,h=>by
   have ih:=fun cs=>uK hf1 hf2 r cs fun m j hm=>h m j (kU _ hm)
   rw[List.forIn_cons];cases e:(k==NameKind.free) with
   | true =>
     obtain⟨c,hc⟩:=h n k List.mem_cons_self e;rw[hf1 n k cs c e hc,pure_bind];show forIn r ((n,c)::cs) f=_;rw[ih]
     conv=>rhs;unfold dh
     rw[if_pos e,hc];rfl
   | false =>
     rw[hf2 n k cs e,pure_bind];show forIn r cs f=_;rw[ih]
     conv=>rhs;unfold dh
     rw[if_neg (by rw[e];exact Bool.false_ne_true)]
theorem pe{scope:Scope}{env:Env}(h:∀ n k,(n,k)∈scope.names->(k==NameKind.free)=true->∃ c,env.cells.lookup n=some c):closureFor scope env=pure (dh env.cells scope.names []):=by
 simp only[closureFor];rw[uK (env:=env) ?_ ?_ scope.names [] h]
 ·rfl
 ·intro n k cs c e hc;show(if(k==NameKind.free)=true then _ else _)=_
  rw[if_pos e];unfold cellOf;rw[hc];rfl
 ·intro n k cs e;show(if(k==NameKind.free)=true then _ else _)=_
  rw[if_neg (by rw[e];exact Bool.false_ne_true)]
theorem jU{cells:List (Str×Addr)}{x:Str}{c:Addr}:∀{names:List (Str×NameKind)} {cs:List (Str×Addr)},(dh cells names cs).lookup x=some c->cs.lookup x=some c\/((x,NameKind.free)∈names/\(cells.lookup x).getD 0=c)
 | [],cs,h=>.inl h
 | (n,k)::r,cs,h=>by
   unfold dh at h;rcases jU h with q|⟨q1,q2⟩
   ·by_cases e:(k==NameKind.free)=true
    ·rw[if_pos e]at q
     by_cases hx:x=n
     ·subst hx;rw[List.lookup_cons_self]at q;have hk:k=NameKind.free:=eq_of_beq e;exact .inr ⟨by rw[hk];exact List.mem_cons_self,Option.some.inj q⟩
     ·have hb:(x==n)=false:=beq_eq_false_iff_ne.mpr hx;simp only[List.lookup_cons,hb]at q;exact .inl q
    ·rw[if_neg e]at q;exact .inl q
   ·exact .inr ⟨kU _ q1,q2⟩
theorem jx{cells:List (Str×Addr)}{x:Str}:∀{names:List (Str×NameKind)} {cs:List (Str×Addr)},((x,NameKind.free)∈names\/∃ c,cs.lookup x=some c)->∃ c,(dh cells names cs).lookup x=some c
 | [],cs,h=>by
   rcases h with h|h
   ·cases h
   ·exact h
 | (n,k)::r,cs,h=>by
   unfold dh;apply jx;rcases h with h|⟨c,h⟩
   ·rcases List.mem_cons.mp h with h|h
    ·cases h
     right
     rw[if_pos (by rfl)]
     exact⟨_,List.lookup_cons_self⟩
    ·exact .inl h
   ·right
    by_cases e:(k==NameKind.free)=true
    ·rw[if_pos e]
     by_cases hx:x=n
     ·subst hx;exact⟨_,List.lookup_cons_self⟩
     ·have hb:(x==n)=false:=beq_eq_false_iff_ne.mpr hx;exact⟨c,by simp only[List.lookup_cons,hb];exact h⟩
    ·rw[if_neg e];exact⟨c,h⟩
theorem lF{env:Env}{x:Str}{k:NameKind}:∀{names:List (Str×NameKind)},
 (names.map fun(n,k)=>if(k==NameKind.free&&env.scope.kind == .function&&env.kindOf n==some .cell) then(n,NameKind.cell) else(n,k)).lookup x=some k->
  ∃ k0,names.lookup x=some k0/\(k=k0\/(k0 = .free/\k = .cell))
 | [],h=>by cases h
 | (n,j)::r,h=>by
   have ih:=@lF env x k r
   replace h:List.lookup x ((if(j==NameKind.free&&env.scope.kind == .function&&env.kindOf n==some .cell)=true then(n,NameKind.cell) else(n,j))::_)=some k:=h
   cases hx:x==n with
   | true =>
     by_cases hc:(j==NameKind.free&&env.scope.kind == .function&&env.kindOf n==some .cell)=true
     ·rw[if_pos hc]at h;simp only[List.lookup_cons,hx]at h ⊢;have hj:j=NameKind.free:=by
       rw[Bool.and_eq_true,Bool.and_eq_true]at hc;exact eq_of_beq hc.1.1
      exact⟨j,rfl,.inr ⟨hj,(Option.some.inj h).symm⟩⟩
     ·rw[if_neg hc]at h;simp only[List.lookup_cons,hx]at h ⊢;exact⟨j,rfl,.inl (Option.some.inj h).symm⟩
   | false =>
     by_cases hc:(j==NameKind.free&&env.scope.kind == .function&&env.kindOf n==some .cell)=true
     ·rw[if_pos hc]at h;simp only[List.lookup_cons,hx]at h ⊢;exact ih h
     ·rw[if_neg hc]at h;simp only[List.lookup_cons,hx]at h ⊢;exact ih h
theorem qb{env:Env}{x:Str}:∀{names:List (Str×NameKind)},names.lookup x=some .free->
 (names.map fun(n,k)=>if(k==NameKind.free&&env.scope.kind == .function&&env.kindOf n==some .cell) then(n,NameKind.cell) else(n,k)).lookup x=some .cell\/
 (names.map fun(n,k)=>if(k==NameKind.free&&env.scope.kind == .function&&env.kindOf n==some .cell) then(n,NameKind.cell) else(n,k)).lookup x=some .free
 | [],h=>by cases h
 | (n,j)::r,h=>by
   have ih:=@qb env x r;show List.lookup x ((if(j==NameKind.free&&env.scope.kind == .function&&env.kindOf n==some .cell)=true then(n,NameKind.cell) else(n,j))::_)=_\/
    List.lookup x ((if(j==NameKind.free&&env.scope.kind == .function&&env.kindOf n==some .cell)=true then(n,NameKind.cell) else(n,j))::_)=_
   cases hx:x==n with
   | true =>
     simp only[List.lookup_cons,hx]at h;cases h
     by_cases hc:(NameKind.free==NameKind.free&&env.scope.kind == .function&&env.kindOf n==some .cell)=true
     ·rw[if_pos hc];simp only[List.lookup_cons,hx];exact .inl trivial
     ·rw[if_neg hc];simp only[List.lookup_cons,hx];exact .inr trivial
   | false =>
     simp only[List.lookup_cons,hx]at h
     by_cases hc:(j==NameKind.free&&env.scope.kind == .function&&env.kindOf n==some .cell)=true
     ·rw[if_pos hc];simp only[List.lookup_cons,hx];exact ih h
     ·rw[if_neg hc];simp only[List.lookup_cons,hx];exact ih h
def di(X:Cx)(N:List Str)(scope:Scope)(xe:eK)(C:Addr)(s:Shared)(H:Hp)(fp:List Addr):Cx where
 prog:=X.prog
 w:=X.w
 K:=X.K
 mg:=X.mg
 base:=X.base
 A:=X.A
 N:=N
 s₀:=s
 H₀:=H
 env:=compEnvC scope (dh X.env.cells scope.names []) C X.env
 outer:=X.stack
 stack:=X.stack
 ex:=fp
 fn:=fun _=>false
 calm:=X.calm
 pn:=[]
 xe:=xe
def fJ(σ:St)(js:List Nat):St:=js.map fun j=>(σ[j]?).getD none
structure dS(X:Cx)(scope:Scope)(own fq:List Str)(js:List Nat):Prop where
 kind:scope.kind = .function
 yO:∀ y∈scope.names,y.2≠.cell
 names:∀ y∈scope.names,y.2 = .local->scope.names.lookup y.1=some .local
 free:∀ y∈scope.names,y.2 = .free->X.env.scope.names.lookup y.1=some .cell\/X.env.scope.names.lookup y.1=some .free
 at_:js.map (fun j=>X.N[j]?)=fq.map some
 fr:∀ x∈fq,scope.names.lookup x=some .free
theorem uL{σ:St}{js:List Nat}{i:Nat}{v:V}(h:(fJ σ js)[i]?=some (some v)):∃ j,js[i]?=some j/\σ[j]?=some (some v):=by
 unfold fJ at h;rw[List.getElem?_map]at h;cases e:js[i]? with
 | none=>rw[e]at h;cases h
 | some j =>
   rw[e]at h;have h' : (σ[j]?).getD none=some v:=Option.some.inj h;refine⟨j,rfl,?_⟩;cases q:σ[j]? with
   | none=>rw[q]at h';cases h'
   | some o=>rw[q]at h';rw[show o=some v from h']
section
variable {X:Cx}
theorem g9{pq:aR}{σ:St}{H:Hp}{s:Shared}{scope:Scope}{own fq:List Str}{js:List Nat}(I:Inv X pq σ H s)(T:dS X scope own fq js):
 ∀ n k,(n,k)∈scope.names->(k==NameKind.free)=true->∃ c,X.env.cells.lookup n=some c:=fun n k hm e=>by
 have hk:k=NameKind.free:=eq_of_beq e;exact I.ok.has n (T.free (n,k) hm hk)
theorem IF{pq:aR}{σ:St}{H:Hp}{s:Shared}{scope:Scope}{own fq:List Str}{js:List Nat}{fp:List Addr}{D C:Addr}{h1:Heap}{t1:Nat}{m:oQ}{xe:eK}
 (I:Inv X pq σ H s) (T:dS X scope own fq js) (hf:∀ b∈fp,o9 X pq H b) (hfo:∀ b∈fp,∃ o,s.heap.get? b=some o) (hD:s.heap.objs.size<=D) (hC:s.heap.objs.size<=C) (hDC:D≠C)
 (old:∀ b o,s.heap.get? b=some o->h1.get? b=some o) (hl:h1.get? D=some { cls:=.type "list",data:=.seq ([]:List Value).toArray 0}) (hn:h1.Ns C m) :
 Inv (di X (own++fq) scope xe C s H fp) [] (List.replicate own.length none++fJ σ js) (upd H D (.lst [])) { s with heap:=h1,toks:=t1}:=by
 have cells:∀ x c,(dh X.env.cells scope.names []).lookup x=some c->X.env.cells.lookup x=some c:=fun x c h=>by
  rcases jU h with q|⟨q1,q2⟩
  ·cases q
  ·obtain⟨c',hc'⟩:=g9 I T x .free q1 rfl;rw[hc']at q2;rw[hc'];exact congrArg some q2
 have Rt:∀ b o,s.heap.get? b=some o->b<s.heap.objs.size:=fun b o e=>Heap.lt_size e
 have hcl:∀ x c,X.env.cells.lookup x=some c->c<s.heap.objs.size:=fun x c e=>by
  obtain⟨v,q⟩:=I.cell x c e;exact q.lt
 have Zu:∀ b∈frs X.stack,b<s.heap.objs.size:=fun b hb=>by
  obtain⟨_,o,ho,_⟩:=I.stack.mem hb;exact Heap.lt_size ho
 have Zv:H D=none:=I.hok.fresh hD;have OA:H C=none:=I.hok.fresh hC;refine⟨⟨I.ok.mod,T.kind,I.ok.glob,I.ok.blt,hC,fun x y c a b=>I.ok.inj x y c (cells x c a) (cells y c b),fun x hx=>?_,fun x c z _=>(nomatch z),I.ok.hd,I.ok.frames,.inl rfl,fun b hb=>⟨?_,fun x c e z=>?_⟩,
  fun b o e=>I.bs b o e,Nat.le_trans I.ok.LK I.sz,fun b o e hb=>?_,fun b hb z=>?_,I.stack,I.yI⟩,
  rfl,I.bare,Un.laid old hD Zv,⟨m,hn,fun i x v e1 e2 e3=>?_⟩,fun x c e=>?_,?_,fun x c e=>?_,fun p hp=>absurd (show p∈([]:aR) from hp) (by simp),?_,?_⟩
 ·
  have hx:(relabel scope X.env).names.lookup x=some .cell\/(relabel scope X.env).names.lookup x=some .free:=hx;have Zw:(x,NameKind.free)∈scope.names:=by
   rcases hx with hx|hx
   ·obtain⟨k0,q,r⟩:=lF hx;have hm:=PySem.mem_of_lookup q;rcases r with r|⟨r,_⟩
    ·exact absurd r.symm (T.yO _ hm)
    ·rw[r]at hm;exact hm
   ·obtain⟨k0,q,r⟩:=lF hx;have hm:=PySem.mem_of_lookup q;rcases r with r|⟨_,r⟩
    ·rw[<-r]at hm;exact hm
    ·cases r
  exact jx (.inl Zw)
 ·
  obtain⟨o,ho⟩:=hfo b hb;exact Nat.ne_of_lt (Nat.lt_of_lt_of_le (Rt b o ho) hC)
 ·exact(hf b hb).2.2.2.2.1 x c (cells x c e) z
 ·
  obtain⟨_,_,_,f3,_,_⟩:=hf b hb;rcases f3 with z|z
  ·exact I.ok.Ih b o e z
  ·exact absurd (Nat.lt_of_lt_of_le (Heap.lt_size (I.ok.bs b o e).1) z) (Nat.lt_irrefl _)
 ·
  obtain⟨_,f1,f2,_⟩:=hf b hb;rcases List.mem_cons.mp (I.uz b z) with q|q
  ·exact f1 q
  ·exact f2 q
 ·
  by_cases hi:i<own.length
  ·rw[List.getElem?_append_left (by simpa using hi),List.getElem?_replicate,if_pos hi]at e2
   cases e2
  ·rw[List.getElem?_append_right (by simpa using hi),List.length_replicate]at e2
   replace e1:(own++fq)[i]?=some x:=e1
   rw[List.getElem?_append_right (by lia)]at e1
   obtain⟨j,hj,hσ⟩:=uL e2;have hN:X.N[j]?=some x:=by
    have q:=congrArg (fun l=>l[i-own.length]?) T.at_
    simp only[List.getElem?_map,hj,e1,Option.map_some]at q;exact Option.some.inj q
   have hfx:=T.fr x (iT e1);have hm:=PySem.mem_of_lookup hfx;have hk:=T.free (x,.free) hm rfl;obtain⟨m0,hn0,EK⟩:=I.loc;obtain⟨u,r,l⟩:=EK j x v hN hσ (by rcases hk with k|k;exact .inr (.inl k);exact .inr (.inr k))
   refine⟨u,r,.inr ⟨qb hfx,?_⟩⟩;rcases l with⟨nZ,_⟩|⟨_,c,hc,hcell⟩
   ·have nZ:X.env.scope.names.lookup x=some .local:=nZ;rcases hk with k|k<;>(rw[nZ]at k;cases k)
   ·obtain⟨c',hc'⟩:=jx (cells:=X.env.cells) (names:=scope.names) (cs:=[]) (x:=x) (.inl hm);have q:=cells x c' hc';rw[hc]at q;cases q;exact⟨c,hc',hcell.keeps old⟩
 ·
  obtain⟨v,q⟩:=I.cell x c (cells x c e);exact⟨v,q.keeps old⟩
 ·
  show upd H D (.lst []) C=none;rw[ao (Ne.symm hDC)];exact OA
 ·show upd H D (.lst []) c=none;have e:=cells x c e;rw[ao (Nat.ne_of_lt (Nat.lt_of_lt_of_le (hcl x c e) hD))];exact I.fK x c e
 ·exact I.hok.laid old hD ⟨Nat.zero_le _,[],0,.nil,hl⟩
 ·show _=(own++fq).length;have q:=congrArg List.length T.at_;rw[List.length_map,List.length_map]at q;rw[List.length_append,List.length_append,List.length_replicate];unfold fJ;rw[List.length_map,q]
theorem oU{pq:aR}{σ σ' : St}{H H' : Hp}{s s' : Shared}{scope:Scope}{N:List Str}{fp:List Addr}{C:Addr}{h' : Heap}{xe:eK}
 (I:Inv X pq σ H s) (hf:∀ b∈fp,o9 X pq H b) (hC:s.heap.objs.size<=C) (J:Inv (di X N scope xe C s H fp) [] σ' H' s') (sb:Heap.SameBut C s'.heap h'):Inv X pq σ H' { s' with heap:=h'}:=by
 have OA:H' C=none:=J.free;refine I.Ii (ch:=fp) J.os ?_ ?_ J.bare (fun b hb=>?_)
 ·have u:Un (frs X.stack) fp H H' s.heap s'.heap:=J.base;have ne:∀ b o,s.heap.get? b=some o->b≠C:=fun b o e=>Nat.ne_of_lt (Nat.lt_of_lt_of_le (Heap.lt_size e) hC)
  refine⟨fun b o e n hb hx=>(sb.2 b (ne b o e)).trans (u.keep b o e n hb hx),fun b o e n hb hx=>?_,u.free,fun b o e hx=>?_,u.tups,u.lC,u.mY⟩
  ·obtain⟨sl,q⟩:=u.slot b o e n hb hx;exact⟨sl,(sb.2 b (ne b o e)).trans q⟩
  ·obtain⟨o',q⟩:=u.there b o e hx;exact⟨o',(sb.2 b (ne b o e)).trans q⟩
 ·intro b ob e;refine(J.hok b ob e).stay (fun c w' hc q=>(sb.2 c ?_).trans q) (fun _ q=>q) fun _ _ q=>q
  rintro rfl;rcases hc with rfl|hc
  ·rw[OA]at e;cases e
  ·rw[OA]at hc;cases hc
 ·obtain⟨_,f1,_,f3,f4,f5⟩:=hf b hb;exact⟨f3,f1,f4,f5⟩
end
section
variable {prog:Program}{w:World}{A:Around}{R:Result->Shared->Prop}{s:Shared}
abbrev EL(ifs:List Expr)(env:Env):Sem Bool:=forIn ifs true fun c r=>if r=true then do let ok←isTrue c env (eval c env);pure (ForInStep.yield ok) else pure (ForInStep.yield r)
theorem yP{elt target iter:Expr}{ifs:List Expr}{scope:Scope}{pos:Pos}{it acc:Value}{env:Env}(I:Nat->Shared->Prop)
 (turn:∀ n s,I n s->wpAny (model prog w) A (pyNext it) (fun r s₁=>match r with
  | none=>R (.ok .next) s₁
  | some v=>wpAny (model prog w) A (letOwnedTupleGo target it v) (fun _ s₀=>wpAny (model prog w) A (assign target env v) (fun _ s₂ =>
   wpAny (model prog w) A (EL ifs env) (fun ok s₃ =>
    if ok=true then wpAny (model prog w) A (eval elt env) (fun x s₄ =>
     wpAny (model prog w) A (call (.builtin "list.append") [acc,x]) (fun _ s₅=>∃ m,m<n/\I m s₅) (notedBy (model prog w) A env fun e s'=>R (.error e) s') s₄) (notedBy (model prog w) A env fun e s'=>R (.error e) s') s₃
    else ∃ m,m<n/\I m s₃) (notedBy (model prog w) A env fun e s'=>R (.error e) s') s₂) (notedBy (model prog w) A env fun e s'=>R (.error e) s') s₀) (notedBy (model prog w) A env fun e s'=>R (.error e) s') s₁) (notedBy (model prog w) A env fun e s'=>R (.error e) s') s)
 (n:Nat) (h:I n s) :
 codeAny (model prog w) A (.compLoop (.ListComp elt [⟨target,iter,ifs,0⟩] scope pos) 0 it acc env) R s:=by
 refine codeAny_loop rfl I (fun n s hI=>?_) n h
 show wpAny _ A ((compTurn (.ListComp elt [⟨target,iter,ifs,0⟩] scope pos) 0 it acc env).onRaise (fun x=>do noteFrame x env;theTreesLotGoes x)) _ _ s
 refine wpAny_noted ?_;rw[compTurn_list];refine aQ (wpAny_standAt (aQ (wpAny_mono (turn n s hI) (fun r s₁ h₁=>?_) fun _ _ h'=>h')))
 cases r with
 | none=>exact wpAny_pure h₁
 | some v =>
   refine aQ (wpAny_mono h₁ (fun _ s₀ h₀=>?_) fun _ _ h'=>h')
   refine aQ (wpAny_mono h₀ (fun _ s₂ h₂=>aQ (wpAny_mono h₂ (fun ok s₃ h₃=>?_) fun _ _ h'=>h')) fun _ _ h'=>h')
   cases ok with
   | false=>exact wpAny_pure ⟨rfl,h₃⟩
   | true =>
     exact aQ (aQ (wpAny_mono h₃ (fun x s₄ h₄=>aQ (wpAny_mono h₄ (fun _ s₅ h₅=>wpAny_pure (wpAny_pure ⟨rfl,h₅⟩)) fun _ _ h'=>h')) fun _ _ h'=>h'))
end
def Ru(X:Cx)(ifs:List Expr)(t:TT):Prop :=
 ∀(pq:aR) (s:Shared) (σ:St) (H:Hp) (Q:Bool->Hp->Prop),Inv X pq σ H s->t σ H Q->wpAny (model X.prog X.w) X.A (EL ifs X.env) (TP X pq σ Q) X.xe s
def Rv:TT:=fun _ H Q=>Q true H
theorem bQ{X:Cx}:Ru X [] Rv:=fun _ _ _ H _ I h=>wpAny_tests_nil ⟨H,I,h⟩
theorem eN{X:Cx}{c:Expr}{t:TT}(h:PT X c t):Ru X [c] t:=fun pq s σ H Q I q=>wpAny_tests_one (h pq s σ H Q I q)
def iM(J:It)(g:TG)(tt:TT)(te:TE)(n:Nat)(fr:St)(D:Addr)(Q:Hp->Prop)(H1:Hp):Prop :=
 ∃ W:Nat->Nat->List V->Hp->Prop,(∃ m,W 0 m [] H1)/\∀ i m acc H,W i m acc H->H D=some (.lst acc)/\
   ((J.stop i H/\Q H)\/(J.go i H/\acc.length<sizeLine/\∃ N:List V->Hp->Prop,(∀ acc' H',N acc' H'->∃ m',m'<m/\W (i+1) m' acc' H')/\
     ∀ x H',J.Lp i H x H'->g x (List.replicate n none++fr) H' fun σ2 H2=>σ2.drop n=fr/\tt σ2 H2 fun b H3 =>
     if b=true then te σ2 H3 fun v H4=>H4 D=some (.lst acc)/\N (acc++[v]) (upd H4 D (.lst (acc++[v])))
     else N acc H3))
def Nq(wi:TI)(g:TG)(tt:TT)(te:TE)(n:Nat)(js:List Nat):TE:=fun σ H Q=>wi σ H fun J H1=>∀ D,H1 D=none->iM J g tt te n (fJ σ js) D (fun H2=>Q (.ref D) H2) (upd H1 D (.lst []))
structure Nr(A:Around)(cm:Bool)(P:Program)(w:World)(K:bW)(tg:Expr)(J:It)(fp:List Addr)(it:Addr)(tn:Nat->Heap->Prop):Prop where
 mem:it∈fp
 obj:∀ i h,tn i h->∀ b∈fp,∃ o,h.get? b=some o/\∀ v,o.data≠.cell v
 keep:∀ i h h',tn i h->(∀ b∈fp,∀ o,h.get? b=some o->h'.get? b=some o)->tn i h'
 item:∀(X:Cx),X.prog=P->X.w=w->X.K=K->X.A=A->X.calm=cm->∀(i:Nat) (pq:aR) (s:Shared) (σ:St) (H:Hp) (E:eK),Inv X pq σ H s->(∀ b∈fp,o9 X pq H b)->tn i s.heap->J.go i H->
  wpAny (model P w) X.A (pyNext (.ref it)) (fun r s1=>∃ u,r=some u/\
   wpAny (model P w) X.A (letOwnedTupleGo tg (.ref it) u) (fun _ s2=>∃ x H',Inv X pq σ H' s2/\RelV x u/\J.Lp i H x H'/\tn (i+1) s2.heap/\∀ b∈fp,H' b=none) E s1) E s
 done:∀(X:Cx),X.prog=P->X.w=w->X.K=K->X.A=A->X.calm=cm->∀(i:Nat) (pq:aR) (s:Shared) (σ:St) (H:Hp) (E:eK),Inv X pq σ H s->(∀ b∈fp,o9 X pq H b)->tn i s.heap->J.stop i H->
  wpAny (model P w) X.A (pyNext (.ref it)) (fun r s1=>r=none/\Inv X pq σ H s1) E s
 self:∀(A:Around) (i:Nat) (s:Shared) (Q:eK) (E:eK),tn i s.heap->Q (.ref it) s->wpAny (model P w) A (pyIter (.ref it)) Q E s
theorem Turn.x{A:Around}{cm:Bool}{P:Program}{w:World}{K:bW}{tg:Expr}{J:It}{fp:List Addr}{it:Addr}{tn:Nat->Heap->Prop}(T:Turn P w K tg J fp it tn)(hc:cm=true):Nr A cm P w K tg J fp it tn :=
 ⟨T.mem,T.obj,T.keep,fun X a b c _ d=>T.item X a b c (d.trans hc),fun X a b c _ d=>T.done X a b c (d.trans hc),T.self⟩
section
variable {X:Cx}{elt iter tg:Expr}{ifs:List Expr}{scope:Scope}{pos:Pos}{own fq:List Str}{js:List Nat}{wi:TI}{g:TG}{tt:TT}{te:TE}
theorem uM{pq:aR}{σ:St}{H2:Hp}{s2:Shared}{it:Addr}{fp:List Addr}{tn:Nat->Heap->Prop}{J:It}{E:eK}{RR:Value->Addr->Result->Shared->Prop}{QQ:Addr->Hp->Prop}
 (T:dS X scope own fq js)
 (hg:∀ C s H fp,PG (di X (own++fq) scope (fun _ _=>False) C s H fp) tg g)
 (ht:∀ C s H fp,Ru (di X (own++fq) scope (fun _ _=>False) C s H fp) ifs tt)
 (he:∀ C s H fp,PE (di X (own++fq) scope (fun _ _=>False) C s H fp) elt te)
 (I2:Inv X pq σ H2 s2) (HX:Nr X.A X.calm X.prog X.w X.K tg J fp it tn) (st2:tn 0 s2.heap) (f2:∀ b∈fp,o9 X pq H2 b)
 (hl:∀ D,H2 D=none->iM J g tt te own.length (fJ σ js) D (QQ D) (upd H2 D (.lst [])))
 (hRR:∀ D C σ' H' s',s2.heap.objs.size<=C->Inv (di X (own++fq) scope (fun _ _=>False) C s2 H2 fp) [] σ' H' s'->QQ D H'->RR (.ref D) C (.ok .next) s') :
 wpAny (model X.prog X.w) X.A (newList []) (fun acc s₃=>wpAny (model X.prog X.w) X.A (newFunctionEnv scope X.env.globals (dh X.env.cells scope.names []) [] X.env.qual none .none (some X.env)) (fun cenv s₄ =>
  codeAny (model X.prog X.w) X.A (.compStart (.ListComp elt [⟨tg,iter,ifs,0⟩] scope pos) 0 (.ref it) acc { cenv with scope:=relabel scope X.env}) (RR acc cenv.locals) s₄) E s₃) E s2:=by
 refine wpAny_newObj_type (wpAny_newFunctionEnv T.yO (by intro y hy;simp at hy) (fun h₁ OB L7=>?_) T.kind)
 dsimp only at OB L7 ⊢;generalize L8:s2.heap.push { cls:=.type "list",dict:=none,data:=.seq ([]:List Value).toArray}=G2 at OB L7 ⊢;have hC:G2.objs.size=s2.heap.objs.size+1:=by rw[<-L8,Heap.size_push]
 have hDC:s2.heap.objs.size≠G2.objs.size:=by rw[hC];exact Nat.ne_of_lt (Nat.lt_succ_self _)
 have Rx:s2.heap.objs.size<=G2.objs.size:=by rw[hC];exact Nat.le_succ _
 have below:∀ b,b<s2.heap.objs.size->b≠G2.objs.size:=fun b hb=>by rw[hC];exact Nat.ne_of_lt (Nat.lt_succ_of_lt hb)
 have old:∀ b o,s2.heap.get? b=some o->h₁.get? b=some o:=fun b o e=>L7.extBut b o (below b (Heap.lt_size e)) (Heap.get?_push_of_some _ (L8▸Heap.get?_push_of_some _ e))
 have hacc:h₁.get? s2.heap.objs.size=some { cls:=.type "list",data:=.seq ([]:List Value).toArray 0}:=L7.extBut _ _ hDC (Heap.get?_push_of_some _ (L8▸Heap.get?_push_size _ rfl));have U9:∀ b∈fp,∃ o,s2.heap.get? b=some o:=fun b hb=>let⟨o,e,_⟩:=HX.obj _ _ st2 b hb;⟨o,e⟩
 have st1:tn 0 h₁:=HX.keep _ _ _ st2 fun b _ o e=>old b o e
 obtain⟨W,⟨m0,w0⟩,turn⟩:=hl s2.heap.objs.size (I2.hok.fresh (Nat.le_refl _));have hfx:∀{H' : Hp},(∀ b∈fp,H' b=none)->∀ b∈fp,o9 (di X (own++fq) scope (fun _ _=>False) G2.objs.size s2 H2 fp) [] H' b:=fun {H'} hn b hb=>by
  obtain⟨_,f1,Zx,_,f4,_⟩:=f2 b hb;obtain⟨o,ho⟩:=U9 b hb;refine⟨hn b hb,below b (Heap.lt_size ho),fun z=>?_,.inl hb,fun x c e=>?_,fun p hp=>absurd (show p∈([]:aR) from hp) (by simp)⟩
  ·rcases List.mem_cons.mp (I2.uz b z) with q|q
   ·exact f1 q
   ·exact Zx q
  ·rcases jU (show(dh X.env.cells scope.names []).lookup x=some c from e) with q|⟨q1,q2⟩
   ·cases q
   ·obtain⟨c',hc'⟩:=g9 I2 T x .free q1 rfl;rw[hc']at q2;have q2:c' = c:=q2;rw[<-q2];exact f4 x c' hc'
 have Zy:∀ b∈fp,upd H2 s2.heap.objs.size (.lst []) b=none:=fun b hb=>by
  obtain⟨o,ho⟩:=U9 b hb;rw[ao (Nat.ne_of_lt (Heap.lt_size ho))];exact(f2 b hb).1
 have back:∀{σ6:St} {p6:aR} {H6:Hp} {s6:Shared},Inv (di X (own++fq) scope (fun _ _=>False) G2.objs.size s2 H2 fp) p6 σ6 H6 s6->σ6.drop own.length=fJ σ js->
  Inv (di X (own++fq) scope (fun _ _=>False) G2.objs.size s2 H2 fp) [] (List.replicate own.length none++fJ σ js) H6 s6:=fun {σ6 p6 H6 s6} I6 hd=>by
  have Zz:σ6.length=(own++fq).length:=I6.len;have J6:=I6.gD (TJ:=[]) fun p hp=>absurd hp (by simp)
  refine J6.weak ?_ fun i v e=>?_
  ·have q:=congrArg List.length hd;rw[List.length_drop]at q;rw[List.length_append]at Zz;rw[List.length_append,List.length_replicate]
   lia
  ·by_cases hi:i<own.length
   ·rw[List.getElem?_append_left (by simpa using hi),List.getElem?_replicate,if_pos hi]at e
    cases e
   ·rw[List.getElem?_append_right (by simpa using hi),List.length_replicate,<-hd,List.getElem?_drop]at e
    rw[show own.length+(i-own.length)=i by lia]at e
    exact e
 have loop:∀ s₃:Shared,s₃={ s2 with heap:=h₁,toks:=s2.toks+([]:List (Str×Value)).length}->
  codeAny (model X.prog X.w) X.A (.compLoop (.ListComp elt [⟨tg,iter,ifs,0⟩] scope pos) 0 (.ref it) (.ref s2.heap.objs.size) (compEnvC scope (dh X.env.cells scope.names []) G2.objs.size X.env))
   (RR (.ref s2.heap.objs.size) G2.objs.size) s₃:=by
  rintro s₃ rfl;refine yP (fun n s'=>∃ i acc H',Inv (di X (own++fq) scope (fun _ _=>False) G2.objs.size s2 H2 fp) [] (List.replicate own.length none++fJ σ js) H' s'/\tn i s'.heap/\(∀ b∈fp,H' b=none)/\W i n acc H') ?_ m0
   ⟨0,[],upd H2 s2.heap.objs.size (.lst []),IF I2 T f2 U9 (Nat.le_refl _) Rx hDC old hacc OB,st1,Zy,w0⟩
  rintro n s3 ⟨i,acc,H3,I3,st3,Nk,w3⟩;obtain⟨qU,Ry⟩:=turn i n acc H3 w3;rcases Ry with⟨stop,qn⟩|⟨go,hz,NN,WN,step⟩
  ·refine wpAny_mono (HX.done (di X (own++fq) scope (fun _ _=>False) G2.objs.size s2 H2 fp) rfl rfl rfl rfl rfl i [] s3 _ H3 (fun _ _=>False) I3 (hfx Nk) st3 stop) (fun r s4 ⟨hr,I4⟩=>?_) fun _ _ z=>z.elim
   subst hr;exact hRR _ _ _ H3 s4 Rx I4 qn
  ·refine wpAny_mono (HX.item (di X (own++fq) scope (fun _ _=>False) G2.objs.size s2 H2 fp) rfl rfl rfl rfl rfl i [] s3 _ H3 (fun _ _=>False) I3 (hfx Nk) st3 go) (fun r s4 ⟨u,hr,h4⟩=>?_) fun _ _ z=>z.elim
   subst hr;refine wpAny_mono h4 (fun _ s5 ⟨x,H5,I5,r5,y5,Io,Q8⟩=>?_) fun _ _ z=>z.elim
   have Q9:=I5.pinned (hfx Q8) (HX.obj _ _ Io);refine wpAny_mono (hg _ _ _ _ _ s5 _ H5 x u _ Q9 r5 (step x H5 y5)) (fun _ s6 ⟨σ6,H6,I6,WO,q6⟩=>?_) fun _ _ z=>z.elim
   refine wpAny_mono (ht _ _ _ _ _ s6 σ6 H6 _ I6 q6) (fun ok s7 ⟨H7,I7,q7⟩=>?_) fun _ _ z=>z.elim
   have again:∀{H8:Hp} {s8:Shared},Inv (di X (own++fq) scope (fun _ _=>False) G2.objs.size s2 H2 fp) ([]++qR fp s5.heap) σ6 H8 s8->tn (i+1) s8.heap/\∀ b∈fp,H8 b=none:=fun {H8 s8} I8=>by
    refine⟨HX.keep _ _ _ Io fun b hb o e=>(I8.pin (b,o) (i9 _ (i9 _ (g7 hb e)))).1,fun b hb=>?_⟩
    obtain⟨o,e,d⟩:=HX.obj _ _ Io b hb;exact(I8.pin (b,o) (i9 _ (i9 _ (g7 hb e)))).2.1
   cases ok with
   | false =>
     rw[if_neg Bool.false_ne_true];obtain⟨m',hm,w7⟩:=WN _ _ q7;obtain⟨t7,n7⟩:=again I7;exact⟨m',hm,i+1,acc,H7,back I7 WO,t7,n7,w7⟩
   | true =>
     rw[if_pos rfl];refine wpAny_mono (he _ _ _ _ _ s7 σ6 H7 _ I7 q7) (fun xv s8 ⟨v,H8,I8,r8,ZA,q8⟩=>?_) fun _ _ z=>z.elim
     obtain⟨m',hm,w8⟩:=WN _ _ q8;refine wpAny_mono (dc (X:=di X (own++fq) scope (fun _ _=>False) G2.objs.size s2 H2 fp) _ s8 σ6 H8 (.ref s2.heap.objs.size) [v] (.ref s2.heap.objs.size) [xv] (fun y H9=>y = .fD/\H9=upd H8 s2.heap.objs.size (.lst (acc++[v]))) I8 rfl (.cons r8 .nil) ⟨_,acc,v,rfl,rfl,ZA,hz,rfl,rfl⟩)
      (fun _ s9 ⟨y,H9,I9,_,_,e9⟩=>?_) fun _ _ z=>z.elim
     subst e9;obtain⟨t9,n9⟩:=again I9;exact⟨m',hm,i+1,acc++[v],_,back I9 WO,t9,n9,w8⟩
 exact codeAny_compStart_list (loop _ rfl) (HX.self _ 0 _ _ _ st1 (loop _ rfl))
theorem bz(T:dS X scope own fq js)(hc:X.calm=true)(hi:PI X tg iter wi)
 (hg:∀ C s H fp,PG (di X (own++fq) scope (fun _ _=>False) C s H fp) tg g)
 (ht:∀ C s H fp,Ru (di X (own++fq) scope (fun _ _=>False) C s H fp) ifs tt)
 (he:∀ C s H fp,PE (di X (own++fq) scope (fun _ _=>False) C s H fp) elt te)
 (hs:∀ x,foldedSetIterable iter X.env x=pure x:=by intro _;rfl) :
 PE X (.ListComp elt [⟨tg,iter,ifs,0⟩] scope pos) (Nq wi g tt te own.length js):=by
 intro pq s σ H Q I h;rw[eval_ListComp];refine wpAny_comprehension_free (use:=none) rfl hs (pe (g9 I T)) T.kind T.names ?_;refine wpAny_mono (hi pq s σ H _ I h) (fun v s1 h1=>wpAny_mono h1 (fun itv s2 h2=>?_) fun _ _ z=>z) fun _ _ z=>z
 obtain⟨it,fp,tn,J,H2,e,I2,HX,st2,f2,hl⟩:=h2;subst e;refine uM (QQ:=fun D H'=>Q (.ref D) H') T hg ht he I2 (HX.x hc) st2 f2 hl fun D C σ' H' s' hC J' q=>?_
 obtain⟨m,hn,_⟩:=J'.loc;exact⟨m,hn,fun h' sb=>⟨.ref D,H',oU I2 f2 hC J' sb,rfl,q⟩⟩
def IG(i:Nat)(wi:TI)(g:TG)(tt:TT)(te:TE)(n:Nat)(js:List Nat):TS:=fun D σ H=>Nq wi g tt te n js σ H fun v H1=>D.nx (σ.set i (some v)) H1
theorem iF{i:Nat}{x:Str}{pos' spos:Pos}(hN:X.N.Nodup)(hix:X.N[i]?=some x)(hx:X.env.scope.names.lookup x=some .local)(T:dS X scope own fq js)(hc:X.calm=true)(hi:PI X tg iter wi)
 (hg:∀ C s H fp,PG (di X (own++fq) scope (fun _ _=>False) C s H fp) tg g)
 (ht:∀ C s H fp,Ru (di X (own++fq) scope (fun _ _=>False) C s H fp) ifs tt)
 (he:∀ C s H fp,PE (di X (own++fq) scope (fun _ _=>False) C s H fp) elt te)
 (hsw:swapsWith (.ListComp elt [⟨tg,iter,ifs,0⟩] scope pos) (some (.Name x pos')) spos.line X.env=pure true:=by rfl)
 (hs:∀ x,foldedSetIterable iter X.env x=pure x:=by intro _;rfl) :
 PS X (.Assign [.Name x pos'] (.ListComp elt [⟨tg,iter,ifs,0⟩] scope pos) spos) (IG i wi g tt te own.length js):=by
 intro pq s σ H D I h;rw[exec_Assign_Name_used _ _ _ _ hsw];refine aQ (wpAny_standAt (aQ ?_));show wpAny _ X.A (do let _←comprehension (.ListComp elt [⟨tg,iter,ifs,0⟩] scope pos) scope X.env _ (newList []) false (eval iter X.env) (some (assign (.Name x pos') X.env))) _ _ s
 refine aQ (wpAny_mono (wpAny_comprehension_free (use:=some (assign (.Name x pos') X.env)) (Q:=fun _ s'=>SP X pq D .next s') rfl hs (pe (g9 I T)) T.kind T.names ?_) (fun _ s' hq=>wpAny_pure (wpAny_pure hq)) fun _ _ e=>e)
 refine wpAny_mono (hi pq s σ H _ I h) (fun v s1 h1=>wpAny_mono h1 (fun itv s2 h2=>?_) fun _ _ z=>z) fun _ _ z=>z
 obtain⟨it,fp,tn,J,H2,e,I2,HX,st2,f2,hl⟩:=h2;subst e;refine uM (QQ:=fun D' H'=>D.nx (σ.set i (some (.ref D'))) H') T hg ht he I2 (HX.x hc) st2 f2 hl fun D' C σ' H' s' hC J' q=>?_
 have I3:Inv X pq σ H' s':=by
  obtain⟨hh,gg,dd,tt',oo⟩:=s';exact oU I2 f2 hC J' (Heap.SameBut.refl ..)
 obtain⟨m,hn,_⟩:=J'.loc;obtain⟨oC,es,ep,ZC,WQ,rest⟩:=id hn;have OA:H' C=none:=J'.free;have WR:C≠X.env.locals:=Nat.ne_of_gt (Nat.lt_of_lt_of_le I2.lt hC);have ZD:C∉X.fs:=fun z=>by
  obtain⟨_,o,ho,_⟩:=I2.funs.mem z;exact absurd (Nat.lt_of_lt_of_le (Heap.lt_size ho) hC) (Nat.lt_irrefl _)
 have I4:Inv X (pq++[(C,oC)]) σ H' s':=I3.gD fun p hp=>(List.mem_append.mp hp).elim (fun z=>I3.pin p (i9 _ z)) fun z=>by
  have e:p=(C,oC):=by simpa using z
  subst e;exact⟨ZC,OA,WR,ZD,fun v z=>by have z' : oC.data = .cell v:=z;rw[WQ]at z';cases z'⟩
 show wpAny _ X.A (assign (.Name x pos') X.env (.ref D')) _ _ _;refine wpAny_assign_Name (pZ (v:=.ref D') I4 hN hix (.inl hx) rfl (fun s5 I5=>?_) (.inr hx))
 have e5:s5.heap.get? C=some oC:=(I5.pin (C,oC) (i9 _ (i9 _ (by simp)))).1
 refine⟨m,⟨oC,es,ep,e5,WQ,rest⟩,fun h' sb=>⟨_,H',?_,q⟩⟩
 have I6:Inv X pq (σ.set i (some (.ref D'))) H' s5:=I5.jw;refine I6.turned (t':=s5.toks) (fun b o hb e=>(sb.2 b hb).trans e) OA WR (.inr (Nat.le_trans I2.sz hC)) (fun y c e=>?_) (fun p hp z=>?_)
 ·obtain⟨v,qc⟩:=I2.cell y c e;exact Nat.ne_of_lt (Nat.lt_of_lt_of_le qc.lt hC)
 ·have Qp:=(I2.pin p hp).1;exact absurd (Nat.lt_of_lt_of_le (Heap.lt_size Qp) (by rw[z];exact hC)) (Nat.lt_irrefl _)
end
section
variable {K:bW}{a:Addr}{xs:List V}{g:TG}{tt:TT}{te:TE}{n:Nat}{fr:St}{D:Addr}{Q:Hp->Prop}{H1:Hp}
theorem aZ(Pv:Nat->List V->Hp->Prop)(h0:Pv 0 [] H1)(hl:∀ i acc H,i<=xs.length->Pv i acc H->aM K H a xs/\H D=some (.lst acc)/\acc.length<=i)(hz:xs.length<=sizeLine)
 (hs:∀ i x acc H,xs[i]?=some x->Pv i acc H->g x (List.replicate n none++fr) H fun σ2 H2=>σ2.drop n=fr/\tt σ2 H2 fun b H3 =>
  if b=true then te σ2 H3 fun v H4=>H4 D=some (.lst acc)/\Pv (i+1) (acc++[v]) (upd H4 D (.lst (acc++[v]))) else Pv (i+1) acc H3)
 (hd:∀ acc H,Pv xs.length acc H->Q H):iM (LP K a) g tt te n fr D Q H1:=by
 refine⟨fun i m acc H=>m=xs.length-i/\i<=xs.length/\Pv i acc H,⟨xs.length,by simp,Nat.zero_le _,h0⟩,?_⟩
 rintro i m acc H ⟨rfl,hi,p⟩;obtain⟨q,hD,ha⟩:=hl i acc H hi p;refine⟨hD,?_⟩
 by_cases hlt:i<xs.length
 ·refine .inr ⟨⟨xs,xs[i],q,by simp[hlt]⟩,by lia,Pv (i+1),fun acc' H' p'=>⟨xs.length-(i+1),by lia,rfl,hlt,p'⟩,fun x H' y=>?_⟩
  obtain⟨e,y⟩:=y;subst e;exact hs i x acc _ (y xs q) p
 ·have e:i=xs.length:=by lia
  subst e;exact .inl ⟨⟨xs,q,Nat.le_refl _⟩,hd acc H p⟩
theorem II(Pv:Nat->List V->Hp->Prop)(h0:Pv 0 [] H1)(hl:∀ i acc H,i<=xs.length->Pv i acc H->aV K H a xs/\H D=some (.lst acc)/\acc.length<=i)(hz:xs.length<=sizeLine)
 (hs:∀ i x acc H,xs[i]?=some x->Pv i acc H->g x (List.replicate n none++fr) H fun σ2 H2=>σ2.drop n=fr/\tt σ2 H2 fun b H3 =>
  if b=true then te σ2 H3 fun v H4=>H4 D=some (.lst acc)/\Pv (i+1) (acc++[v]) (upd H4 D (.lst (acc++[v]))) else Pv (i+1) acc H3)
 (hd:∀ acc H,Pv xs.length acc H->Q H):iM (UQ K a) g tt te n fr D Q H1:=by
 refine⟨fun i m acc H=>m=xs.length-i/\i<=xs.length/\Pv i acc H,⟨xs.length,by simp,Nat.zero_le _,h0⟩,?_⟩
 rintro i m acc H ⟨rfl,hi,p⟩;obtain⟨q,hD,ha⟩:=hl i acc H hi p;refine⟨hD,?_⟩
 by_cases hlt:i<xs.length
 ·refine .inr ⟨⟨xs,xs[i],q,by simp[hlt]⟩,by lia,Pv (i+1),fun acc' H' p'=>⟨xs.length-(i+1),by lia,rfl,hlt,p'⟩,fun x H' y=>?_⟩
  obtain⟨e,y⟩:=y;subst e;exact hs i x acc _ (y xs q) p
 ·have e:i=xs.length:=by lia
  subst e;exact .inl ⟨⟨xs,q,Nat.le_refl _⟩,hd acc H p⟩
theorem ck{lo:Int}{m:Nat}(Pv:Nat->List V->Hp->Prop)(h0:Pv 0 [] H1)(hl:∀ i acc H,i<=m->Pv i acc H->H D=some (.lst acc)/\acc.length<=i)(hz:m<=sizeLine)
 (hs:∀ i acc H,i<m->Pv i acc H->g (.int (lo+i)) (List.replicate n none++fr) H fun σ2 H2=>σ2.drop n=fr/\tt σ2 H2 fun b H3 =>
  if b=true then te σ2 H3 fun v H4=>H4 D=some (.lst acc)/\Pv (i+1) (acc++[v]) (upd H4 D (.lst (acc++[v]))) else Pv (i+1) acc H3)
 (hd:∀ acc H,Pv m acc H->Q H):iM (Im lo m) g tt te n fr D Q H1:=by
 refine⟨fun i k acc H=>k=m-i/\i<=m/\Pv i acc H,⟨m,by simp,Nat.zero_le _,h0⟩,?_⟩
 rintro i k acc H ⟨rfl,hi,p⟩;obtain⟨hD,ha⟩:=hl i acc H hi p;refine⟨hD,?_⟩
 by_cases hlt:i<m
 ·refine .inr ⟨hlt,by lia,Pv (i+1),fun acc' H' p'=>⟨m-(i+1),by lia,rfl,hlt,p'⟩,fun x H' y=>?_⟩
  obtain⟨e,y⟩:=y;subst e y;exact hs i acc _ hlt p
 ·have e:i=m:=by lia
  subst e;exact .inl ⟨Nat.le_refl _,hd acc H p⟩
end
def AD(scope Rz:Scope)(N fq:List Str)(js:List Nat):Bool :=
 decide (scope.kind = .function)&&scope.names.all (fun y=>decide (y.2≠.cell))&&scope.names.all (fun y=>decide (y.2 = .local->scope.names.lookup y.1=some .local)) &&
 scope.names.all (fun y=>decide (y.2 = .free->Rz.names.lookup y.1=some .cell\/Rz.names.lookup y.1=some .free))&&decide (js.map (fun j=>N[j]?)=fq.map some)&&fq.all (fun x=>decide (scope.names.lookup x=some .free))
theorem aE{X:Cx}{scope:Scope}{own fq:List Str}{js:List Nat}(Rz:Scope)(N:List Str)(h1:X.env.scope=Rz:=by rfl)(h2:X.N=N:=by rfl)(h:AD scope Rz N fq js=true:=by decide +kernel):dS X scope own fq js:=by
 unfold AD at h;simp only[Bool.and_eq_true,decide_eq_true_eq,List.all_eq_true]at h;obtain⟨⟨⟨⟨⟨a,b⟩,c⟩,d⟩,e⟩,f⟩:=h;exact⟨a,b,c,by rw[h1];exact d,by rw[h2];exact e,f⟩
mutual
inductive tK(K:bW)(H:Hp):V->PyData->Prop
 | fD:tK K H .fD .none
 | bl (b:Bool):tK K H (.bl b) (.bool b)
 | int (i:Int):tK K H (.int i) (.int i)
 | str (x:Str):tK K H (.str x) (.str x)
 | lst {a:Addr} {xs:List V} {ds:List PyData} (h:aM K H a xs) (r:DatVs K H xs ds):tK K H (.ref a) (.list ds)
 | tup {a:Addr} {xs:List V} {ds:List PyData} (h:aV K H a xs) (r:DatVs K H xs ds):tK K H (.ref a) (.tuple ds)
inductive DatVs(K:bW)(H:Hp):List V->List PyData->Prop
 | nil:DatVs K H [] []
 | cons {x:V} {d:PyData} {xs:List V} {ds:List PyData} (h:tK K H x d) (r:DatVs K H xs ds):DatVs K H (x::xs) (d::ds)
end
section
variable {X:Cx}{pq:aR}{σ:St}{H:Hp}{s:Shared}
mutual
theorem tK.reads(I:Inv X pq σ H s):∀{v:V} {d:PyData} {u:Value},tK X.K H v d->RelV v u->∃ as,Reads s.heap u d as
 | _,_,u,.fD,r=>by cases(show u=Value.none from r);exact⟨_,.none⟩
 | _,_,u,.bl b,r=>by cases(show u=Value.bool b from r);exact⟨_,.bool b⟩
 | _,_,u,.int i,r=>by obtain⟨t,rfl⟩:=(show ∃ t,u=Value.int i t from r);exact⟨_,.int i t⟩
 | _,_,u,.str x,r=>by obtain⟨t,rfl⟩:=(show ∃ t,u=Value.str x t from r);exact⟨_,.str x t⟩
 | _,_,u,.lst (a:=a) h rs,r=>by
   cases(show u=Value.ref a from r)
   obtain⟨its,rv,⟨o,n,e,c,_,d⟩,_⟩:=I.list h;obtain⟨as,q⟩:=DatVs.reads I rs rv;exact⟨_,.list e c d (by simpa using q)⟩
 | _,_,u,.tup (a:=a) h rs,r=>by
   cases(show u=Value.ref a from r)
   obtain⟨its,rv,⟨o,e,c,n,d⟩,_⟩:=I.tuple h;obtain⟨as,q⟩:=DatVs.reads I rs rv;exact⟨_,.tuple e c d (by simpa using q)⟩
theorem DatVs.reads(I:Inv X pq σ H s):∀{vs:List V} {ds:List PyData} {us:List Value},DatVs X.K H vs ds->Vals vs us->∃ as,ReadsAll s.heap us ds as
 | _,_,_,.nil,.nil=>⟨_,.nil⟩
 | _,_,_,.cons h r,.cons rv rr=>by
   obtain⟨as,q⟩:=tK.reads I h rv;obtain⟨bs,q2⟩:=DatVs.reads I r rr;exact⟨_,.cons q q2⟩
end
end
section
variable {X:Cx}
def RA(K:bW):R2:=fun x y H Q=>∃ d e,tK K H x d/\tK K H y e/\SeqAt.shaped d=true/\SeqAt.shaped e=true/\Q (.bl (PyData.eqv d e)) H
theorem OD(hu:X.A.units+64<cLine):mU X (compareOp .Eq) (RA X.K):=by
 intro pq s σ H x y v u Q I rx ry h;obtain⟨d,e,h1,h2,s1,s2,q⟩:=h;obtain⟨as,ra⟩:=h1.reads I rx;obtain⟨bs,rb⟩:=h2.reads I ry;exact eq_dataH ra rb s1 s2 hu ⟨.bl _,H,I,rfl,q⟩
theorem EM:U1 X "int.bit_length" (fun x xs H Q=>∃ i,x = .int i/\xs=[]/\Q (.int (Builtin.Int.intBits i)) H):=by
 intro pq s σ H x xs v us Q I rx rs h;obtain⟨i,rfl,rfl,q⟩:=h;obtain⟨t,rfl⟩:=rx;cases rs;exact call_int_bit_length ⟨.int _,H,I.tok _,⟨_,rfl⟩,q⟩
theorem Ma{x:Str}{v:Int}{pos:Pos}(hg:Gl X x)(h:∃ t,X.mg x=some (.int v t))(hd:(x==("__debug__":Str))=false:=by decide):PE X (.Name x pos) (tC (.int v)):=by
 obtain⟨t,e⟩:=h;exact LM hg e ⟨t,rfl⟩ hd
end
theorem dl{n:Nat}(h:Nat.ble n 1000=true):n<=sizeLine:=Nat.le_of_lt (jj (Nat.le_of_ble_eq_true h))
theorem pg{j:Int}(h:decide (0<j)=true):0<j:=i8 h
theorem F0{c A B:Prop}[Decidable c](h : ¬ c)(hb:B):if decide c=true then A else B:=by
 rw[c7 h];exact cE hb
theorem RB{c A B:Prop}[Decidable c](h:c)(ha:A):if decide c=true then A else B:=by
 rw[cD h];exact eF ha
theorem aq.new{H:Hp}{p:Addr}{o:HO}(h:H p=none):aq H (upd H p o):=fun b u e=>by
 rw[ao (bq e h)];exact e
theorem aq.put{H H2:Hp}{D:Addr}{o:HO}(s:aq H H2)(h:H D=none):aq H (upd H2 D o):=fun b u e=>by
 rw[ao (bq e h)];exact s b u e
theorem aq.ZE{K:bW}{H H' : Hp}{a:Addr}{xs:List V}(e:aq H H')(h:aV K H a xs):aV K H' a xs:=by
 rcases h with(h|⟨o,h⟩) | h
 ·exact .inl (.inl (e _ _ h))
 ·exact .inl (.inr ⟨o,e _ _ h⟩)
 ·exact .inr h
def dG(H H' : Hp):Prop:=∀ b xs,H b=some (.tup xs)->H' b=some (.tup xs)
theorem aq.tups{H H' : Hp}(s:aq H H'):dG H H':=fun b xs e=>s b _ e
theorem dG.trans{H H1 H2:Hp}(a:dG H H1)(b:dG H1 H2):dG H H2:=fun c xs e=>b c xs (a c xs e)
theorem dG.put{H:Hp}{D:Addr}{o:HO}{ys:List V}(h:H D=some (.lst ys)):dG H (upd H D o):=fun b xs e=>by
 rw[ao (aS e h (by intro z;cases z))]
 exact e
theorem Paired.qf{α β:Type}{F:α->β->Prop}:∀{l:List α} {r:List β} {i:Nat} {x:α},Paired F l r->l[i]?=some x->∃ y,r[i]?=some y/\F x y
 | _,_,_,_,.nil,e=>by simp at e
 | _,_,0,_,.cons h _,e=>by
   simp at e;subst e;exact⟨_,rfl,h⟩
 | _,_,i+1,x,.cons _ t,e=>by
   obtain⟨y,h1,h2⟩:=Paired.qf (i:=i) (x:=x) t (by simpa using e)
   exact⟨y,by simpa using h1,h2⟩
theorem IJ(ns:List Int)(lo hi:Option Int):uJ (ns.map V.int) lo hi=((ns.drop (HT.p8 ns.length 0 lo)).take (HT.p8 ns.length ns.length hi-HT.p8 ns.length 0 lo)).map V.int:=by
 unfold uJ;rw[List.length_map,<-List.map_drop,<-List.map_take]
section
variable {X:Cx}{l:Expr}{tl:TE}{tg a b o e:Expr}{ta tb to:TE}{es:List Expr}
theorem IK(K:bW)(hu:X.A.units+64<cLine)(h:X.K=K:=by rfl):mU X (compareOp .Eq) (RA K):=by subst h;exact OD hu
def RC(K:bW):List V->Hp->VK->Prop:=fun xs H Q=>∃ p ys,xs=[.ref p]/\(aM K H p ys\/aV K H p ys)/\Q (.int ys.length) H
theorem Va(K:bW)(h:X.K=K:=by rfl):gE X (.builtin "len") (RC K):=by subst h;exact yN
def RD(K:bW):List V->Hp->VK->Prop:=fun xs H Q=>∃ p ys,xs=[.ref p]/\((aM K H p ys/\∀ l,H l=none->Q (.ref l) (upd H l (.tup ys)))\/(aV K H p ys/\Q (.ref p) H))
theorem EN(K:bW)(h:X.K=K:=by rfl):gE X (.type "tuple") (RD K):=by subst h;exact wK
theorem jR(K:bW)(h:X.K=K:=by rfl):Qo X (Rl K):=by subst h;exact LZ
theorem cz(K:bW)(h:X.K=K:=by rfl):Qo X (Rm K):=by subst h;exact Ov
theorem Qq(K:bW)(h:X.K=K:=by rfl):U0 X (Ro K):=by subst h;exact L0
theorem RE(K:bW)(h:X.K=K:=by rfl):mU X (compareOp .In) (TN K false):=by subst h;exact FU
theorem yQ(K:bW)(h:X.K=K:=by rfl):mU X (compareOp .NotIn) (TN K true):=by subst h;exact yM
theorem m8(K:bW)(hl:PE X l tl)(h:X.K=K:=by rfl):PI X tg l (Nj K tl):=by subst h;exact LQ hl
theorem ZF(K:bW)(hl:PE X l tl)(h:X.K=K:=by rfl):PI X tg l (Q5 K tl):=by subst h;exact Oi hl
theorem HY(K:bW){k:Nat}{t:Ln}{n:Nat}{pos:Pos}(hc:X.calm=true)(hp:Qm X es t)(hn:(assignEach es X.env).length=n:=by rfl)(hst:(assignEach es X.env).findIdx? (·.1)=none:=by rfl)(h:X.K=K:=by rfl):
 PG X (.Tuple es k pos) (Q0 K n t):=by subst h;exact Oh hc hp hn hst
end
def wL(od:Option Addr)(c:Value)(e:Addr)(h:Heap):Prop:=∃ oe vs,h.get? e=some oe/\oe.data = .fields vs/\vs[2]?=some c/\oe.dict=od
theorem IL(o:Obj)(f):(o.mapFields f).dict=o.dict:=by
 obtain⟨c,d,dt,sl⟩:=o;cases dt<;>rfl
section
variable {M:Model}{A:Around}{E:eK}{s:Shared}{B:Heap}{env:Env}{outer l:List Env}{L e:Addr}{cls a0:Value}{Q:Unit->Shared->Prop}{od:Option Addr}{c:Value}
theorem yR{h:Heap}{T:Addr}{oT:Obj}{ts:Array Value}(f:Obj->Obj)(hT:h.get? T=some oT)(hd:oT.data = .fields ts):h.UpToSlots (h.update T f):=fun b o hb hn=>by
 have ne:T≠b:=fun z=>by
  rw[<-z,hT]at hb;cases hb;exact hn ts hd
 exact⟨o.slots,(Heap.get?_update_other h f ne).trans hb⟩
theorem qV{h:Heap}{T:Addr}(f:Obj->Obj)(k:B.StaysIn h)(n:B.get? T=none):B.StaysIn (h.update T f):=fun b o hb=>by
 have ne:T≠b:=fun z=>by
  rw[<-z,n]at hb;cases hb
 exact(Heap.get?_update_other h f ne).trans (k b o hb)
theorem lG{h h' : Heap}(x:h.FunFrames B l)(u:h.UpToSlots h'):h'.FunFrames B l:=x.of_keeps fun b o hb hn =>
 let⟨_,q⟩:=u b o hb hn
 ⟨_,q,rfl⟩
theorem Nt{fl:Value}(hk:B.StaysIn s.heap)(hn:B.get? e=none)(hl:s.heap.FunFrames B l)(ht:s.heap.TracedAtW B e cls a0 fl)(h2:wL od c e s.heap)
 (q:∀ h',Heap.FlyingW B l e cls a0 h'->wL od c e h'->s.heap.UpToSlots h'->Q () { s with heap:=h'}):wpAny M A (setFlight (.ref e) none) Q E s:=by
 obtain⟨oe,vs,T,oT,ts,ge,hc,de,f1,nT,Te,gT,dT,f3⟩:=ht;have z3:3<ts.size:=(Array.getElem?_eq_some_iff.mp f3).1;rw[setFlight];refine aQ (wpAny_field ge de f1 ?_);rw[if_pos (by simp)]
 refine wpAny_setField gT dT z3 ?_;have up:=yR (Obj.mapFields (·.setIfInBounds 3 ((none:Option Addr).elim Value.none fun f=>rawInt f))) gT dT
 have TQ:=(Heap.get?_update_other s.heap (Obj.mapFields (·.setIfInBounds 3 ((none:Option Addr).elim Value.none fun f=>rawInt f))) Te).trans ge
 have WS:=Obj.data_mapFields dT (·.setIfInBounds 3 ((none:Option Addr).elim Value.none fun f=>rawInt f))
 refine q _ ⟨qV _ hk nT,hn,lG hl up,oe,vs,T,_,_,TQ,hc,de,f1,nT,Te,Heap.get?_update_self _ gT (Obj.isFreed_of_fields WS),WS,by simp[z3]⟩ ?_ up
 obtain⟨o2,v2,g2,d2,k2,z2⟩:=h2;rw[ge]at g2;cases g2;exact⟨oe,v2,TQ,d2,k2,z2⟩
theorem IM{oe:Obj}{vs:Array Value}{head:Value}{hadNext:Bool}(hfr:A.frames=some (env::outer))(hl:s.heap.FunFrames B (env::outer))(hf:env.frame=some L)(ge:s.heap.get? e=some oe)(hk:B.StaysIn s.heap)(hn:B.get? e=none)
 (de:oe.data = .fields vs) (hz:1<vs.size) (h0:vs[0]?=some a0) (h2:vs[2]?=some c) (hz2:oe.dict=od)
 (q:∀ h',Heap.HeldW B (env::outer) e oe.cls a0 L h'->wL od c e h'->s.heap.UpToSlots h'->Q () { s with heap:=h'}) :
 wpAny M A (do let a←frameOf env;let pl←entryPlaceOf L hadNext;let b←EntryCells.newEntry head a .none (rawInt L) .none pl;setField (.ref e) 1 b) Q E s:=by
 have Vb:e∉(env::outer).filterMap (·.frame):=fun z=>by
  obtain⟨_,o,ho,nf⟩:=hl.mem z;rw[ge]at ho;cases ho;exact nf vs de
 refine aQ (wpAny_frameOf_fun hfr hl hf fun h1 so=>aQ (wpAny_entryPlaceOf fun pl ip=>?_))
 rw[EntryCells.newEntry,newFields];refine aQ (wpAny_newObj_type ?_ (ip.sizeOk5 _ _ _ _ _));generalize hnw:({ cls:=.type "traceback",dict:=none,data:=.fields ([head,.ref L,.none,rawInt L,.none]++(if pl.isEmpty then List.replicate 6 Value.none else pl)).toArray}:Obj)=nw
 have dn:nw.data = .fields ([head,.ref L,.none,rawInt L,.none]++(if pl.isEmpty then List.replicate 6 Value.none else pl)).toArray:=by rw[<-hnw]
 have ge1:h1.get? e=some oe:=(so.2.1 e Vb).trans ge;have Vc:=Heap.get?_push_of_some (h:=h1) nw ge1;have Te:h1.objs.size≠e:=Nat.ne_of_gt (Heap.lt_size ge1);refine wpAny_setField Vc de hz ?_;have Vd:=Obj.data_mapFields de (·.setIfInBounds 1 (Value.ref h1.objs.size));have WT:=Heap.get?_update_self (Obj.mapFields (·.setIfInBounds 1 (Value.ref h1.objs.size))) Vc (Obj.isFreed_of_fields Vd);have ZG:=(Heap.get?_update_other (h1.push nw) (Obj.mapFields (·.setIfInBounds 1 (Value.ref h1.objs.size))) (Ne.symm Te)).trans (Heap.get?_push_size h1 (by rw[<-hnw];rfl))
 have up:s.heap.UpToSlots ((h1.push nw).update e (Obj.mapFields (·.setIfInBounds 1 (Value.ref h1.objs.size)))):=by
  have u1:s.heap.UpToSlots h1:=fun b o hb _=>so.2.2 b o hb
  exact(u1.trans (.of_keeps fun b o hb=>Heap.get?_push_of_some nw hb)).trans (yR _ Vc de)
 have k1:B.StaysIn h1:=fun b o hb=>(so.2.1 b fun z=>by rw[(hl.mem z).1]at hb;cases hb).trans (hk b o hb)
 have k2:B.StaysIn (h1.push nw):=fun b o hb=>Heap.get?_push_of_some nw (k1 b o hb)
 refine q _ ⟨qV _ k2 hn,hn,lG hl up,_,_,h1.objs.size,nw,_,WT,⟨Obj.cls_mapFields _ _,by rw[Array.getElem?_setIfInBounds_ne (by decide)];exact h0⟩,Vd,by simp[hz],k1.fresh,Te,ZG,dn,?_⟩ ?_ up
 ·first | (simp;done) | (rcases ip with rfl | ⟨_,_,_,_,_,_,_,rfl⟩<;>simp)
 ·exact⟨_,_,WT,Vd,by rw[Array.getElem?_setIfInBounds_ne (by decide)];exact h2,(IL _ _).trans hz2⟩
theorem RG(hfr:A.frames=some (env::outer))(hf:env.frame=some L)(fl:Heap.FlyingW B (env::outer) e cls a0 s.heap)(h2:wL od c e s.heap)
 (q:∀ h',Heap.HeldW B (env::outer) e cls a0 L h'->wL od c e h'->s.heap.UpToSlots h'->Q () { s with heap:=h'}):wpAny M A (noteFrame (.ref e) env) Q E s:=by
 obtain⟨hk,hn,hl,oe,vs,T,oT,ts,ge,⟨hc,h0⟩,de,f1,nT,Te,gT,dT,f3⟩:=fl;obtain⟨o2,v2,g2,d2,k2,z2⟩:=h2;rw[ge]at g2;cases g2;rw[de]at d2;cases d2;cases hc;rw[noteFrame];simp only[hf];refine aQ (wpAny_field ge de f1 ?_);rw[if_pos (by simp)]
 refine aQ (wpAny_field gT dT f3 ?_);rw[if_neg (by simp[rawInt])]
 refine aQ (wpAny_setField gT dT (Array.getElem?_eq_some_iff.mp f3).1 ?_);have up:=yR (Obj.mapFields (·.setIfInBounds 3 Value.none)) gT dT;have TQ:=(Heap.get?_update_other s.heap (Obj.mapFields (·.setIfInBounds 3 Value.none)) Te).trans ge;exact IM (s:={ s with heap:=s.heap.update T (Obj.mapFields (·.setIfInBounds 3 Value.none))}) hfr (lG hl up) hf TQ (qV _ hk nT) hn de (Array.getElem?_eq_some_iff.mp f1).1 h0 k2 z2 fun h' x1 x2 x3=>q h' x1 x2 (up.trans x3)
theorem RH(x:Heap.FlyingW B (env::outer) e cls a0 s.heap):Heap.FlyingW B outer e cls a0 s.heap :=
 let⟨k1,k2,⟨_,_,k3⟩,k4⟩:=x
 ⟨k1,k2,k3,k4⟩
theorem leave_on2(hfr:A.frames=some (env::outer))(hf:env.frame=some L)(fl:Heap.FlyingW B (env::outer) e cls a0 s.heap)(h2:wL od c e s.heap)
 (q:∀ h',Heap.FlyingW B outer e cls a0 h'->wL od c e h'->s.heap.UpToSlots h'->Q () { s with heap:=h'}):wpAny M A (leaving env (.ref e)) Q E s:=by
 rw[leaving];refine aQ (RG hfr hf fl h2 fun h' x1 x2 x3=>?_)
 obtain⟨y1,y2,y3,y4⟩:=x1;exact Nt (s:={ s with heap:=h'}) y1 y2 y3 y4 x2 fun h'' z1 z2 z3=>q h'' (RH (s:={ s with heap:=h''}) z1) z2 (x3.trans z3)
theorem leave_new{oe:Obj}{vs:Array Value}(hfr:A.frames=some (env::outer))(hf:env.frame=some L)(hk:B.StaysIn s.heap)(hn:B.get? e=none)(hl:s.heap.FunFrames B (env::outer))(ge:s.heap.get? e=some oe)(de:oe.data = .fields vs)
 (h0:vs[0]?=some a0) (h1:vs[1]?=some .none) (h2:vs[2]?=some c) (hz2:oe.dict=od)
 (q:∀ h',Heap.FlyingW B outer e oe.cls a0 h'->wL od c e h'->s.heap.UpToSlots h'->Q () { s with heap:=h'}):wpAny M A (leaving env (.ref e)) Q E s:=by
 rw[leaving,noteFrame];simp only[hf];refine aQ (aQ (wpAny_field ge de h1 ?_));rw[if_neg (by decide)]
 refine IM (a0:=a0) hfr hl hf ge hk hn de (Array.getElem?_eq_some_iff.mp h1).1 h0 h2 hz2 fun h' x1 x2 x3=>?_
 obtain⟨y1,y2,y3,y4⟩:=x1;exact Nt (s:={ s with heap:=h'}) y1 y2 y3 y4 x2 fun h'' z1 z2 z3=>q h'' (RH (s:={ s with heap:=h''}) z1) z2 (x3.trans z3)
end
section
variable {P:Program}{w:World}{H H0 H1:Hp}{h h0 h1 h2:Heap}{a:Addr}{o:HO}{fs:List Addr}{B:Heap}
theorem bJ.thing(x:bJ P w H h a o):∃ ob,h.get? a=some ob:=by
 cases o with
 | lst xs=>obtain⟨_,_,_,_,e⟩:=x;exact⟨_,e⟩
 | tup xs=>obtain⟨_,_,_,ob,e,_⟩:=x;exact⟨ob,e⟩
 | dK kvs=>obtain⟨_,_,_,_,ob,_,_,e,_⟩:=x;exact⟨ob,e⟩
 | dT kvs=>obtain⟨_,_,_,_,ob,_,_,e,_⟩:=x;exact⟨ob,e⟩
 | set S n=>obtain⟨ob,_,_,_,e,_⟩:=x;exact⟨ob,e⟩
 | ins C dx fs=>obtain⟨_,_,_,e,_⟩:=x;exact⟨_,e⟩
 | own y=>exact x
 | xd fs=>obtain⟨_,⟨ob,_,_,e,_⟩,_⟩:=x;exact⟨ob,e⟩
 | FH lo hi=>obtain⟨_,_,_,e⟩:=x;exact⟨_,e⟩
 | mX ob u=>obtain⟨e,_⟩:=x;exact⟨_,e⟩
 | ju ps=>obtain⟨_,e,_⟩:=x;exact⟨_,e⟩
 | met f y=>exact⟨_,(show h.get? a=some _ from x)⟩
 | ext φ=>obtain⟨_,e,_⟩:=x;exact e
def Mb(B:Heap)(fs:List Addr)(h0:Heap)(H:Hp)(h:Heap):Prop:=∀ b o,h.get? b=some o->(H b≠none\/∃ o',h0.get? b=some o')->b∉fs->B.get? b=some o
theorem IP(un:Un fs [] H0 H1 h0 h1)(hok:nV P w H1 h1)(ZH:∀ b∈fs,H1 b=none)(fr:∀ b∈fs,∀ ob,h1.get? b=some ob->∀ vs,ob.data≠.fields vs)(Nu:Mb B fs h0 H1 h1)
 (hB:B.StaysIn h2) (up:h1.UpToSlots h2):Un fs [] H0 H1 h0 h2/\nV P w H1 h2/\Mb B fs h0 H1 h2:=by
 have RI:∀ b ob,h1.get? b=some ob->(H1 b≠none\/∃ o',h0.get? b=some o')->b∉fs->h2.get? b=some ob:=fun b ob e c n=>hB b ob (Nu b ob e c n)
 have Ql:∀ b u,H1 b=some u->b∉fs:=fun b u e z=>by
  rw[ZH b z]at e;cases e
 refine⟨⟨fun b ob e n hb hx=>RI b ob (un.keep b ob e n hb hx) (.inr ⟨ob,e⟩) hb,fun b ob e n hb hx=>?_,un.free,fun b ob e hx=>?_,un.tups,un.lC,un.mY⟩,fun b u e=>?_,fun b ob e c n=>?_⟩
 ·obtain⟨sl,q⟩:=un.slot b ob e n hb hx;obtain⟨TH,q'⟩:=up b _ q (fr b hb _ q);exact⟨TH,q'⟩
 ·obtain⟨o',q⟩:=un.there b ob e hx
  by_cases hb:b∈fs
  ·obtain⟨TH,q'⟩:=up b _ q (fr b hb _ q);exact⟨_,q'⟩
  ·exact⟨o',RI b o' q (.inr ⟨ob,e⟩) hb⟩
 ·refine(hok b u e).stay (fun c v hc q=>?_) (fun _ q=>q) fun _ _ q=>q
  have hct:∃ z,H1 c=some z:=by
   rcases hc with hc|hc
   ·rw[hc];exact⟨u,e⟩
   ·exact⟨_,hc⟩
  obtain⟨z,hz⟩:=hct;exact RI c v q (.inl (by rw[hz];simp)) (Ql c z hz)
 ·have ht:∃ o1,h1.get? b=some o1:=by
   rcases c with c|⟨o',c⟩
   ·cases hz:H1 b with
    | none=>exact absurd hz c
    | some z=>exact(hok b z hz).thing
   ·exact un.there b o' c (by simp)
  obtain⟨o1,q⟩:=ht;have q2:=Nu b o1 q c n;have q3:=hB b o1 q2;rw[e]at q3;rw[Option.some.inj q3];exact q2
end
def Ve(ea:Addr)(cls:Value):HO:=.ext fun h=>∃ oe vs,h.get? ea=some oe/\oe.cls=cls/\oe.data = .fields vs/\vs[2]?=some .none
def OE(E:XK)(cls:Value)(od:Option Addr)(c:Value)(H:Hp):Prop:=(c = .none/\(∃ C0:Addr,cls = .ref C0)/\E cls od H)\/∃ C e' C',cls = .ref C/\od=none/\c = .ref e'/\H e' = some (Ve e' C')/\E (.int (C:Int) e') none H
def IQ(P:Program)(w:World):HV:=fun outer H s E e s'=>∃(ea:Addr) (cls a0:Value) (od:Option Addr) (c:Value) (H' : Hp) (B:Heap),e = .ref ea/\s'.os=s.os/\AllBare s'.gens/\Un (frs outer) [] H H' s.heap s'.heap/\nV P w H' s'.heap/\H' ea=none/\
 Mb B (frs outer) s.heap H' s'.heap/\Heap.FlyingW B outer ea cls a0 s'.heap/\wL od c ea s'.heap/\OE E cls od c H'
structure Out(X:Cx)(E:XK):Prop where
 LJ:X.stack=X.env::X.outer
 fr:X.env.frame=some X.env.locals
 ex:X.ex=[]
 xe:∀ e s',wpAny (model X.prog X.w) X.A (leaving X.env e) (fun _ s''=>IQ X.prog X.w X.outer X.H₀ X.s₀ E e s'') (fun e' s''=>IQ X.prog X.w X.outer X.H₀ X.s₀ E e' s'') s'->X.xe e s'
def WU(X:Cx)(E:XK):Prop:=∀(pq:aR) (σ:St) (H:Hp) (s:Shared) (h1:Heap) (ea C0:Addr) (vs:List Value),Inv X pq σ H s->Heap.MadeExcOf s.heap h1 ea (.ref C0) vs->E (.ref C0) none H->X.xe (.ref ea) { s with heap:=h1}
section
variable {X:Cx}{E:XK}{pq:aR}{σ:St}{H:Hp}{s:Shared}
theorem Inv.OF(I:Inv X pq σ H s):∀ b∈X.fs,∀ ob,s.heap.get? b=some ob->∀ vs,ob.data≠.fields vs:=fun b hb ob e=>by
 obtain⟨_,o,ho,hnf⟩:=I.funs.mem hb;rw[e]at ho;cases ho;exact hnf
theorem Inv.OG(I:Inv X pq σ H s)(hx:X.ex=[]):∀ b∈X.fs,H b=none:=fun b hb=>by
 obtain⟨_,o,ho,_⟩:=I.ok.funs.mem hb;exact I.base.free b o ho (I.ok.Oa b hb) (by rw[hx];simp)
theorem Mb.outer{B h0:Heap}{h:Heap}(I:Inv X pq σ H s)(Nu:Mb B (frs X.stack) h0 H h)(k:∀ b o,X.s₀.heap.get? b=some o->∃ o',h0.get? b=some o'):Mb B X.fs X.s₀.heap H h:=fun b o e c n=>by
 refine Nu b o e (c.imp id fun⟨o',q⟩=>k b o' q) fun z=>?_
 rcases List.mem_cons.mp (I.uz b z) with q|q
 ·subst q;rcases c with c|⟨o',c⟩
  ·exact c I.free
  ·exact absurd (Nat.lt_of_lt_of_le (Heap.lt_size c) I.ok.above) (Nat.lt_irrefl _)
 ·exact n q
theorem EO(O:Out X E)(I:Inv X pq σ H s){B:Heap}{ea:Addr}{cls a0:Value}{od:Option Addr}{c:Value}{h2:Heap}(Nu:Mb B X.fs X.s₀.heap H s.heap)(fl:Heap.FlyingW B X.outer ea cls a0 h2)(sc:wL od c ea h2)(up:s.heap.UpToSlots h2)(hn:H ea=none)(q:OE E cls od c H):
 IQ X.prog X.w X.outer X.H₀ X.s₀ E (.ref ea) { s with heap:=h2}:=by
 have un:Un X.fs [] X.H₀ H X.s₀.heap s.heap:=by
  have u:=I.base;rw[O.ex]at u;exact u
 obtain⟨u2,ZI,c2⟩:=IP un I.hok (I.OG O.ex) I.OF Nu fl.1 up;exact⟨ea,cls,a0,od,c,H,B,rfl,I.os,I.bare,u2,ZI,hn,c2,fl,sc,q⟩
theorem Out.Vf(O:Out X E){ea:Addr}{oe:Obj}{vs:Array Value}{a0 c:Value}(I:Inv X pq σ H s)(ge:s.heap.get? ea=some oe)(de:oe.data = .fields vs)(h0:vs[0]?=some a0)(h1:vs[1]?=some .none)(h2:vs[2]?=some c)
 (hn:H ea=none) (new:X.s₀.heap.get? ea=none) (q:OE E oe.cls oe.dict c H):X.xe (.ref ea) s:=by
 refine O.xe _ _ ?_;have hfr:X.A.frames=some (X.env::X.outer):=by rw[I.ok.frames,O.LJ]
 have hl:s.heap.FunFrames (PySem.W.hideAll s.heap (ea::frs X.stack)) (X.env::X.outer):=by
  have z:=PySem.W.funFrames_hide (as:=ea::frs X.stack) I.stack fun env he b hb=>kU _ (List.mem_filterMap.mpr ⟨env,he,hb⟩)
  rw[O.LJ]at z ⊢;exact z
 refine leave_new hfr O.fr (fun b o e=>PySem.W.of_hideAll _ e) (PySem.W.hideAll_none _ (List.mem_cons_self ..)) hl ge de h0 h1 h2 rfl fun h3 fl sc up=>?_
 refine EO O I (Mb.outer I (h0:=X.s₀.heap) (fun b o e c n=>?_) fun b o e=>⟨o,e⟩) fl sc up hn q
 refine PySem.W.hideAll_get _ e fun z=>?_
 rcases List.mem_cons.mp z with z|z
 ·subst z;rcases c with c|⟨o',c⟩
  ·exact c hn
  ·rw[new]at c;cases c
 ·exact n z
theorem Out.Vg(O:Out X E){ea:Addr}{oe:Obj}{vs:Array Value}{a0:Value}(I:Inv X pq σ H s)(ge:s.heap.get? ea=some oe)(de:oe.data = .fields vs)(h0:vs[0]?=some a0)(h1:vs[1]?=some .none)(h2:vs[2]?=some .none)
 (hn:H ea=none) (new:X.s₀.heap.get? ea=none) (hcl:∃ C0:Addr,oe.cls = .ref C0) (q:E oe.cls oe.dict H):X.xe (.ref ea) s:=O.Vf I ge de h0 h1 h2 hn new (.inl ⟨rfl,hcl,q⟩)
theorem Out.RJ(O:Out X E):WU X E:=by
 intro pq σ H s h1 ea C0 vs I mk q;have I1:Inv X pq σ H { s with heap:=h1}:=I.kept (t':=s.toks) mk.keeps
 have hn:H ea=none:=by
  cases hz:H ea with
  | none=>rfl
  | some z =>
    obtain⟨ob,e⟩:=(I.hok ea z hz).thing;rw[mk.new]at e;cases e
 obtain⟨t,ge,_,_⟩:=mk.there;refine O.Vg I1 (a0:=.ref t) ge rfl rfl rfl rfl hn ?_ ⟨_,rfl⟩ q;cases hz:X.s₀.heap.get? ea with
 | none=>rfl
 | some o =>
   obtain⟨o',e⟩:=I.base.there ea o hz (by rw[O.ex];simp)
   rw[mk.new]at e;cases e
theorem Inv.RK{H' : Hp}{s' : Shared}(I:Inv X pq σ H s)(os:s'.os=s.os)(bare:AllBare s'.gens)(un:Un (frs X.stack) [] H H' s.heap s'.heap)(hok:nV X.prog X.w H' s'.heap):Inv X pq σ H' s' :=
 I.Ii (ch:=[]) os un hok bare fun b z=>absurd z (by simp)
theorem Out.passes(O:Out X E):Passes (IQ X.prog X.w) X E:=by
 intro pq σ H s e s' I q;obtain⟨ea,cls,a0,od,c,H',B,rfl,os,bare,un,hok,hn,Nu,fl,sc,qE⟩:=q;have I1:=I.RK os bare un hok;refine O.xe _ _ ?_;have hfr:X.A.frames=some (X.env::X.outer):=by rw[I.ok.frames,O.LJ]
 rw[O.LJ]at fl;refine leave_on2 hfr O.fr fl sc fun h2 ZJ ZK up=>?_
 exact EO O I1 (Mb.outer I1 Nu fun b o e=>I.base.there b o e (by rw[O.ex];simp)) ZJ ZK up hn qE
end
theorem dm{P:Program}{w:World}{K:bW}{mg:oQ}{base:Heap}{N:List Str}{qual:Str}{scope:Scope}{f:Addr}{cd:Value}{A:Around}{outer:List Env}{s:Shared}{H:Hp}{E:XK}:
 Out (tI (IQ P w) P w K mg base N qual scope f cd A outer s H E) E:=⟨rfl,rfl,rfl,fun _ _ h=>h⟩
theorem L6.AE{P:Program}{w:World}{K:bW}{mg:oQ}{base:Heap}{x qual:Str}{st:Stmt}{f:Addr}{fd:FuncData}{N ps:List Str}{k:Nat}{sp:Sp}(F:L6 K x qual st f fd)(S:aD N ps (ai st))
 (len:∀ vs H Q E,sp vs H Q E->vs.length=ps.length)
 (hbody:∀(cdv:Value) (A:Around) (outer:List Env) (s:Shared) (H:Hp) (vs:List V) (Q:VK) (E:XK),fH k (A.deeper (envOfC qual (ai st) s.heap.objs.size f cdv))->sp vs H Q E->
  ∃ t,xJ (tI (IQ P w) P w K mg base N qual (ai st) f cdv A outer s H E) (b9 st) t/\t { nx:=fun _ H'=>Q .fD H',rt:=Q} (start N vs) H):m5 P w K mg base (IQ P w) (k+1) f fd ps sp:=by
 obtain⟨oc,od,kV,doc,pm,an,cdv,ct,osl,rfl,lk,hcd⟩:=F.ex;exact Iv lk hcd S len fun A outer s H vs Q E hr qO=>hbody cdv A outer s H vs Q E hr qO
section
variable {X:Cx}{E:XK}
def OH(C:Addr)(E:XK)(t:TA):TS:=fun _ σ H=>t σ H fun vs H1=>vs.length<=sizeLine/\E (.ref C) none H1
theorem m9{x:Str}{C:Addr}{bm:List Value}{B newId initId:String}{e:Expr}{es:List Expr}{ta:TA}{np cpos pos:Pos}(th:WU X E)(hc:X.calm=true)(hg:Gl X x)(O:∀ h,X.K.In h->h.Ns mainGlobals X.mg->OwnCls x C bm newId X.mg h)
 (FB:ExcBaseFacts B newId initId bm) (ha:PA X (e::es) ta) (he:starEach (e::es) X.env=(false,eval e X.env)::starEach es X.env:=by rfl) (hpl:(backTo cpos (starEach es X.env)).any (·.1)=false:=by rfl)
 (hd:(x==("__debug__":Str))=false:=by decide):PS X (.Raise (some (.Call (.Name x np) (e::es) [] cpos)) none pos) (OH C E ta):=by
 intro pq s σ H D I h;have OC:=O _ I.mod.Tw I.mod.glob;obtain⟨tl,N,nm,q,bs,hdct,sn,sub,ab,col,dd,k0,k1,k2,k3,k5,mN,hC,hN,hni,T⟩:=OC.obj;refine wpAny_Raise_call_subT (C:=C) (nm:=nm) (q:=q) (N:=N) (bs:=bs) (bm:=tl) (hdct:=hdct) (sn:=sn) (sub:=sub) (ab:=ab) (col:=col) (dd:=dd) (k0:=k0) (k1:=k1) (k2:=k2) (k3:=k3) (k5:=k5)
  FB (mN:=mN) (T.hasType FB.hasBase) (I.ok.hd hc) (by rw[he];show(false || (backTo cpos (starEach es X.env)).any (·.1))=false;rw[hpl];rfl) hni (yJ I hg OC.bound ⟨rfl,?_⟩ hd)
 have hA:=ha cpos pq s σ H _ I h;rw[he]at hA ⊢;refine Calls.evalArgs_plain (wpAny_mono hA (fun us s1 ⟨vs,H1,I1,r1,z,q1⟩=>?_) fun _ _ y=>y)
 exact⟨rfl,by rw[<-r1.length];exact z,I1.bk _ _ hC,hN.keeps I1.bk,T.keeps I1.bk,fun h' ea hm=>th pq σ H1 s1 h' ea _ us I1 hm q1⟩
end
open PySem PySem.Spec PySem.Calls PyProof.Rows PySem.W PySem.Builtin PySem.Builtin.ObjectAttr PySem.Builtin.Getset_descriptor
section
variable {X:Cx}
def RL(K:bW):V->V->Hp->VK->Prop:=fun o i H Q=>∃ p xs j v,o = .ref p/\i = .int ((j:Nat):Int)/\aM K H p xs/\xs[j]?=some v/\Q v H
theorem getL(K:bW)(hK:X.K=K:=by rfl):Q4 X (RL K):=by
 subst hK;intro pq s σ H o i ov iv Q I ro ri h;obtain⟨p,xs,j,v,rfl,rfl,hq,e,q⟩:=h;cases ro;obtain⟨t,rfl⟩:=ri;obtain⟨its,r,pl,hz⟩:=I.list hq;obtain⟨u,eu,ru⟩:=r.get e;have hj:j<xs.length:=(jQ.mp e).1;have hn:=uH;exact wpAny_getItem_list pl.isList (by lia) (by lia) (by simpa using eu) ⟨v,H,I,ru,q⟩
def RN(K:bW):R2:=fun x y H Q=>∃ l b xs zs,x = .ref l/\y = .ref b/\aM K H l xs/\aM K H b zs/\xs.length+zs.length<=sizeLine/\∀ p,H p=none->Q (.ref p) (upd H p (.lst (xs++zs)))
theorem RO(K:bW)(hK:X.K=K:=by rfl):mU X (binaryOp .Add) (RN K):=by
 subst hK;intro pq s σ H x y v u Q I rx ry h;obtain⟨l,b,xs,zs,rfl,rfl,hH,hB,hz,q⟩:=h;cases rx;cases ry;obtain⟨its,r,pl,_⟩:=I.list hH;obtain⟨its2,r2,TR,_⟩:=I.list hB;obtain⟨⟨cls,dd,data,sl⟩,n,e,hc,_,hd⟩:=pl;obtain⟨⟨Ri,dd2,data2,sl2⟩,n2,e2,hc2,_,hd2⟩:=TR;simp only at hc hd hc2 hd2;subst hc hd hc2 hd2;have l1:=r.length;have l2:=r2.length;have ea:its.toArray++its2.toArray=(its++its2).toArray:=by simp
 refine concat_meets ⟨_,e,rfl⟩ ⟨_,e2,rfl⟩ noFill_list_add seq_list_add PySem.F.slot_list_add PySem.F.entry_list_add (PySem.F.args_list_add_2 _ _)
  (list_addW l b its.toArray its2.toArray n n2 dd dd2 sl sl2 (by rw[List.size_toArray,List.size_toArray];lia)) ⟨e,e2,?_⟩
 rw[ea];exact⟨.ref _,_,I.Rq (t':=s.toks) (r.append r2) (by rw[List.length_append];lia),rfl,q _ I.fresh⟩
end
section
variable {X:Cx}{tg:Expr}
theorem ud{iter:Expr}{body:List Stmt}{wi:TI}{g:TG}{tb:TS}{pos:Pos}(hc:X.calm=true)(hi:PI X tg iter wi)(hg:PG X.Cy tg g)(hb:xJ X.Cy body tb)(hs:∀ x,foldedSetIterable iter X.env x=pure x:=by intro _;rfl):
 PS X (.For tg iter body [] pos) (dF wi g tb):=by
 intro pq s σ H D I h;refine wpAny_For (dH (hi pq s σ H _ I h) fun v s1 h1=>dH h1 fun itv s2 h2=>?_) hs
 obtain⟨it,fp,tn,J,H2,e,I2,T,st2,f2,W,⟨m0,w0⟩,turn⟩:=h2;subst e;have CL:∀{H' : Hp},(∀ b∈fp,H' b=none)->∀ b∈fp,o9 X.Cy pq H' b:=fun hn b hb=>⟨hn b hb,(f2 b hb).2⟩
 refine codeAny_forLoop_any (fun n s'=>∃ i σ' H',Inv X.Cy pq σ' H' s'/\tn i s'.heap/\(∀ b∈fp,H' b=none)/\W i n σ' H') ?_ m0 ⟨0,σ,H2,I2.uB _,st2,fun b hb=>(f2 b hb).1,w0⟩
 rintro n s3 ⟨i,σ3,H3,I3,st3,Nk,w3⟩;rcases turn i n σ3 H3 w3 with⟨stop,qn⟩|⟨go,N,hN,step⟩
 ·refine wpAny_mono (T.done X.Cy rfl rfl rfl hc i pq s3 σ3 H3 (fun _ _=>False) I3 (CL Nk) st3 stop) (fun r s4 ⟨hr,I4⟩=>?_) fun _ _ z=>z.elim
  subst hr;exact wpAny_execs_nil ⟨σ3,H3,I4.jv,qn⟩
 ·refine wpAny_mono (T.item X.Cy rfl rfl rfl hc i pq s3 σ3 H3 (fun _ _=>False) I3 (CL Nk) st3 go) (fun r s4 ⟨u,hr,h4⟩=>?_) fun _ _ z=>z.elim
  subst hr;refine wpAny_mono h4 (fun _ s5 ⟨x,H5,I5,r5,y5,Io,Q8⟩=>?_) fun _ _ z=>z.elim
  have Q9:=I5.pinned (CL Q8) (T.obj _ _ Io);refine wpAny_mono (hg _ s5 σ3 H5 x u _ Q9 r5 (step x H5 y5)) (fun _ s6 ⟨σ6,H6,I6,q6⟩=>?_) fun _ _ z=>z.elim
  refine wpAny_mono (hb _ s6 σ6 H6 _ I6 q6) (fun f s7 q7=>?_) fun _ _ z=>z.elim
  have again:∀{σ7:St} {H7:Hp},Inv X.Cy (pq++qR fp s5.heap) σ7 H7 s7->N σ7 H7->∃ m,m<n/\∃ i σ' H',Inv X.Cy pq σ' H' s7/\tn i s7.heap/\(∀ b∈fp,H' b=none)/\W i m σ' H':=fun {σ7 H7} I7 n7=>by
   obtain⟨m',hm,w7⟩:=hN σ7 H7 n7;refine⟨m',hm,i+1,σ7,H7,I7.jw,T.keep _ _ _ Io fun b hb o e=>(I7.pin (b,o) (i9 _ (i9 _ (g7 hb e)))).1,fun b hb=>?_,w7⟩
   obtain⟨o,e,d⟩:=T.obj _ _ Io b hb;exact(I7.pin (b,o) (i9 _ (i9 _ (g7 hb e)))).2.1
  cases f with
  | next=>obtain⟨σ7,H7,I7,n7⟩:=q7;exact again I7 n7
  | cont=>obtain⟨σ7,H7,I7,n7⟩:=q7;exact again I7 n7
  | brk=>obtain⟨σ7,H7,I7,q7⟩:=q7;exact⟨σ7,H7,I7.jw.jv,q7⟩
  | ret v=>obtain⟨x7,σ7,H7,I7,r7,q7⟩:=q7;exact⟨x7,σ7,H7,I7.jw.jv,r7,q7⟩
theorem jV{P:Program}{w:World}{X:Cx}:Passes (IQ P w) X (fun _ _ _=>False):=by
 intro pq σ H s e s' I q;obtain⟨_,_,_,_,_,_,_,_,_,_,_,_,_,_,_,_,z⟩:=q;rcases z with⟨_,_,z⟩|⟨_,_,_,_,_,_,_,z⟩
 ·exact z.elim
 ·exact z.elim
end
theorem uN{K:bW}{h:Heap}{mg:oQ}{x:Str}{C:Addr}{bmB:List Value}{newId:String}(X:K.In h)(G:h.Ns mainGlobals mg)(e:PySem.W.nsIn K mainGlobals x=some (some (.ref C)))(q:PySem.W.excIn K C bmB newId=true):
 OwnCls x C bmB newId mg h:=by
 refine⟨PySem.W.mg_of X G e,?_⟩;unfold PySem.W.excIn at q
 split at q
 ·rename_i od cd sl look
  split at q
  ·rename_i Cx bm j0 j1 j2 j3 nw j5 hmro hsl
   simp only[Bool.and_eq_true,beq_iff_eq,Bool.not_eq_true']at q;obtain⟨⟨⟨⟨⟨rfl,rfl⟩,RP⟩,ht⟩,hok⟩,hni⟩:=q;obtain⟨nm,bs,mro,ns,qn,hd,sn,sub,ab,col,del⟩:=cd
   (dsimp only at hmro RP hok hni;subst hmro RP)
   have hs2:sl = #[j0,j1,j2,j3,some (.builtin nw),j5]:=by
    obtain⟨l⟩:=sl;simp only at hsl;rw[hsl]
   subst hs2;exact⟨bm,ns,nm,qn,bs,hd,sn,sub,ab,col,od,j0,j1,j2,j3,j5,_,X _ _ look,.of_isNs (PySem.W.isNs_of_in X hok),PySem.W.nsMap_none_of_in X hok hni,PySem.W.tail_of_in X ht⟩
  ·cases q
 ·cases q
theorem Vh{α:Type}:∀ us:List α,us.length=1->∃ a,us=[a]
 | [_],_=>⟨_,rfl⟩
theorem Vi{α:Type}:∀ us:List α,us.length=2->∃ a b,us=[a,b]
 | [_,_],_=>⟨_,_,rfl⟩
theorem Vj{α:Type}:∀ us:List α,us.length=3->∃ a b c,us=[a,b,c]
 | [_,_,_],_=>⟨_,_,_,rfl⟩
theorem Vk{α:Type}:∀ us:List α,us.length=4->∃ a b c d,us=[a,b,c,d]
 | [_,_,_,_],_=>⟨_,_,_,_,rfl⟩
section
variable {X:Cx}{pq:aR}{σ:St}{H:Hp}{s:Shared}{h' : Heap}
theorem Inv.yields{t' : Nat}{wr:List Addr}{T:Addr}{o:HO}(I:Inv X pq σ H s)(k:∀ b u,b∉wr->s.heap.get? b=some u->h'.get? b=some u)(hf:∀ b∈wr,o9 X pq H b)(hT:s.heap.objs.size<=T)
 (new:bJ X.prog X.w (upd H T o) h' T o):Inv X pq σ (upd H T o) { s with heap:=h',toks:=t'}:=by
 have WV:H T=none:=I.hok.fresh hT;have nT:∀ b u,H b=some u->b≠T:=fun b u e=>bq e WV
 have nw:∀ b u,H b=some u->b∉wr:=fun b u e hb=>by rw[(hf b hb).1]at e;cases e
 refine I.step (g':=s.gens) (d':=s.drawn) (ch:=wr) (fun b hb=>?_) (fun b o _ _ hc e _=>k b o hc e) (fun b o _ _ hc e _=>⟨o.slots,k b o hc e⟩) (fun b u hc e n=>?_)
  (fun b o hc e=>⟨o,k b o hc e⟩) (fun b xs e=>?_) (fun b ob xs e=>?_) (fun b ps e=>⟨#[],?_⟩) (fun m hm=>?_) (fun b u e=>?_) I.bare
 ·obtain⟨_,f1,_,f3,f4,f5⟩:=hf b hb;exact⟨f3,f1,f4,f5⟩
 ·rw[ao (Nat.ne_of_lt (Nat.lt_of_lt_of_le (Heap.lt_size e) hT))];exact n
 ·rw[ao (nT b _ e)];exact e
 ·rw[ao (nT b _ e)];exact e
 ·rw[ao (nT b _ e),e];simp
 ·obtain⟨o,es,ep,ho,r⟩:=hm;exact⟨o,es,ep,k _ o (fun hb=>(hf _ hb).2.1 rfl) ho,r⟩
 ·by_cases hb:b=T
  ·subst hb;rw[ae]at e;cases e;exact new
  ·rw[ao hb]at e;refine(I.hok b u e).stay (fun c v hc q=>k c v ?_ q) (fun c q=>by rw[ao (nT c _ q)];exact q) fun c xs q=>by rw[ao (nT c _ q)];exact q
   rcases hc with z|z
   ·rw[z];exact nw b u e
   ·exact nw c _ z
theorem Inv.Mc{t' : Nat}{wr:List Addr}(I:Inv X pq σ H s)(k:∀ b u,b∉wr->s.heap.get? b=some u->h'.get? b=some u)(hf:∀ b∈wr,o9 X pq H b):Inv X pq σ H { s with heap:=h',toks:=t'}:=by
 have nw:∀ b u,H b=some u->b∉wr:=fun b u e hb=>by rw[(hf b hb).1]at e;cases e
 refine I.step (g':=s.gens) (d':=s.drawn) (ch:=wr) (fun b hb=>?_) (fun b o _ _ hc e _=>k b o hc e) (fun b o _ _ hc e _=>⟨o.slots,k b o hc e⟩) (fun _ _ _ _ n=>n)
  (fun b o hc e=>⟨o,k b o hc e⟩) (fun _ _ e=>e) (fun _ _ _ e=>e) (fun b ps e=>⟨#[],by rw[e];simp⟩) (fun m hm=>?_) (fun b u e=>?_) I.bare
 ·obtain⟨_,f1,_,f3,f4,f5⟩:=hf b hb;exact⟨f3,f1,f4,f5⟩
 ·obtain⟨o,es,ep,ho,r⟩:=hm;exact⟨o,es,ep,k _ o (fun hb=>(hf _ hb).2.1 rfl) ho,r⟩
 ·refine(I.hok b u e).stay (fun c v hc q=>k c v ?_ q) (fun _ q=>q) fun _ _ q=>q
  rcases hc with z|z
  ·rw[z];exact nw b u e
  ·exact nw c _ z
end
def Qs(K:bW)(a:Addr):It :=
 ⟨fun i H=>∃ xs x,aM K H a xs/\xs[i]?=some x,fun i H v H'=>∃ T x,v = .ref T/\H T=none/\H' = upd H T (.tup [.int (i:Int),x])/\∀ xs,aM K H a xs->xs[i]?=some x,fun i H=>∃ xs,aM K H a xs/\xs.length<=i⟩
theorem F1{P:Program}{w:World}{K:bW}{elts:List Expr}{k:Nat}{pos:Pos}(a e it:Addr)(hne:e≠it):
 Turn P w K (.Tuple elts k pos) (Qs K a) [e,it] e (fun i h=>(∃ old,IsEnum h e it (i:Int) old)/\h.IsListIter it a i) where
 mem:=by simp
 obj:=fun i h st b hb=>by
  obtain⟨⟨old,he⟩,o,ho,c,d⟩:=st;have hb' : b=e\/b=it:=by simpa using hb
  rcases hb' with rfl|rfl
  ·exact⟨_,he,fun v z=>by cases z⟩
  ·exact⟨o,ho,fun v z=>by rw[d]at z;cases z⟩
 keep:=fun i h h' st k=>by
  obtain⟨⟨old,he⟩,hit⟩:=st;exact⟨⟨old,k e (by simp) _ he⟩,hit.at fun o x=>k it (by simp) o x⟩
 item:=by
  intro X hP hw hK hc i pq s σ H E I hf st hg;subst hP hw hK;obtain⟨xs,x,hq,hx⟩:=hg;obtain⟨its,rv,p,hz⟩:=I.list hq;obtain⟨u,hu,ru⟩:=rv.get hx;obtain⟨⟨old,he⟩,hit⟩:=st;refine wpAny_pyNext_enum_item he hit p.isList (x:=u) (by simpa using hu) hne fun h1 ho OI hT hsz hk=>?_
  refine⟨_,rfl,wpAny_letOwnedTupleGo_enum ho fun h2 Me hs2=>?_⟩
  have RQ:s.heap.objs.size≠e:=Nat.ne_of_gt (Heap.lt_size he);have hT2:h2.get? s.heap.objs.size=some { cls:=.type "tuple",data:=.seq #[.int i s.toks,u]}:=(hs2.2 _ RQ).trans hT;refine⟨.ref s.heap.objs.size,upd H s.heap.objs.size (.tup [.int (i:Int),x]),I.yields (wr:=[e,it]) (t':=s.toks+1) (fun b o hb q=>?_) hf (Nat.le_refl _) ?_,rfl,⟨_,x,rfl,I.fresh,rfl,fun ys hy=>by rw[I.p5 hy hq];exact hx⟩,⟨⟨u,by simpa using Me⟩,?_⟩,fun b hb=>?_⟩
  ·have IS:b≠e:=fun z=>hb (by simp[z])
   have OJ:b≠it:=fun z=>hb (by simp[z])
   exact(hs2.2 b IS).trans (hk b o IS OJ q)
  ·exact⟨dl rfl,[.int i s.toks,u],.cons ⟨_,rfl⟩ (.cons ru .nil),⟨_,hT2,rfl,_,rfl⟩⟩
  ·exact OI.at fun o q=>(hs2.2 it (Ne.symm hne)).trans q
  ·rw[ao]
   ·exact(hf b hb).1
   ·have hb' : b=e\/b=it:=by simpa using hb
    rcases hb' with rfl|rfl
    ·exact Ne.symm RQ
    ·obtain⟨o,q,_⟩:=hit;exact Nat.ne_of_lt (Heap.lt_size q)
 done:=by
  intro X hP hw hK hc i pq s σ H E I hf st hg;subst hP hw hK;obtain⟨xs,hq,hx⟩:=hg;obtain⟨its,rv,p,hz⟩:=I.list hq;obtain⟨⟨old,he⟩,hit⟩:=st;obtain⟨f0,f1,f2,f3,f4,f5⟩:=hf it (by simp)
  have hl:=rv.length;exact wpAny_pyNext_enum_end (I.ok.hd hc) he hit p.isList (by simp;lia) fun h' eb=>⟨rfl,I.turned (t':=s.toks) (fun b o hb e=>eb b o hb e) f0 f1 f3 f4 f5⟩
 self:=fun _ _ _ _ _ st h=>by
  obtain⟨⟨old,he⟩,_⟩:=st;exact wpAny_pyIter_enum he h
def Vl(K:bW)(a b:Addr):It :=
 ⟨fun i H=>∃ xs ys x y,aM K H a xs/\aM K H b ys/\xs[i]?=some x/\ys[i]?=some y,
  fun i H v H'=>∃ T x y,v = .ref T/\H T=none/\H' = upd H T (.tup [x,y])/\(∀ xs,aM K H a xs->xs[i]?=some x)/\∀ ys,aM K H b ys->ys[i]?=some y,
  fun i H=>∃ xs ys,aM K H a xs/\aM K H b ys/\(xs.length<=i\/ys.length<=i)⟩
theorem IT{P:Program}{w:World}{K:bW}{elts:List Expr}{k:Nat}{pos:Pos}(a b z TI TO i1 i2:Addr)(D:ZipApart z TI TO i1 i2 a b):
 Turn P w K (.Tuple elts k pos) (Vl K a b) [z,TI,TO,i1,i2] z (fun i h=>IsZip h z TI TO .none/\IsPair h TI (.ref i1) (.ref i2)/\(∃ u v,IsPair h TO u v)/\h.IsListIter i1 a i/\h.IsListIter i2 b i) where
 mem:=by simp
 obj:=fun i h st c hc=>by
  obtain⟨hz,hI,⟨u,v,hO⟩,⟨o1,Lr,_,d1⟩,o2,ho2,_,d2⟩:=st;have hc' : c=z\/c=TI\/c=TO\/c=i1\/c=i2:=by simpa using hc
  rcases hc' with rfl|rfl|rfl|rfl|rfl
  ·exact⟨_,hz,fun v z=>by cases z⟩
  ·exact⟨_,hI,fun v z=>by cases z⟩
  ·exact⟨_,hO,fun v z=>by cases z⟩
  ·exact⟨o1,Lr,fun v z=>by rw[d1]at z;cases z⟩
  ·exact⟨o2,ho2,fun v z=>by rw[d2]at z;cases z⟩
 keep:=fun i h h' st k=>by
  obtain⟨hz,hI,⟨u,v,hO⟩,h1,h2⟩:=st;exact⟨k z (by simp) _ hz,k TI (by simp) _ hI,⟨u,v,k TO (by simp) _ hO⟩,h1.at fun o e=>k i1 (by simp) o e,h2.at fun o e=>k i2 (by simp) o e⟩
 item:=by
  intro X hP hw hK hc i pq s σ H E I hf st hg;subst hP hw hK;obtain⟨xs,ys,x,y,hq,hq2,hx,hy⟩:=hg;obtain⟨its,rv,p,ZL⟩:=I.list hq;obtain⟨its2,TU,p2,Vm⟩:=I.list hq2;obtain⟨u,hu,ru⟩:=rv.get hx;obtain⟨u2,ZM,ZN⟩:=TU.get hy;obtain⟨hz,hI,⟨v1,v2,hO⟩,h1,h2⟩:=st;refine wpAny_pyNext_zip_item D hz hI hO h1 h2 p.isList p2.isList (x:=u) (y:=u2) (by simpa using hu) (by simpa using ZM) fun h3 ZO ZP ZQ ZR hT hsz hk=>?_
  refine⟨_,rfl,wpAny_letOwnedTupleGo_zip ZO fun h4 ZS IU=>?_⟩
  have lt:∀{c o},s.heap.get? c=some o->s.heap.objs.size≠c:=fun e=>Nat.ne_of_gt (Heap.lt_size e)
  have TV:h4.get? s.heap.objs.size=some { cls:=.type "tuple",data:=.seq #[u,u2]}:=(IU.2 _ (lt hz)).trans hT;have kk:∀ c o,c∉[z,TO,i1,i2]->s.heap.get? c=some o->h4.get? c=some o:=fun c o hc q=>by
   have c1:c≠z:=fun e=>hc (by simp[e])
   exact(IU.2 c c1).trans (hk c o c1 (fun e=>hc (by simp[e])) (fun e=>hc (by simp[e])) (fun e=>hc (by simp[e])) q)
  have hsub:∀ c∈[z,TO,i1,i2],c∈[z,TI,TO,i1,i2]:=fun c hc=>by
   have hc' : c=z\/c=TO\/c=i1\/c=i2:=by simpa using hc
   rcases hc' with rfl|rfl|rfl|rfl<;>simp
  refine⟨.ref s.heap.objs.size,upd H s.heap.objs.size (.tup [x,y]),I.yields (wr:=[z,TO,i1,i2]) (t':=s.toks) kk (fun c hc=>hf c (hsub c hc)) (Nat.le_refl _) ?_,rfl,
   ⟨_,x,y,rfl,I.fresh,rfl,fun zs hy=>by rw[I.p5 hy hq];exact hx,fun zs hz=>by rw[I.p5 hz hq2];exact hy⟩,⟨ZS,(IU.2 _ D.TIz).trans (hk _ _ D.TIz D.TITO D.TIi1 D.TIi2 hI),⟨u,u2,(IU.2 _ D.TOz).trans ZP⟩,?_,?_⟩,fun c hc=>?_⟩
  ·exact⟨dl rfl,[u,u2],.cons ru (.cons ZN .nil),⟨_,TV,rfl,_,rfl⟩⟩
  ·exact ZQ.at fun o q=>(IU.2 _ D.i1z).trans q
  ·exact ZR.at fun o q=>(IU.2 _ D.i2z).trans q
  ·rw[ao]
   ·exact(hf c hc).1
   ·have hc' : c=z\/c=TI\/c=TO\/c=i1\/c=i2:=by simpa using hc
    rcases hc' with rfl|rfl|rfl|rfl|rfl
    ·exact Ne.symm (lt hz)
    ·exact Ne.symm (lt hI)
    ·exact Ne.symm (lt hO)
    ·obtain⟨o,q,_⟩:=h1;exact Ne.symm (lt q)
    ·obtain⟨o,q,_⟩:=h2;exact Ne.symm (lt q)
 done:=by
  intro X hP hw hK hc i pq s σ H E I hf st hg;subst hP hw hK;obtain⟨xs,ys,hq,hq2,hx⟩:=hg;obtain⟨its,rv,p,ZL⟩:=I.list hq;obtain⟨its2,TU,p2,Vm⟩:=I.list hq2;obtain⟨hz,hI,⟨v1,v2,hO⟩,h1,h2⟩:=st;have hl:=rv.length;have hl2:=TU.length;have hsub:∀ c∈[z,TO,i1,i2],c∈[z,TI,TO,i1,i2]:=fun c hc=>by
   have hc' : c=z\/c=TO\/c=i1\/c=i2:=by simpa using hc
   rcases hc' with rfl|rfl|rfl|rfl<;>simp
  refine wpAny_pyNext_zip_end (I.ok.hd hc) D hz hI hO h1 h2 p.isList p2.isList (hx.imp (fun q=>by simp;lia) fun q=>by simp;lia) fun h' kk=>⟨rfl,I.Mc (wr:=[z,TO,i1,i2]) (t':=s.toks) (fun c o hc q=>?_) fun c hc=>hf c (hsub c hc)⟩
  exact kk c o (fun e=>hc (by simp[e])) (fun e=>hc (by simp[e])) (fun e=>hc (by simp[e])) (fun e=>hc (by simp[e])) q
 self:=fun _ _ _ _ _ st h=>wpAny_pyIter_zip st.1 h
theorem F3{n a b:Nat}(la:a<n)(lb:b<n):ZipApart (n+4) (n+2) (n+3) n (n+1) a b:=by
 have k:∀{x y:Nat},x<y\/y<x->x≠y:=fun h=>by lia
 constructor<;>exact k (by lia)
section
variable {X:Cx}{elts:List Expr}{n:Nat}{tp:Pos}
def RS(K:bW)(ta:TA):TI:=fun σ H R=>ta σ H fun vs H1=>∃ a,vs=[.ref a]/\(∃ xs,aM K H1 a xs)/\R (Qs K a) H1
def Vn(K:bW)(ta:TA):TI:=fun σ H R=>ta σ H fun vs H1=>∃ a b,vs=[.ref a,.ref b]/\(∃ xs,aM K H1 a xs)/\(∃ ys,aM K H1 b ys)/\R (Vl K a b) H1
theorem ER(K:bW){a:Expr}{ta:TA}{p pos:Pos}(hg:Gl X "enumerate")(hm:X.mg "enumerate"=none)(ha:PA X [a] ta)(hs:starEach [a] X.env=[(false,eval a X.env)]:=by rfl)(hK:X.K=K:=by rfl):
 PI X (.Tuple elts n tp) (.Call (.Name "enumerate" p) [a] [] pos) (RS K ta):=by
 subst hK;intro pq s σ H R I h;refine Call_ (lD I hg hm boot_enumerate (PyProof.Rows.callWith_type1 (dH (ha pos pq s σ H _ I h) fun us s1 ⟨vs,H1,I1,r1,q1⟩=>?_) hs rfl))
 obtain⟨a,e,⟨xs,hq⟩,q⟩:=q1;subst e;cases r1 with
 | cons r rr =>
   cases rr;cases r;obtain⟨its,rv,pl,hz⟩:=I1.list hq;refine call_enumerate_list pl.isList fun h' he hit hsz hk=>?_
   have I2:Inv X pq σ H1 { s1 with heap:=h'}:=I1.kept (t':=s1.toks) hk
   refine wpAny_pyIter_enum he ⟨_,[s1.heap.objs.size+1,s1.heap.objs.size],_,_,H1,rfl,I2,F1 a _ _ (Nat.succ_ne_self _),⟨⟨_,he⟩,hit⟩,fun b hb=>?_,q⟩
   have hb' : b=s1.heap.objs.size+1\/b=s1.heap.objs.size:=by simpa using hb
   have RT:s1.heap.objs.size<=b:=by
    rcases hb' with rfl|rfl
    ·exact Nat.le_succ _
    ·exact Nat.le_refl _
   exact I1.CI RT (I1.hok.fresh RT)
theorem IV(K:bW){a b:Expr}{ta:TA}{p pos:Pos}(hg:Gl X "zip")(hm:X.mg "zip"=none)(ha:PA X [a,b] ta)(hs:starEach [a,b] X.env=[(false,eval a X.env),(false,eval b X.env)]:=by rfl)(hs2:starEach [b] X.env=[(false,eval b X.env)]:=by rfl)(hK:X.K=K:=by rfl):
 PI X (.Tuple elts n tp) (.Call (.Name "zip" p) [a,b] [] pos) (Vn K ta):=by
 subst hK;intro pq s σ H R I h;refine Call_ (lD I hg hm boot_zip (PyProof.Rows.callWith_type1 (dH (ha pos pq s σ H _ I h) fun us s1 ⟨vs,H1,I1,r1,q1⟩=>?_) (by rw[hs,hs2]) (by rw[hs2];rfl)))
 obtain⟨a,b,e,⟨xs,hq⟩,⟨ys,hq2⟩,q⟩:=q1;subst e;cases r1 with
 | cons r rr =>
   cases rr with
   | cons r' rr =>
     cases rr;cases r;cases r';obtain⟨its,rv,pl,hz⟩:=I1.list hq;obtain⟨its2,TU,TR,hz2⟩:=I1.list hq2;refine call_zip_2 pl.isList TR.isList fun h' WW hI hO h1 h2 hsz hk=>?_
     have I2:Inv X pq σ H1 { s1 with heap:=h'}:=I1.kept (t':=s1.toks) hk
     have la:a<s1.heap.objs.size:=by obtain⟨_,q,_⟩:=pl.isList;exact Heap.lt_size q
     have lb:b<s1.heap.objs.size:=by obtain⟨_,q,_⟩:=TR.isList;exact Heap.lt_size q
     refine wpAny_pyIter_zip WW ⟨_,[s1.heap.objs.size+4,s1.heap.objs.size+2,s1.heap.objs.size+3,s1.heap.objs.size,s1.heap.objs.size+1],_,_,H1,rfl,I2,
      IT a b _ _ _ _ _ (F3 la lb),⟨WW,hI,⟨_,_,hO⟩,h1,h2⟩,fun c hc=>?_,q⟩
     have hc' : c=s1.heap.objs.size+4\/c=s1.heap.objs.size+2\/c=s1.heap.objs.size+3\/c=s1.heap.objs.size\/c=s1.heap.objs.size+1:=by simpa using hc
     have hcs:s1.heap.objs.size<=c:=by
      rcases hc' with rfl|rfl|rfl|rfl|rfl
      ·exact Nat.le_add_right _ _
      ·exact Nat.le_add_right _ _
      ·exact Nat.le_add_right _ _
      ·exact Nat.le_refl _
      ·exact Nat.le_add_right _ _
     exact I1.CI hcs (I1.hok.fresh hcs)
end
section
variable {K:bW}{a b:Addr}{xs ys:List V}{g:TG}{tt:TT}{te:TE}{n:Nat}{fr:St}{D:Addr}{Q:Hp->Prop}{H1:Hp}
theorem IW{tb:TS}{D:Ends}{σ:St}{H:Hp}(Pv:Nat->St->Hp->Prop)(h0:Pv 0 σ H)(hl:∀ i σ H,i<=xs.length->Pv i σ H->aM K H a xs)
 (hs:∀ i x T σ H,xs[i]?=some x->Pv i σ H->H T=none->g (.ref T) σ (upd H T (.tup [.int (i:Int),x])) fun σ2 H2=>tb { D with nx:=Pv (i+1),ct:=Pv (i+1),bk:=D.nx} σ2 H2) (hd:∀ σ H,Pv xs.length σ H->D.nx σ H) :
 ∃ W:Nat->Nat->St->Hp->Prop,(∃ m,W 0 m σ H)/\∀ i m σ H,W i m σ H->
   ((Qs K a).stop i H/\D.nx σ H)\/((Qs K a).go i H/\∃ N:St->Hp->Prop,(∀ σ' H',N σ' H'->∃ m',m'<m/\W (i+1) m' σ' H')/\∀ x H',(Qs K a).Lp i H x H'->g x σ H' fun σ2 H2=>tb { D with nx:=N,ct:=N,bk:=D.nx} σ2 H2):=by
 refine⟨fun i m σ H=>m=xs.length-i/\i<=xs.length/\Pv i σ H,⟨xs.length,by simp,Nat.zero_le _,h0⟩,?_⟩
 rintro i m σ H ⟨rfl,hi,p⟩;have q:=hl i σ H hi p
 by_cases hlt:i<xs.length
 ·refine .inr ⟨⟨xs,xs[i],q,by simp[hlt]⟩,Pv (i+1),fun σ' H' p'=>⟨xs.length-(i+1),by lia,rfl,hlt,p'⟩,fun v H' y=>?_⟩
  obtain⟨T,x,rfl,hT,rfl,y⟩:=y;exact hs i x T σ _ (y xs q) p hT
 ·have e:i=xs.length:=by lia
  subst e;exact .inl ⟨⟨xs,q,Nat.le_refl _⟩,hd σ H p⟩
theorem AF(hxy:xs.length=ys.length)(Pv:Nat->List V->Hp->Prop)(h0:Pv 0 [] H1)(hl:∀ i acc H,i<=xs.length->Pv i acc H->aM K H a xs/\aM K H b ys/\H D=some (.lst acc)/\acc.length<=i)(hz:xs.length<=sizeLine)
 (hs:∀ i x y T acc H,xs[i]?=some x->ys[i]?=some y->Pv i acc H->H T=none->g (.ref T) (List.replicate n none++fr) (upd H T (.tup [x,y])) fun σ2 H2=>σ2.drop n=fr/\tt σ2 H2 fun b H3 =>
  if b=true then te σ2 H3 fun v H4=>H4 D=some (.lst acc)/\Pv (i+1) (acc++[v]) (upd H4 D (.lst (acc++[v]))) else Pv (i+1) acc H3)
 (hd:∀ acc H,Pv xs.length acc H->Q H):iM (Vl K a b) g tt te n fr D Q H1:=by
 refine⟨fun i m acc H=>m=xs.length-i/\i<=xs.length/\Pv i acc H,⟨xs.length,by simp,Nat.zero_le _,h0⟩,?_⟩
 rintro i m acc H ⟨rfl,hi,p⟩;obtain⟨q,q2,hD,ha⟩:=hl i acc H hi p;refine⟨hD,?_⟩
 by_cases hlt:i<xs.length
 ·have Vo:i<ys.length:=by lia
  refine .inr ⟨⟨xs,ys,xs[i],ys[i],q,q2,by simp[hlt],by simp[Vo]⟩,by lia,Pv (i+1),fun acc' H' p'=>⟨xs.length-(i+1),by lia,rfl,hlt,p'⟩,fun v H' y=>?_⟩
  obtain⟨T,x,z,rfl,hT,rfl,y1,y2⟩:=y;exact hs i x z T acc _ (y1 xs q) (y2 ys q2) p hT
 ·have e:i=xs.length:=by lia
  subst e;exact .inl ⟨⟨xs,ys,q,q2,.inl (Nat.le_refl _)⟩,hd acc H p⟩
end
section
variable {X:Cx}
theorem AG:gE X (.type "range") (fun xs H Q=>∃ j:Int,xs=[.int j]/\∀ p,H p=none->Q (.ref p) (upd H p (.FH 0 j))):=by
 intro pq s σ H xs us Q I r h;obtain⟨j,rfl,q⟩:=h;obtain⟨u,rfl,t,rfl⟩:=vals1 r;refine call_range_1 ⟨.ref s.heap.objs.size,_,I.laid (t':=s.toks+1+1) (fun b o e=>Heap.get?_push_of_some _ e) (Nat.le_refl _) ?_,rfl,q _ I.fresh⟩
 exact⟨_,_,_,Heap.get?_push_size _ rfl⟩
def wM(n:Nat):List V:=(List.range n).map fun i=>V.int ((i:Nat):Int)
theorem Nv(hc:X.calm=true):gE X (.type "list") (fun xs H Q=>∃ p,∃ n:Nat,xs=[.ref p]/\H p=some (.FH 0 (n:Int))/\n<=900/\∀ l,H l=none->Q (.ref l) (upd H l (.lst (wM n)))):=by
 intro pq s σ H xs us Q I r h;obtain⟨p,n,rfl,hp,hn,q⟩:=h;obtain⟨u,rfl,rx⟩:=vals1 r;cases rx;obtain⟨t,u,v,e⟩:=(show bJ X.prog X.w H s.heap p (.FH 0 (n:Int)) from I.hok p _ hp)
 have hsz:Builtin.Range.rangeSize 0 (n:Int) 1=(n:Int):=by rw[rangeSize_one];split<;>lia
 refine call_list_range (I.ok.hd hc) e (small_one (by lia) (by lia) (by lia) (by lia)) hsz (Nat.le_trans hn (by decide)) fun h' tk acc c kp e' hacc=>?_
 refine⟨.ref s.heap.objs.size,_,I.laid (t':=tk) kp (Nat.le_refl _) ?_,rfl,q _ I.fresh⟩;have hl:acc.toList.length=n:=by rw[Array.length_toList];exact hacc.1
 have hz:(wM n).length<=sizeLine:=by
  unfold wM;rw[List.length_map,List.length_range];exact Nat.le_of_lt (jj (by lia))
 refine⟨hz,acc.toList,c,?_,by simpa using e'⟩
 have key:∀(ys:List Value) (k:Nat),(∀ j v,ys[j]?=some v->∃ t,v=Value.int (((k+j:Nat)):Int) t)->Vals ((List.range' k ys.length).map fun i=>V.int ((i:Nat):Int)) ys:=by
  intro ys
  induction ys with
  | nil=>intro k _;exact .nil
  | cons y r ih =>
    intro k hy;obtain⟨t,ht⟩:=hy 0 y rfl;refine .cons ⟨t,by simpa using ht⟩ (ih (k+1) fun j v hv=>?_)
    obtain⟨t',ht'⟩:=hy (j+1) v (by simpa using hv)
    exact⟨t',by rw[ht'];congr 2;lia⟩
 have z:=key acc.toList 0 fun j v hv=>by
  obtain⟨t,ht⟩:=hacc.2 j v (by simpa using hv)
  exact⟨t,by rw[ht];congr 1;lia⟩
 rw[hl]at z;unfold wM;rw[List.range_eq_range'];exact z
theorem sumK(K:bW)(hc:X.calm=true)(hK:X.K=K:=by rfl):gE X (.builtin "sum") (fun xs H Q=>∃(p:Addr) (ns:List Int),xs=[.ref p]/\aM K H p (ns.map V.int)/\Q (.int ns.sum) H):=by
 subst hK;intro pq s σ H xs us Q I r h;obtain⟨p,ns,rfl,hq,q⟩:=h;obtain⟨u,rfl,rx⟩:=vals1 r;cases rx;obtain⟨its,rv,pl,hz⟩:=I.list hq;have hi:∀{ns:List Int} {its:List Value},Vals (ns.map V.int) its->∃ xs:Array (Int×Tok),its.toArray=intItems xs/\xs.toList.map (·.1)=ns:=by
  intro ns
  induction ns with
  | nil=>intro its r;cases r;exact⟨#[],by simp[intItems],rfl⟩
  | cons a l ih =>
    intro its r;cases r with
    | cons r1 r2 =>
      obtain⟨t,rfl⟩:=r1;obtain⟨xs,h1,h2⟩:=ih r2;refine⟨#[(a,t)]++xs,?_,by simp[h2]⟩
      have IS:=congrArg Array.toList h1;simp only[intItems,Array.toList_map,List.toList_toArray]at IS;simp[intItems,IS,Array.map_append]
 obtain⟨ar,e1,e2⟩:=hi rv;have hl:s.heap.IsList p (intItems ar):=e1▸pl.isList;refine sum_intListG (I.ok.hd hc) hl fun h' tk t' hk=>?_
 have e3:preSum (numAt ar) ar.size=ns.sum:=by rw[preSum_eq,List.take_of_length_le (by simp),e2]
 rw[e3];exact⟨.int ns.sum,H,I.kept hk,⟨t',rfl⟩,q⟩
end
theorem AH:∀{us:List Value} {ns:List Int},IntsAre us ns->Vals (ns.map V.int) us
 | _,_,.nil=>.nil
 | _,_,.cons n t r=>.cons ⟨t,rfl⟩ (AH r)
section
variable {X:Cx}
theorem sortedK(K:bW)(hK:X.K=K:=by rfl):gE X (.builtin "sorted") (fun xs H Q=>∃(p:Addr) (ns:List Int),xs=[.ref p]/\aM K H p (ns.map V.int)/\ns.length<64/\
 ∀(l:Addr) (ns' : List Int),H l=none->ns'.Perm ns->ns'.Pairwise (·<=·)->Q (.ref l) (upd H l (.lst (ns'.map V.int)))):=by
 subst hK;intro pq s σ H xs us Q I r h;obtain⟨p,ns,rfl,hq,hn,q⟩:=h;obtain⟨u,rfl,rx⟩:=vals1 r;cases rx;obtain⟨its,rv,pl,hz⟩:=I.list hq;have hl:=rv.length;rw[List.length_map]at hl;refine PyProof.Rows.sorted_ints pl.isList (intsAre_of rv) (by lia) fun out ns' a1 a2 a3=>?_
 obtain⟨e,he⟩:=sortedAll_at s.heap its out;have hfr:H (s.heap.objs.size+1)=none:=I.hok.fresh (Nat.le_succ _);refine⟨.ref (s.heap.objs.size+1),_,I.laid (t':=s.toks) (fun _ _=>sortedAll_old) (Nat.le_succ _) ?_,rfl,q _ ns' hfr a2 a3⟩
 refine⟨?_,out.toList,e,AH a1,?_⟩
 ·rw[List.length_map,a2.length_eq];exact Nat.le_of_lt (jj (by lia))
 ·have:out.toList.toArray=out:=by simp
  rw[this];exact he
theorem Vp(K:bW)(hc:X.calm=true)(hK:X.K=K:=by rfl):gE X (.type "set") (fun xs H Q=>∃(p:Addr) (ns:List Int),xs=[.ref p]/\aM K H p (ns.map V.int)/\ns.length<=900/\
 ∀(l:Addr) (S:Int->Bool),H l=none->Q (.ref l) (upd H l (.set S (firstMet (fun i=>ns.getD i 0) ns.length).length))):=by
 subst hK;intro pq s σ H xs us Q I r h;obtain⟨p,ns,rfl,hq,hn,q⟩:=h;obtain⟨u,rfl,rx⟩:=vals1 r;cases rx;obtain⟨its,rv,pl,hz⟩:=I.list hq;have hl:=rv.length;rw[List.length_map]at hl;have hsz:its.toArray.size=ns.length:=by rw[List.size_toArray];lia
 refine PySem.call_set_list (I.ok.hd hc) pl.isList (ns:=ns) (by simpa using intsAre_of rv) (by rw[hsz];show ns.length+1<4096;lia) fun h' tk hS hk=>?_
 rw[hsz]at hS;exact⟨.ref s.heap.objs.size,_,I.laid (t':=tk) (o:=.set (fun k'=>(firstMet (fun i=>ns.getD i 0) ns.length).any fun x=>x==k') (firstMet (fun i=>ns.getD i 0) ns.length).length) (fun b o e=>hk b o (Heap.lt_size e) e) (Nat.le_refl _) hS,rfl,q _ _ I.fresh⟩
theorem OL:gE X (.builtin "len") (fun xs H Q=>∃(p:Addr) (S:Int->Bool) (n:Nat),xs=[.ref p]/\H p=some (.set S n)/\Q (.int (n:Int)) H):=by
 intro pq s σ H xs us Q I r h;obtain⟨p,S,n,rfl,hp,q⟩:=h;obtain⟨u,rfl,rx⟩:=vals1 r;cases rx;obtain⟨o,es,ep,t,ho,hex,hd,_,_,hb,hf,rfl⟩:=(show bJ X.prog X.w H s.heap p (.set S n) from I.hok p _ hp)
 refine call_len_set ho hex hd hf (by have:es.size<4096:=hb;lia) ⟨.int _,H,I.tok _,⟨_,rfl⟩,q⟩
end
end L2
namespace HT
open PySem PyProof.Rows
end HT
namespace L2
open PySem PySem.Spec PyProof.Rows
end L2
namespace Ring
open PySem
abbrev c6:=Int×Int×Int
def bit(S:Int)(k:Nat):Bool:=decide (S/2^k%2=1)
def bu(S:Int):List Nat:=(List.range (Builtin.Int.intBits S)).filter (bit S)
def bump(e:List Int)(i:Int):List Int:=e.set i.toNat (e.getD i.toNat 0+1)
def step(ts:List c6)(e:List Int)(k:Nat):List Int:=match ts[k]? with
 | some t=>bump (bump e t.1) t.2.1
 | none=>e
def kE(p:Nat)(ts:List c6)(S:Int):List Int:=(bu S).foldl (step ts) (List.replicate p 0)
def uO(p:Nat)(ts:List c6)(S:Int):List Nat:=(List.range p).filter fun i=>decide ((kE p ts S).getD i 0%2=1)
def Ls(ts:List c6)(k i:Nat):Int:=match ts[k]? with
 | some t=>(if t.1=(i:Int) then 1 else 0)+(if t.2.1=(i:Int) then 1 else 0)
 | none=>0
theorem kX(e:List Int)(i:Int):(bump e i).length=e.length:=by unfold bump;rw[List.length_set]
theorem IX(ts:List c6)(e:List Int)(k:Nat):(step ts e k).length=e.length:=by
 unfold step
 split
 ·rw[kX,kX]
 ·rfl
theorem AI(e:List Int)(j:Int)(i:Nat)(h0:0<=j)(h1:j<e.length):(bump e j).getD i 0=e.getD i 0+if j=(i:Int) then 1 else 0:=by
 unfold bump;rw[List.getD_eq_getElem?_getD,List.getD_eq_getElem?_getD,List.getD_eq_getElem?_getD]
 by_cases h:j=(i:Int)
 ·have hi:j.toNat=i:=by lia
  rw[if_pos h,hi,List.getElem?_set_self (by lia)]
  rfl
 ·have hi:j.toNat≠i:=by lia
  rw[if_neg h,List.getElem?_set_ne hi]
  lia
structure ES(p:Nat)(ts:List c6):Prop where
 ends:∀ t∈ts,0<=t.1/\t.1<(p:Int)/\0<=t.2.1/\t.2.1<(p:Int)
theorem step_get{p:Nat}{ts:List c6}(W:ES p ts)(e:List Int)(k i:Nat)(he:e.length=p):(step ts e k).getD i 0=e.getD i 0+Ls ts k i:=by
 unfold step Ls;cases h:ts[k]? with
 | none=>simp
 | some t =>
   obtain⟨a0,a1,b0,b1⟩:=W.ends t (iT h);dsimp only;rw[AI _ _ _ b0 (by rw[kX,he];exact b1),AI _ _ _ a0 (by rw[he];exact a1)]
   lia
def qW(ts:List c6)(ks:List Nat)(i:Nat):Int:=(ks.map fun k=>Ls ts k i).sum
theorem AJ{p:Nat}{ts:List c6}(W:ES p ts)(i:Nat):∀(ks:List Nat) (e:List Int),e.length=p->(ks.foldl (step ts) e).getD i 0=e.getD i 0+qW ts ks i
 | [],e,_=>by simp[qW]
 | k::r,e,he=>by
   rw[List.foldl_cons,AJ W i r _ (by rw[IX,he]),step_get W e k i he]
   unfold qW;rw[List.map_cons,List.sum_cons]
   lia
theorem IY{p:Nat}{ts:List c6}(W:ES p ts)(S:Int)(i:Nat):(kE p ts S).getD i 0=qW ts (bu S) i:=by
 unfold kE;rw[AJ W i _ _ (by simp)]
 have e:(List.replicate p (0:Int)).getD i 0=0:=by
  rw[List.getD_eq_getElem?_getD,List.getElem?_replicate]
  split<;>rfl
 rw[e]
 lia
theorem eX(m k:Nat):bit (m:Int) k=m.testBit k:=by
 unfold bit;rw[Nat.testBit_eq_decide_div_mod_eq];have e:((m:Int)/2^k%2=1)↔(m/2^k%2=1):=by
  have h2:((2:Int)^k)=((2^k:Nat):Int):=by simp
  rw[h2,<-Int.natCast_ediv]
  lia
 simp only[e]
theorem uP(m:Nat):Builtin.Int.intBits (m:Int)=if m=0 then 0 else m.log2+1:=by
 unfold Builtin.Int.intBits
 by_cases h:m=0
 ·simp[h]
 ·simp[h]
theorem bits_le{m n:Nat}(h:m<2^n):Builtin.Int.intBits (m:Int)<=n:=by
 rw[uP]
 split
 ·exact Nat.zero_le _
 ·rename_i h0
  exact(Nat.log2_lt h0).mpr h
theorem AK{m k:Nat}(h:Builtin.Int.intBits (m:Int)<=k):bit (m:Int) k=false:=by
 rw[eX];rw[uP]at h
 by_cases h0:m=0
 ·simp[h0]
 ·rw[if_neg h0]at h;exact Nat.testBit_lt_two_pow (Nat.lt_of_lt_of_le Nat.lt_log2_self (Nat.pow_le_pow_right (by decide) h))
theorem qg(f:Nat->Bool)(a:Nat):∀ d,(∀ k,a<=k->f k=false)->(List.range (a+d)).filter f=(List.range a).filter f
 | 0,_=>rfl
 | d+1,h=>by
   rw[<-Nat.add_assoc,List.range_succ,List.filter_append,qg f a d h];have e:[a+d].filter f=[]:=by rw[List.filter_cons,if_neg (by rw[h _ (by lia)];simp)];rfl
   rw[e,List.append_nil]
theorem fL{m n:Nat}(h:m<2^n):bu (m:Int)=(List.range n).filter fun k=>m.testBit k:=by
 unfold bu;have hb:=bits_le h;obtain⟨d,hd⟩:=Nat.exists_eq_add_of_le hb;have e:(fun k=>m.testBit k)=bit (m:Int):=funext fun k=>(eX m k).symm
 rw[e]
 conv=>rhs;rw[hd]
 exact(qg _ _ d fun k hk=>AK hk).symm
theorem ue{m n:Nat}(h:m<2^n){k:Nat}(hk:k∈bu (m:Int)):k<n:=by
 rw[fL h]at hk;exact List.mem_range.mp (List.mem_filter.mp hk).1
theorem sum_filter(ts:List c6)(i:Nat)(f:Nat->Bool):∀ ks:List Nat,qW ts (ks.filter f) i=(ks.map fun k=>if f k=true then Ls ts k i else 0).sum
 | []=>rfl
 | k::r=>by
   have ih:=sum_filter ts i f r;rw[List.map_cons,List.sum_cons,<-ih];cases h:f k with
   | true =>
     rw[List.filter_cons,if_pos h];unfold qW;rw[List.map_cons,List.sum_cons];simp
   | false =>
     rw[List.filter_cons,if_neg (by rw[h];simp)]
     simp
theorem IZ{a b x y:Nat}(q:x/2+2*(y/2)=a/2+b/2)(h:x%2+2*(y%2)=a%2+b%2):x+2*y=a+b:=by lia
theorem mod_one{u v:Nat}(hu:u=0\/u=1)(hv:v=0\/v=1):(u^^^v)+2*(u&&&v)=u+v:=by
 rcases hu with rfl|rfl<;>rcases hv with rfl|rfl<;>rfl
theorem yS:∀ a b:Nat,(a^^^b)+2*(a&&&b)=a+b:=by
 intro a
 induction a using Nat.strongRecOn with
 | ind a ih =>
   intro b
   by_cases h:a=0
   ·subst h;simp
   ·have q:=ih (a/2) (by lia) (b/2)
    rw[<-Nat.xor_div_two,<-Nat.and_div_two]at q;refine IZ q ?_;have e1:(a^^^b)%2=a%2^^^b%2:=Nat.xor_mod_two_pow (n:=1);have e2:(a&&&b)%2=a%2&&&b%2:=Nat.and_mod_two_pow (n:=1);rw[e1,e2];exact mod_one (Nat.mod_two_eq_zero_or_one a) (Nat.mod_two_eq_zero_or_one b)
theorem xor_int(a b:Nat):Builtin.bitXor (a:Int) (b:Int)=((a^^^b:Nat):Int):=by
 have h:(a:Int)+b-2*((a&&&b:Nat):Int)=((a^^^b:Nat):Int):=by
  have q:=yS a b
  lia
 have e:=PyProof.Rows.bitXor_and (a:Int) (b:Int);rw[e,PyProof.Rows.bitAnd_pp (by lia) (by lia)]
 simpa using h
open PySem L2
def Mf(t:c6):List V:=[.int t.1,.int t.2.1,.int t.2.2]
def TupAt(H:Hp)(x:V)(t:c6):Prop:=∃ b,x = .ref b/\H b=some (.tup (Mf t))
structure aY(H:Hp)(w:Addr)(p:Nat)(ts:List c6):Prop where
 ex:∃ b xs,H w=some (.tup [.int (p:Int),.ref b])/\H b=some (.tup xs)/\Paired (TupAt H) xs ts
structure Mg(p:Nat)(ts:List c6):Prop where
 WX:ES p ts
 len:ts.length<=24
 WY:p<=10
theorem TupAt.tups{H H' : Hp}(s:dG H H'){x:V}{t:c6}(h:TupAt H x t):TupAt H' x t:=by
 obtain⟨b,e,h⟩:=h;exact⟨b,e,s _ _ h⟩
theorem aY.tups{H H' : Hp}{w:Addr}{p:Nat}{ts:List c6}(s:dG H H')(h:aY H w p ts):aY H' w p ts:=by
 obtain⟨b,xs,h1,h2,h3⟩:=h.ex;exact⟨b,xs,s _ _ h1,s _ _ h2,Paired.imp' (fun _ _ z=>z.tups s) h3⟩
theorem aY.same{H H' : Hp}{w:Addr}{p:Nat}{ts:List c6}(s:aq H H')(h:aY H w p ts):aY H' w p ts:=h.tups s.tups
def ay(l:List Nat):List V:=l.map fun k=>V.int ((k:Nat):Int)
theorem bE(l:List Nat)(k:Nat):ay (l++[k])=ay l++[.int (k:Int)]:=by unfold ay;rw[List.map_append];rfl
theorem aB(l:List Nat):(ay l).length=l.length:=by unfold ay;rw[List.length_map]
theorem cf{l:List Nat}{i:Nat}{x:V}(h:(ay l)[i]?=some x):∃ k,l[i]?=some k/\x = .int (k:Int):=by
 unfold ay at h;rw[List.getElem?_map]at h;obtain⟨k,e,q⟩:=wH.mp h;exact⟨k,e,q.symm⟩
theorem aU(f:Nat->Bool)(i:Nat):(List.range (i+1)).filter f=(List.range i).filter f++(if f i=true then[i] else[]):=by
 rw[List.range_succ,List.filter_append]
 congr 1
 cases h:f i with
 | true=>rw[List.filter_cons,if_pos h,if_pos rfl];rfl
 | false=>rw[List.filter_cons,if_neg (by rw[h];simp),if_neg (by simp)];rfl
def oN(f:Nat->Bool)(H:Hp)(D:Addr)(i:Nat)(acc:List V)(H2:Hp):Prop:=aq H H2/\H2 D=some (.lst acc)/\acc=ay ((List.range i).filter f)
section
variable {f:Nat->Bool}{H H2 H3:Hp}{D:Addr}{i:Nat}{acc:List V}
theorem oN.start(hD:H D=none):oN f H D 0 [] (upd H D (.lst [])):=⟨aq.new hD,ae,rfl⟩
theorem oN.len(p:oN f H D i acc H2):H2 D=some (.lst acc)/\acc.length<=i:=by
 refine⟨p.2.1,?_⟩;rw[p.2.2,aB];exact Nat.le_trans (List.length_filter_le _ _) (by rw[List.length_range];exact Nat.le_refl _)
theorem oN.yes(p:oN f H D i acc H2)(hD:H D=none)(s:aq H2 H3)(hf:f i=true):H3 D=some (.lst acc)/\oN f H D (i+1) (acc++[.int (i:Int)]) (upd H3 D (.lst (acc++[.int (i:Int)]))):=by
 refine⟨s _ _ p.2.1,(p.1.trans s).put hD,ae,?_⟩;rw[aU,if_pos hf,bE,<-p.2.2]
theorem oN.no(p:oN f H D i acc H2)(s:aq H2 H3)(hf:f i=false):oN f H D (i+1) acc H3:=by
 refine⟨p.1.trans s,s _ _ p.2.1,?_⟩;rw[aU,if_neg (by rw[hf];simp),List.append_nil]
 exact p.2.2
end
def bU(ts:List c6)(k:Nat):c6:=ts.getD k (0,0,0)
def stepT(e:List Int)(t:c6):List Int:=bump (bump e t.1) t.2.1
theorem xU{ts:List c6}:∀(ks:List Nat) (e:List Int),(∀ k∈ks,k<ts.length)->(ks.map (bU ts)).foldl stepT e=ks.foldl (step ts) e
 | [],_,_=>rfl
 | k::r,e,h=>by
   rw[List.map_cons,List.foldl_cons,List.foldl_cons,xU r _ fun j hj=>h j (kU _ hj)]
   have hk:=h k List.mem_cons_self;have e1:ts[k]?=some (bU ts k):=by
    unfold bU;rw[List.getD_eq_getElem?_getD];simp[hk]
   have e2:step ts e k=stepT e (bU ts k):=by
    unfold step stepT;rw[e1]
   rw[e2]
theorem xV{p:Nat}{ts:List c6}{m:Nat}(h:m<2^ts.length):kE p ts (m:Int)=((bu (m:Int)).map (bU ts)).foldl stepT (List.replicate p 0):=by
 unfold kE;rw[xU _ _ fun k hk=>ue h hk]
theorem F4(e:List Int)(t:c6):(stepT e t).length=e.length:=by unfold stepT;rw[kX,kX]
theorem qX:∀(l:List c6) (e:List Int),(l.foldl stepT e).length=e.length
 | [],_=>rfl
 | t::r,e=>by rw[List.foldl_cons,qX r,F4]
def nc(l:List Int):List V:=l.map V.int
theorem qY{l:List Int}{i:Nat}(h:i<l.length):(nc l)[i]?=some (.int (l.getD i 0)):=by
 unfold nc;rw[List.getElem?_map,List.getD_eq_getElem?_getD];simp[h]
theorem uQ(l:List Int)(i:Nat):(nc l).set i (.int (l.getD i 0+1))=nc (bump l (i:Int)):=by
 unfold nc bump;rw[Int.toNat_natCast,List.map_set]
theorem Ja(p:Nat):(List.replicate p [V.int 0]).flatten=nc (List.replicate p 0):=by
 induction p with
 | zero=>rfl
 | succ p ih=>rw[List.replicate_succ,List.flatten_cons,ih,List.replicate_succ];rfl
theorem qh{n j:Nat}(h:j<n):LY n (j:Int)=some j:=by
 unfold LY;rw[if_pos (by lia),if_pos (by lia),Int.toNat_natCast]
def yT(k:Nat):PyData:=.int (k:Int)
theorem AL{K:bW}{H:Hp}:∀ l:List Nat,DatVs K H (ay l) (l.map yT)
 | []=>.nil
 | _::r=>.cons (.int _) (AL r)
theorem AM:∀ l:List Nat,PyData.canLayAll0 (l.map yT)=true
 | []=>rfl
 | _::r=>by
   have ih:=AM r;simp only[List.map_cons,PyData.canLayAll0,ih,Bool.and_true];rfl
theorem xW:∀ l:List Nat,PyData.depthAll (l.map yT)=0
 | []=>rfl
 | _::r=>by
   have ih:=xW r;show max (PyData.depth (PyData.int _)) (PyData.depthAll (r.map _))=0;rw[ih];rfl
theorem AN(l:List Nat):SeqAt.shaped (.list (l.map yT))=true:=by
 unfold SeqAt.shaped;have e:(PyData.list (l.map yT)).canLay0=PyData.canLayAll0 (l.map yT):=by simp[PyData.canLay0]
 rw[e,AM,Bool.true_and];refine cD ?_;have e2:PyData.depth (PyData.list (l.map yT))=PyData.depthAll (l.map yT)+1:=by simp[PyData.depth]
 rw[e2,xW]
 decide
theorem Mh(l:List Nat):PyData.eqv (.list (l.map yT)) (.list [])=decide (l=[]):=by
 cases l with
 | nil=>rfl
 | cons a r=>rfl
theorem OM(S:Int)(k:Nat):decide (V.int (Builtin.bitAnd (S/2^k) 1)=V.int 1)=bit S k:=by
 unfold bit;rw[PyProof.Rows.bitAnd_m1];rw[Bool.eq_iff_iff];simp
theorem CZ(S:Int)(k:Nat):decide (V.int (S/2^k%2)=V.int 1)=bit S k:=by
 unfold bit;rw[Bool.eq_iff_iff];simp
theorem Mi(x:Int):decide (V.int x=V.int 1)=decide (x=1):=by
 rw[Bool.eq_iff_iff];simp
structure qi(p:Int)(t:c6):Prop where
 a0:0<=t.1
 a1:t.1<p
 b0:0<=t.2.1
 b1:t.2.1<p
 ne:t.1≠t.2.1
 l0:1<=t.2.2
 l1:t.2.2<=1000000000000000000000000000000
structure aC(p:Nat)(ts:List c6):Prop where
 p1:1<=p
 p2:p<=10
 len:ts.length<=24
 yU:∀ t∈ts,qi (p:Int) t
theorem aC.F5{p:Nat}{ts:List c6}(g:aC p ts):Mg p ts:=⟨⟨fun t ht=>let z:=g.yU t ht;⟨z.a0,z.a1,z.b0,z.b1⟩⟩,g.len,g.p2⟩
def tM(p:Int)(H:Hp)(D:Addr)(n:Nat)(H2:Hp):Prop:=aq H H2/\∃ acc ts,H2 D=some (.lst acc)/\Paired (TupAt H2) acc ts/\acc.length=n/\∀ t∈ts,qi p t
section
variable {p:Int}{H H2 H3:Hp}{D b:Addr}{n:Nat}{t:c6}
theorem tM.start(hD:H D=none):tM p H D 0 (upd H D (.lst [])):=⟨aq.new hD,[],[],ae,.nil,rfl,fun t ht=>nomatch ht⟩
theorem tM.push(h:tM p H D n H2)(hD:H D=none)(s:aq H2 H3)(g:qi p t)(hb:H3 b=some (.tup (Mf t))):
 ∃ acc,H3 D=some (.lst acc)/\acc.length=n/\tM p H D (n+1) (upd H3 D (.lst (acc++[.ref b]))):=by
 obtain⟨s2,acc,ts,hd,pr,hn,gt⟩:=h;have Nx:H3 D=some (.lst acc):=s _ _ hd;refine⟨acc,Nx,hn,(s2.trans s).put hD,acc++[.ref b],ts++[t],ae,?_,by rw[List.length_append,List.length_singleton,hn],fun u hu=>?_⟩
 ·exact Paired.snoc (Paired.imp' (fun _ _ z=>z.tups (s.tups.trans (dG.put Nx))) pr) ⟨b,rfl,dG.put Nx _ _ hb⟩
 ·rcases List.mem_append.mp hu with hu|hu
  ·exact gt u hu
  ·cases List.mem_singleton.mp hu;exact g
theorem tM.fin{q:Nat}(h:tM (q:Int) H D n H2):∃ acc ts,H2 D=some (.lst acc)/\ts.length=n/\(∀ t∈ts,qi (q:Int) t)/\∀ l,H2 l=none->∀ w,upd H2 l (.tup acc) w=none->
 aq H (upd (upd H2 l (.tup acc)) w (.tup [.int (q:Int),.ref l]))/\aY (upd (upd H2 l (.tup acc)) w (.tup [.int (q:Int),.ref l])) w q ts:=by
 obtain⟨s2,acc,ts,hd,pr,hn,gt⟩:=h;refine⟨acc,ts,hd,by rw[<-pr.length,hn],gt,fun l hl w hw=>?_⟩
 have n1:aq H2 (upd H2 l (.tup acc)):=aq.new hl;have n2:=n1.trans (aq.new (o:=.tup [.int (q:Int),.ref l]) hw);refine⟨s2.trans n2,l,acc,ae,?_,Paired.imp' (fun _ _ z=>z.tups n2.tups) pr⟩
 rw[ao (bq ae hw),ae]
end
theorem Jb{p o r:Int}(h:0<=o)(h1:o<p)(r0:0<=r)(r1:r<p-1):0<=(o+1+r)%p/\(o+1+r)%p<p/\o≠(o+1+r)%p:=by
 have hp:0<p:=by lia
 refine⟨Int.emod_nonneg _ (by lia),Int.emod_lt_of_pos _ hp,?_⟩
 by_cases hlt:o+1+r<p
 ·rw[Int.emod_eq_of_lt (by lia) hlt]
  lia
 ·have e:(o+1+r)%p=o+1+r-p:=by
   rw[<-Int.sub_emod_right,Int.emod_eq_of_lt (by lia) (by lia)]
  rw[e]
  lia
theorem c8{n:Nat}(h:n<=24):n<=sizeLine:=Nat.le_of_lt (jj (by lia))
theorem dw{n:Nat}(h:n<=900):n<sizeLine:=jj (by lia)
theorem Mj{ns:List Int}{k:Nat}(h:k<ns.length):(ns.map V.int)[k]?=some (.int (ns.getD k 0)):=by
 rw[List.getElem?_map,List.getD_eq_getElem?_getD];simp[h]
theorem oW(x m:Int)(h:0<m):0<=x%m/\x%m<m:=⟨Int.emod_nonneg _ (by lia),Int.emod_lt_of_pos _ h⟩
end Ring
namespace RM
def bT(f:Nat->Bool):Nat->Bool
 | 0=>false
 | n+1=>bT f n^^f n
theorem bR{f g:Nat->Bool}:∀{n:Nat},(∀ k,k<n->f k=g k)->bT f n=bT g n
 | 0,_=>rfl
 | n+1,h=>by
   unfold bT;rw[bR fun k hk=>h k (by lia),h n (by lia)]
theorem jy(f g:Nat->Bool):∀ n,bT (fun k=>f k^^g k) n=(bT f n^^bT g n)
 | 0=>rfl
 | n+1=>by
   unfold bT;rw[jy f g n];cases bT f n<;>cases bT g n<;>cases f n<;>cases g n<;>rfl
theorem pA:∀ n,bT (fun _=>false) n=false
 | 0=>rfl
 | n+1=>by unfold bT;rw[pA n];rfl
theorem qj(c:Bool)(f:Nat->Bool):∀ n,bT (fun k=>c&&f k) n=(c&&bT f n)
 | 0=>by cases c<;>rfl
 | n+1=>by
   unfold bT;rw[qj c f n];cases c<;>simp
theorem xX(f:Nat->Nat->Bool)(n:Nat):∀ m,bT (fun x=>bT (fun k=>f x k) n) m=bT (fun k=>bT (fun x=>f x k) m) n
 | 0=>by
   show false=_;rw[<-pA n];rfl
 | m+1=>by
   show(bT (fun x=>bT (fun k=>f x k) n) m^^bT (fun k=>f m k) n)=_
   rw[xX f n m,<-jy];rfl
theorem jk{f:Nat->Bool}{n:Nat}(h:∀ k,k<n->f k=false):bT f n=false:=by
 rw[bR (g:=fun _=>false) h,pA]
theorem qk{f:Nat->Bool}{a:Nat}:∀{n:Nat},a<n->(∀ k,k<n->k≠a->f k=false)->bT f n=f a
 | 0,h,_=>absurd h (Nat.not_lt_zero _)
 | n+1,h,z=>by
   unfold bT
   by_cases e:a=n
   ·subst e;rw[jk fun k hk=>z k (by lia) (by lia)]
    simp
   ·rw[qk (a:=a) (by lia) fun k hk hn=>z k (by lia) hn,z n (by lia) (fun q=>e q.symm)]
    simp
theorem jz(C:Nat->Bool){a m:Nat}(h:a<m):bT (fun x=>C x&&decide (a=x)) m=C a:=by
 rw[qk h fun k _ hk=>by simp[Ne.symm hk]]
 simp
structure Net where
 p:Nat
 n:Nat
 a:Nat->Nat
 b:Nat->Nat
 al:∀ k,k<n->a k<p
 bl:∀ k,k<n->b k<p
 ne:∀ k,k<n->a k≠b k
variable (N:Net)
def Net.inc(k x:Nat):Bool:=decide (N.a k=x)^^decide (N.b k=x)
def Net.bd(m x:Nat):Bool:=bT (fun k=>m.testBit k&&N.inc k x) N.n
def Net.cF(m:Nat):Prop:=∀ x,x<N.p->N.bd m x=false
variable {N}
theorem gj(m q x:Nat):N.bd (m^^^q) x=(N.bd m x^^N.bd q x):=by
 unfold Net.bd;rw[<-jy];refine bR fun k _=>?_
 rw[Nat.testBit_xor];cases m.testBit k<;>cases q.testBit k<;>cases N.inc k x<;>rfl
theorem n5(x:Nat):N.bd 0 x=false:=by
 unfold Net.bd;exact jk fun k _=>by simp
theorem lH{k:Nat}(h:k<N.n)(x:Nat):N.bd (2^k) x=N.inc k x:=by
 unfold Net.bd;rw[qk h fun j _ hj=>by simp[Nat.testBit_two_pow,Ne.symm hj]]
 simp[Nat.testBit_two_pow]
theorem cF.xor{m q:Nat}(h:N.cF m)(h' : N.cF q):N.cF (m^^^q):=fun x hx=>by rw[gj,h x hx,h' x hx];rfl
theorem cF.zero:N.cF 0:=fun x _=>n5 x
theorem Jc{m:Nat}(C:Nat->Bool)(h:∀ k,k<N.n->m.testBit k=true->C (N.a k)=C (N.b k)):bT (fun x=>C x&&N.bd m x) N.p=false:=by
 have e:bT (fun x=>C x&&N.bd m x) N.p=bT (fun x=>bT (fun k=>C x&&(m.testBit k&&N.inc k x)) N.n) N.p :=
  bR fun x _=>(qj (C x) _ N.n).symm
 rw[e,xX];refine jk fun k hk=>?_
 have e2:bT (fun x=>C x&&(m.testBit k&&N.inc k x)) N.p=(m.testBit k&&(C (N.a k)^^C (N.b k))):=by
  rw[<-jz C (N.al k hk),<-jz C (N.bl k hk),<-jy,<-qj];refine bR fun x _=>?_
  unfold Net.inc;cases C x<;>cases m.testBit k<;>cases decide (N.a k=x)<;>cases decide (N.b k=x)<;>rfl
 rw[e2];cases hb:m.testBit k with
 | false=>rfl
 | true=>rw[h k hk hb];simp
def join(L:Nat->Nat)(u v:Nat):Nat->Nat:=fun x=>if L x=max (L u) (L v) then min (L u) (L v) else L x
theorem join_eq{L:Nat->Nat}{u v x y:Nat}(h:L x=L y):join L u v x=join L u v y:=by unfold join;rw[h]
theorem xY(L:Nat->Nat)(u v:Nat):join L u v u=join L u v v:=by
 unfold join
 split<;>split<;>lia
theorem xZ{L:Nat->Nat}{u v:Nat}(h:L u=L v):join L u v=L:=by
 funext x
 unfold join;rw[h]
 split<;>lia
theorem uR{L:Nat->Nat}{u v x y:Nat}(h:join L u v x=join L u v y):L x=L y\/(L x=L u/\L y=L v)\/(L x=L v/\L y=L u):=by
 unfold join at h;have mm:(max (L u) (L v)=L u/\min (L u) (L v)=L v)\/(max (L u) (L v)=L v/\min (L u) (L v)=L u):=by
  rcases Nat.le_total (L u) (L v) with q|q
  ·exact .inr ⟨Nat.max_eq_right q,Nat.min_eq_left q⟩
  ·exact .inl ⟨Nat.max_eq_left q,Nat.min_eq_right q⟩
 rcases mm with⟨e1,e2⟩|⟨e1,e2⟩
 ·rw[e1,e2]at h
  split at h
  ·rename_i hx
   split at h
   ·rename_i hy
    exact .inl (hx.trans hy.symm)
   ·exact .inr (.inl ⟨hx,h.symm⟩)
  ·split at h
   ·rename_i hy
    exact .inr (.inr ⟨h,hy⟩)
   ·exact .inl h
 ·rw[e1,e2]at h
  split at h
  ·rename_i hx
   split at h
   ·rename_i hy
    exact .inl (hx.trans hy.symm)
   ·exact .inr (.inr ⟨hx,h.symm⟩)
  ·split at h
   ·rename_i hy
    exact .inr (.inl ⟨h,hy⟩)
   ·exact .inl h
theorem join_le{L:Nat->Nat}{u v x:Nat}(h:L x<=x):join L u v x<=x:=by
 unfold join
 split<;>lia
theorem F6{L:Nat->Nat}{u v:Nat}(h:∀ x,L (L x)=L x)(x:Nat):join L u v (join L u v x)=join L u v x:=by
 have hu:=h u;have hv:=h v;have hx:=h x;have hlo:L (min (L u) (L v))=min (L u) (L v):=by
  rcases Nat.le_total (L u) (L v) with q|q
  ·rw[Nat.min_eq_left q];exact hu
  ·rw[Nat.min_eq_right q];exact hv
 unfold join
 split
 ·rw[hlo]
  split<;>lia
 ·rw[hx]
  split<;>lia
def Net.aN(N:Net)(S:Nat->Bool):Nat->Nat->Nat
 | 0=>fun x=>x
 | k+1=>if S k=true then join (Net.aN N S k) (N.a k) (N.b k) else Net.aN N S k
variable {S:Nat->Bool}
theorem qm:∀(k x:Nat),N.aN S k x<=x
 | 0,_=>Nat.le_refl _
 | k+1,x=>by
   unfold Net.aN
   split
   ·exact join_le (qm k x)
   ·exact qm k x
theorem bY:∀(k x:Nat),N.aN S k (N.aN S k x)=N.aN S k x
 | 0,_=>rfl
 | k+1,x=>by
   by_cases hs:S k=true
   ·have e:N.aN S (k+1)=join (N.aN S k) (N.a k) (N.b k):=by
     conv=>lhs;unfold Net.aN
     rw[if_pos hs]
    rw[e];exact F6 (bY k) x
   ·have e:N.aN S (k+1)=N.aN S k:=by
     conv=>lhs;unfold Net.aN
     rw[if_neg hs]
    rw[e];exact bY k x
theorem x6{x y k:Nat}(h:N.aN S k x=N.aN S k y):∀ d,N.aN S (k+d) x=N.aN S (k+d) y
 | 0=>h
 | d+1=>by
   have ih:=x6 h d;show N.aN S (k+d+1) x=N.aN S (k+d+1) y;unfold Net.aN
   split
   ·exact join_eq ih
   ·exact ih
theorem iN{j k:Nat}(h:j<k)(hs:S j=true):N.aN S k (N.a j)=N.aN S k (N.b j):=by
 obtain⟨d,rfl⟩:=Nat.exists_eq_add_of_le (Nat.succ_le_of_lt h);refine x6 ?_ d;show N.aN S (j+1) (N.a j)=N.aN S (j+1) (N.b j);unfold Net.aN;rw[if_pos hs];exact xY _ _ _
inductive Net.mT(N:Net)(S:Nat->Bool)(k u:Nat):Nat->Prop
 | refl:Net.mT N S k u u
 | fwd {j:Nat} (h:Net.mT N S k u (N.a j)) (hj:j<k) (hs:S j=true):Net.mT N S k u (N.b j)
 | bwd {j:Nat} (h:Net.mT N S k u (N.b j)) (hj:j<k) (hs:S j=true):Net.mT N S k u (N.a j)
theorem Net.mT.trans{k u v w:Nat}(h:N.mT S k u v)(h' : N.mT S k v w):N.mT S k u w:=by
 induction h' with
 | refl=>exact h
 | fwd _ hj hs ih=>exact .fwd ih hj hs
 | bwd _ hj hs ih=>exact .bwd ih hj hs
theorem Net.mT.mono{k l u v:Nat}(h:N.mT S k u v)(nZ:k<=l):N.mT S l u v:=by
 induction h with
 | refl=>exact .refl
 | fwd _ hj hs ih=>exact .fwd ih (by lia) hs
 | bwd _ hj hs ih=>exact .bwd ih (by lia) hs
theorem bM:∀(k u v:Nat),N.aN S k u=N.aN S k v->N.mT S k u v
 | 0,u,v,h=>by
   have e:u=v:=h;subst e;exact .refl
 | k+1,u,v,h=>by
   unfold Net.aN at h
   split at h
   ·rename_i hs
    rcases uR h with q|⟨q1,q2⟩|⟨q1,q2⟩
    ·exact(bM k u v q).mono (by lia)
    ·have c1:=(bM k u _ q1).mono (Nat.le_succ k);have c2:=(bM k _ v q2.symm).mono (Nat.le_succ k);exact Net.mT.trans (.fwd c1 (by lia) hs) c2
    ·have c1:=(bM k u _ q1).mono (Nat.le_succ k);have c2:=(bM k _ v q2.symm).mono (Nat.le_succ k);exact Net.mT.trans (.bwd c1 (by lia) hs) c2
   ·exact(bM k u v h).mono (by lia)
def Net.eO(N:Net)(k:Nat):Nat->Nat:=N.aN (fun _=>true) k
def Net.kF(N:Net)(k:Nat):Bool:=!decide (N.eO k (N.a k)=N.eO k (N.b k))
theorem AO(k:Nat):N.eO (k+1)=if N.kF k=true then join (N.eO k) (N.a k) (N.b k) else N.eO k:=by
 show N.aN (fun _=>true) (k+1)=_
 unfold Net.aN;rw[if_pos rfl];unfold Net.kF
 by_cases h:N.eO k (N.a k)=N.eO k (N.b k)
 ·rw[if_neg (by simp[h])]
  exact xZ h
 ·rw[if_pos (by simp[h])]
  rfl
theorem gG{m:Nat}(hf:∀ k,m.testBit k=true->k<N.n/\N.kF k=true)(he:N.cF m):m=0:=by
 by_cases h0:m=0
 ·exact h0
 exfalso
 have hK:m.testBit m.log2=true:=Nat.testBit_log2 h0;obtain⟨ON,TX⟩:=hf _ hK;generalize ZT:m.log2=K at hK ON TX;have hlt:m<2^(K+1):=by rw[<-ZT];exact Nat.lt_log2_self
 have hcl:=Jc (N:=N) (m:=m^^^2^K) (fun x=>decide (N.eO K x=N.eO K (N.a K))) fun k hk hb=>by
  have ZU:k<K:=by
   rw[Nat.testBit_xor,Nat.testBit_two_pow]at hb
   by_cases e:K=k
   ·subst e;simp[hK]at hb
   ·have hb' : m.testBit k=true:=by simpa[e]using hb
    have:k<K+1:=by
     by_cases q:k<K+1
     ·exact q
     ·have z:=Nat.testBit_lt_two_pow (Nat.lt_of_lt_of_le hlt (Nat.pow_le_pow_right (by decide) (show K+1<=k by lia)))
      rw[hb']at z;cases z
    lia
  have e:N.eO K (N.a k)=N.eO K (N.b k):=iN (S:=fun _=>true) ZU rfl
  show decide (N.eO K (N.a k)=_)=decide (N.eO K (N.b k)=_);rw[e]
 have e:bT (fun x=>decide (N.eO K x=N.eO K (N.a K))&&N.bd (m^^^2^K) x) N.p=bT (fun x=>decide (N.eO K x=N.eO K (N.a K))&&N.inc K x) N.p :=
  bR fun x hx=>by rw[gj,he x hx,lH ON];simp
 rw[e]at hcl;have e2:bT (fun x=>decide (N.eO K x=N.eO K (N.a K))&&N.inc K x) N.p=(decide (N.eO K (N.a K)=N.eO K (N.a K))^^decide (N.eO K (N.b K)=N.eO K (N.a K))):=by
  rw[<-jz (fun x=>decide (N.eO K x=N.eO K (N.a K))) (N.al K ON),<-jz (fun x=>decide (N.eO K x=N.eO K (N.a K))) (N.bl K ON),<-jy]
  refine bR fun x _=>?_
  unfold Net.inc;cases decide (N.eO K x=N.eO K (N.a K))<;>cases decide (N.a K=x)<;>cases decide (N.b K=x)<;>rfl
 rw[e2]at hcl;unfold Net.kF at TX;have hne : ¬ N.eO K (N.b K)=N.eO K (N.a K):=fun q=>by rw[q]at TX;simp at TX
 simp[hne]at hcl
def Net.trail(N:Net):Nat->Nat->Nat
 | 0=>fun _=>0
 | k+1=>if N.kF k=true then fun v=>if N.eO k v=max (N.eO k (N.a k)) (N.eO k (N.b k)) then Net.trail N k v^^^(Net.trail N k (N.a k)^^^Net.trail N k (N.b k)^^^2^k) else Net.trail N k v
   else Net.trail N k
theorem dU:∀(k v j:Nat),(N.trail k v).testBit j=true->j<k/\N.kF j=true
 | 0,v,j,h=>by simp[Net.trail]at h
 | k+1,v,j,h=>by
   have ih:=dU k;unfold Net.trail at h
   split at h
   ·rename_i hf
    dsimp only at h
    split at h
    ·rw[Nat.testBit_xor,Nat.testBit_xor,Nat.testBit_xor,Nat.testBit_two_pow]at h
     by_cases e:k=j
     ·subst e;exact⟨by lia,hf⟩
     ·have z : ¬((N.trail k v).testBit j=false/\(N.trail k (N.a k)).testBit j=false/\(N.trail k (N.b k)).testBit j=false):=by
       rintro⟨z1,z2,z3⟩;simp[z1,z2,z3,e]at h
      cases h1:(N.trail k v).testBit j with
      | true=>obtain⟨q,r⟩:=ih v j h1;exact⟨by lia,r⟩
      | false=>cases h2:(N.trail k (N.a k)).testBit j with
        | true=>obtain⟨q,r⟩:=ih _ j h2;exact⟨by lia,r⟩
        | false=>cases h3:(N.trail k (N.b k)).testBit j with
          | true=>obtain⟨q,r⟩:=ih _ j h3;exact⟨by lia,r⟩
          | false=>exact absurd ⟨h1,h2,h3⟩ z
    ·obtain⟨q,r⟩:=ih v j h;exact⟨by lia,r⟩
   ·obtain⟨q,r⟩:=ih v j h;exact⟨by lia,r⟩
theorem Jd(a b c d e f g h:Bool)(ZV:(d^^f)=(g^^h)):((a^^g)^^(((c^^d)^^(e^^f))^^(c^^e)))=(a^^h):=by
 have e1:(((c^^d)^^(e^^f))^^(c^^e))=(d^^f):=by cases c<;>cases d<;>cases e<;>cases f<;>rfl
 rw[e1,ZV];cases a<;>cases g<;>cases h<;>rfl
theorem ng:∀(k:Nat),k<=N.n->∀ v x,N.bd (N.trail k v) x=(decide (v=x)^^decide (N.eO k v=x))
 | 0,_,v,x=>by
   show N.bd 0 x=(decide (v=x)^^decide (v=x));rw[n5];simp
 | k+1,hk,v,x=>by
   have ih:=ng k (by lia)
   rw[AO];unfold Net.trail
   by_cases hf:N.kF k=true
   ·rw[if_pos hf,if_pos hf]
    by_cases hm:N.eO k v=max (N.eO k (N.a k)) (N.eO k (N.b k))
    ·have e:join (N.eO k) (N.a k) (N.b k) v=min (N.eO k (N.a k)) (N.eO k (N.b k)):=by unfold join;rw[if_pos hm]
     show N.bd (if N.eO k v=_ then _ else _) x=_
     rw[if_pos hm,e,gj,gj,gj,lH (by lia),ih,ih,ih]
     unfold Net.inc;refine Jd _ false _ _ _ _ _ _ ?_;rw[hm];rcases Nat.le_total (N.eO k (N.a k)) (N.eO k (N.b k)) with q|q
     ·rw[Nat.max_eq_right q,Nat.min_eq_left q,Bool.xor_comm]
     ·rw[Nat.max_eq_left q,Nat.min_eq_right q]
    ·have e:join (N.eO k) (N.a k) (N.b k) v=N.eO k v:=by unfold join;rw[if_neg hm]
     show N.bd (if N.eO k v=_ then _ else _) x=_
     rw[if_neg hm,e,ih]
   ·rw[if_neg hf,if_neg hf];exact ih v x
def Net.ring(N:Net)(c:Nat):Nat:=N.trail N.n (N.a c)^^^N.trail N.n (N.b c)^^^2^c
theorem Je{c:Nat}(h:c<N.n):N.eO N.n (N.a c)=N.eO N.n (N.b c):=iN (S:=fun _=>true) h rfl
theorem jl{c:Nat}(h:c<N.n):N.cF (N.ring c):=fun x _=>by
 unfold Net.ring;rw[gj,gj,lH h,ng _ (Nat.le_refl _),ng _ (Nat.le_refl _),Je h];unfold Net.inc;cases decide (N.a c=x)<;>cases decide (N.b c=x)<;>cases decide (N.eO N.n (N.b c)=x)<;>rfl
theorem kY{c j:Nat}(h:(N.ring c).testBit j=true):j=c\/(j<N.n/\N.kF j=true):=by
 unfold Net.ring at h;rw[Nat.testBit_xor,Nat.testBit_xor,Nat.testBit_two_pow]at h
 by_cases e:c=j
 ·exact .inl e.symm
 ·right
  cases h1:(N.trail N.n (N.a c)).testBit j with
  | true=>exact dU _ _ _ h1
  | false=>cases h2:(N.trail N.n (N.b c)).testBit j with
    | true=>exact dU _ _ _ h2
    | false=>simp[h1,h2,e]at h
theorem qo{c:Nat}(hf:N.kF c=false):(N.ring c).testBit c=true:=by
 unfold Net.ring;rw[Nat.testBit_xor,Nat.testBit_xor,Nat.testBit_two_pow];cases h1:(N.trail N.n (N.a c)).testBit c with
 | true=>obtain⟨_,q⟩:=dU _ _ _ h1;rw[hf]at q;cases q
 | false=>cases h2:(N.trail N.n (N.b c)).testBit c with
   | true=>obtain⟨_,q⟩:=dU _ _ _ h2;rw[hf]at q;cases q
   | false=>simp
theorem F8{j:Nat}(h:j<N.n)(hf:N.kF j=true):(N.trail N.n (N.a j)).testBit j=true\/(N.trail N.n (N.b j)).testBit j=true:=by
 have z:N.ring j=0:=gG (fun k hk=>by
  rcases kY hk with rfl|q
  ·exact⟨h,hf⟩
  ·exact q) (jl h)
 have b:(N.ring j).testBit j=false:=by rw[z];simp
 unfold Net.ring at b;rw[Nat.testBit_xor,Nat.testBit_xor,Nat.testBit_two_pow]at b;cases h1:(N.trail N.n (N.a j)).testBit j with
 | true=>exact .inl rfl
 | false=>cases h2:(N.trail N.n (N.b j)).testBit j with
   | true=>exact .inr rfl
   | false=>simp[h1,h2]at b
def cnt(f:Nat->Bool):Nat->Nat
 | 0=>0
 | n+1=>cnt f n+(if f n=true then 1 else 0)
theorem eY{f g:Nat->Bool}:∀{n:Nat},(∀ k,k<n->f k=g k)->cnt f n=cnt g n
 | 0,_=>rfl
 | n+1,h=>by
   unfold cnt;rw[eY fun k hk=>h k (by lia),h n (by lia)]
theorem uS{f g:Nat->Bool}{h:Nat}(hg:g h=true):∀{p:Nat},h<p->(∀ x,x<p->f x=(g x && !decide (x=h)))->cnt g p=cnt f p+1
 | 0,hh,_=>absurd hh (Nat.not_lt_zero _)
 | p+1,hh,e=>by
   unfold cnt
   by_cases q:h=p
   ·subst q;have z:cnt g h=cnt f h:=eY fun k hk=>by rw[e k (by lia)];simp[show k≠h by lia]
    rw[z,if_pos hg,e h (by lia)]
    simp
   ·rw[uS hg (by lia) fun x hx=>e x (by lia),e p (by lia)]
    simp[Ne.symm q]
    lia
theorem hU(f:Nat->Bool):∀ n,((List.range n).filter f).length=cnt f n
 | 0=>rfl
 | n+1=>by
   rw[List.range_succ,List.filter_append,List.length_append,hU f n];show _=cnt f n+(if f n=true then 1 else 0)
   cases h:f n with
   | true=>rw[List.filter_cons,if_pos h];rfl
   | false=>rw[List.filter_cons,if_neg (by rw[h];simp)];rfl
theorem jW(f:Nat->Bool):∀ n,cnt f n+cnt (fun k=>!f k) n=n
 | 0=>rfl
 | n+1=>by
   have ih:=jW f n;unfold cnt;cases h:f n<;>simp<;>lia
theorem yV{f:Nat->Bool}:∀{n:Nat},(∀ k,k<n->f k=true)->cnt f n=n
 | 0,_=>rfl
 | n+1,h=>by
   unfold cnt;rw[yV fun k hk=>h k (by lia),if_pos (h n (by lia))]
variable {N:Net}{S:Nat->Bool}
def Net.root(N:Net)(S:Nat->Bool)(k x:Nat):Bool:=decide (N.aN S k x=x)
theorem gr(k:Nat):N.aN S (k+1)=if S k=true then join (N.aN S k) (N.a k) (N.b k) else N.aN S k:=by
 conv=>lhs;unfold Net.aN
theorem jX{k x:Nat}(h:x<N.p):N.aN S k x<N.p:=Nat.lt_of_le_of_lt (qm k x) h
theorem F9{L:Nat->Nat}{u v:Nat}(hr:∀ x,L (L x)=L x)(hne:L u≠L v)(x:Nat):decide (join L u v x=x)=(decide (L x=x) && !decide (x=max (L u) (L v))):=by
 have hhi:L (max (L u) (L v))=max (L u) (L v):=by
  rcases Nat.le_total (L u) (L v) with q|q
  ·rw[Nat.max_eq_right q];exact hr v
  ·rw[Nat.max_eq_left q];exact hr u
 have hlo:L (min (L u) (L v))=min (L u) (L v):=by
  rcases Nat.le_total (L u) (L v) with q|q
  ·rw[Nat.min_eq_left q];exact hr u
  ·rw[Nat.min_eq_right q];exact hr v
 unfold join
 by_cases h:L x=max (L u) (L v)
 ·rw[if_pos h];have h1 : ¬ min (L u) (L v)=x:=fun z=>by
   rw[<-z,hlo]at h
   lia
  by_cases h2:x=max (L u) (L v)
  ·simp[h1,h2]
   lia
  ·have h3 : ¬ L x=x:=fun z=>h2 (z.symm.trans h)
   simp[h1,h3]
 ·rw[if_neg h];have h2 : ¬ x=max (L u) (L v):=fun z=>h (by rw[z];exact hhi)
  simp[h2]
theorem uT{k:Nat}(hk:k<N.n):cnt (N.root S k) N.p=cnt (N.root S (k+1)) N.p+(if(S k && !decide (N.aN S k (N.a k)=N.aN S k (N.b k)))=true then 1 else 0):=by
 cases hs:S k with
 | false =>
   have e:N.root S (k+1)=N.root S k:=by unfold Net.root;rw[gr,if_neg (by rw[hs];simp)]
   rw[e];simp
 | true =>
   by_cases h:N.aN S k (N.a k)=N.aN S k (N.b k)
   ·have e:N.root S (k+1)=N.root S k:=by unfold Net.root;rw[gr,if_pos hs,xZ h]
    rw[e];simp[h]
   ·have hhi:N.aN S k (max (N.aN S k (N.a k)) (N.aN S k (N.b k)))=max (N.aN S k (N.a k)) (N.aN S k (N.b k)):=by
     rcases Nat.le_total (N.aN S k (N.a k)) (N.aN S k (N.b k)) with q|q
     ·rw[Nat.max_eq_right q];exact bY _ _
     ·rw[Nat.max_eq_left q];exact bY _ _
    have h1:=jX (S:=S) (k:=k) (N.al k hk);have h2:=jX (S:=S) (k:=k) (N.bl k hk);rw[uS (f:=N.root S (k+1)) (g:=N.root S k) (h:=max (N.aN S k (N.a k)) (N.aN S k (N.b k))) (cD hhi) (by lia) fun x _=>by
     unfold Net.root;rw[gr,if_pos hs];exact F9 (bY k) h x]
    simp[h]
theorem qp:∀ k,k<=N.n->cnt (N.root (fun _=>true) k) N.p+cnt N.kF k=N.p
 | 0,_=>by
   show cnt (N.root (fun _=>true) 0) N.p+0=N.p
   rw[yV (f:=N.root (fun _=>true) 0) fun x _=>cD rfl]
   rfl
 | k+1,hk=>by
   have ih:=qp k (by lia)
   have st:=uT (N:=N) (S:=fun _=>true) (k:=k) (by lia)
   have e:((fun _=>true:Nat->Bool) k && !decide (N.aN (fun _=>true) k (N.a k)=N.aN (fun _=>true) k (N.b k)))=N.kF k:=by rw[Bool.true_and];rfl
   rw[e]at st;show cnt (N.root (fun _=>true) (k+1)) N.p+(cnt N.kF k+if N.kF k=true then 1 else 0)=N.p
   lia
theorem AQ:(N.n:Int)-N.p+cnt (N.root (fun _=>true) N.n) N.p=(cnt (fun k=>!N.kF k) N.n:Nat):=by
 have h:=qp (N:=N) N.n (Nat.le_refl _);have h2:=jW N.kF N.n
 lia
def Net.az(N:Net):List Nat:=(List.range N.n).filter fun k=>!N.kF k
theorem br{c:Nat}:c∈N.az↔c<N.n/\N.kF c=false:=by
 unfold Net.az;rw[List.mem_filter,List.mem_range];simp
theorem C1:N.az.length=cnt (fun k=>!N.kF k) N.n:=hU _ _
theorem cu{m n:Nat}(h:∀ k,m.testBit k=true->k<n):m<2^n:=Nat.lt_pow_two_of_testBit m fun k hk=>by
 cases q:m.testBit k with
 | false=>rfl
 | true=>exact absurd (h k q) (by lia)
theorem bB{m n k:Nat}(h:m<2^n)(hb:m.testBit k=true):k<n:=by
 by_cases q:k<n
 ·exact q
 ·have z:=Nat.testBit_lt_two_pow (Nat.lt_of_lt_of_le h (Nat.pow_le_pow_right (by decide) (show n<=k by lia)))
  rw[hb]at z;cases z
theorem jA{m q:Nat}(hm:m<2^N.n)(hq:q<2^N.n)(em:N.cF m)(eq:N.cF q)(h:∀ c,c<N.n->N.kF c=false->m.testBit c=q.testBit c):m=q:=by
 have z:m^^^q=0:=gG (N:=N) (fun k hk=>by
  have hk':=bB (Nat.xor_lt_two_pow hm hq) hk;refine⟨hk',?_⟩;cases hf:N.kF k with
  | true=>rfl
  | false =>
    rw[Nat.testBit_xor,h k hk' hf]at hk;simp at hk) (cF.xor em eq)
 have e:m=m^^^q^^^q:=by rw[Nat.xor_assoc,Nat.xor_self,Nat.xor_zero]
 rw[e,z,Nat.zero_xor]
theorem n6{c:Nat}(h:c<N.n):N.ring c<2^N.n:=cu fun k hk=>by
 rcases kY hk with rfl|⟨q,_⟩
 ·exact h
 ·exact q
theorem gm{c d:Nat}(hc:N.kF c=false)(hd:N.kF d=false):(N.ring c).testBit d=decide (c=d):=by
 by_cases e:c=d
 ·subst e;rw[qo hc];simp
 ·cases q:(N.ring c).testBit d with
  | false=>simp[e]
  | true=>rcases kY q with rfl | ⟨_,r⟩
          ·exact absurd rfl e
          ·rw[hd]at r;cases r
def Net.eG(N:Net)(number:Nat):List Nat->Nat->Nat
 | [],_=>0
 | c::r,i=>(if number.testBit i=true then N.ring c else 0)^^^Net.eG N number r (i+1)
theorem n8{number:Nat}:∀{l:List Nat} {i:Nat},(∀ c∈l,c<N.n)->N.cF (N.eG number l i)/\N.eG number l i<2^N.n
 | [],_,_=>⟨cF.zero,Nat.two_pow_pos _⟩
 | c::r,i,h=>by
   obtain⟨h1,h2⟩:=n8 (number:=number) (l:=r) (i:=i+1) fun d hd=>h d (kU _ hd)
   have hc:=h c List.mem_cons_self;unfold Net.eG
   split
   ·exact⟨cF.xor (jl hc) h1,Nat.xor_lt_two_pow (n6 hc) h2⟩
   ·rw[Nat.zero_xor];exact⟨h1,h2⟩
theorem AR{number d:Nat}(hd:N.kF d=false):∀{l:List Nat} {i:Nat},(∀ c∈l,N.kF c=false)->d∉l->(N.eG number l i).testBit d=false
 | [],_,_,_=>by simp[Net.eG]
 | c::r,i,h,hn=>by
   have ih:=AR (number:=number) (d:=d) hd (l:=r) (i:=i+1) (fun e he=>h e (kU _ he)) fun q=>hn (kU _ q)
   unfold Net.eG;rw[Nat.testBit_xor,ih]
   split
   ·rw[gm (h c List.mem_cons_self) hd];have:c≠d:=fun q=>hn (by rw[q];exact List.mem_cons_self)
    simp[this]
   ·simp
theorem AS{number:Nat}:∀{l:List Nat} {i j:Nat} {d:Nat},l.Nodup->(∀ c∈l,N.kF c=false)->l[j]?=some d->(N.eG number l i).testBit d=number.testBit (i+j)
 | [],_,_,_,_,_,h=>by simp at h
 | c::r,i,0,d,hn,hf,h=>by
   have e:c=d:=by simpa using h
   subst e;have hc:=hf c List.mem_cons_self;unfold Net.eG;rw[Nat.testBit_xor,AR hc (fun e he=>hf e (kU _ he)) (List.nodup_cons.mp hn).1]
   cases q:number.testBit (i+0) with
   | true=>rw[if_pos (by simpa using q),qo hc];rfl
   | false=>rw[if_neg (by simpa using q)];simp
 | c::r,i,j+1,d,hn,hf,h=>by
   have h' : r[j]?=some d:=by simpa using h
   have hd:d∈r:=iT h';have ih:=AS (number:=number) (l:=r) (i:=i+1) (j:=j) (d:=d) (List.nodup_cons.mp hn).2 (fun e he=>hf e (kU _ he)) h'
   unfold Net.eG;rw[Nat.testBit_xor,ih];have hne:c≠d:=fun q=>(List.nodup_cons.mp hn).1 (q▸hd)
   have z:(if number.testBit i=true then N.ring c else 0).testBit d=false:=by
    split
    ·rw[gm (hf c List.mem_cons_self) (hf d (kU _ hd))];simp[hne]
    ·simp
   rw[z,show i+1+j=i+(j+1) by lia]
   simp
end RM
namespace Ring
open PySem L2
def maskOf(f:Nat->Bool):Nat->Nat
 | 0=>0
 | n+1=>(if f n=true then 2^n else 0)+maskOf f n
theorem mask_lt(f:Nat->Bool):∀ n,maskOf f n<2^n
 | 0=>by show 0<1;decide
 | n+1=>by
   have ih:=mask_lt f n;have e:2^(n+1)=2^n+2^n:=by rw[Nat.pow_succ];lia
   unfold maskOf
   split<;>lia
theorem mask_bit(f:Nat->Bool)(j:Nat):∀ n,(maskOf f n).testBit j=(decide (j<n)&&f j)
 | 0=>by simp[maskOf]
 | n+1=>by
   have ih:=mask_bit f j n;have hl:=mask_lt f n;unfold maskOf
   by_cases h:f n=true
   ·rw[if_pos h];rcases Nat.lt_trichotomy j n with q|q|q
    ·rw[Nat.testBit_two_pow_add_gt q,ih];simp[q,show j<n+1 by lia]
    ·subst q;rw[Nat.testBit_two_pow_add_eq,ih];simp[h]
    ·have z:2^n+maskOf f n<2^j:=Nat.lt_of_lt_of_le (show 2^n+maskOf f n<2^(n+1) by rw[Nat.pow_succ];lia) (Nat.pow_le_pow_right (by decide) q)
     rw[Nat.testBit_lt_two_pow z];simp[show ¬ j<n+1 by lia]
   ·rw[if_neg h,Nat.zero_add,ih]
    by_cases q:j=n
    ·subst q;have h' : f j=false:=by simpa using h
     simp[h']
    ·by_cases r:j<n
     ·simp[r,show j<n+1 by lia]
     ·simp[r,show ¬ j<n+1 by lia]
theorem Jf(n:Nat):maskOf (fun _=>true) n=2^n-1:=by
 induction n with
 | zero=>rfl
 | succ n ih =>
   unfold maskOf;rw[ih,if_pos rfl,Nat.pow_succ];have:=Nat.two_pow_pos n
   lia
theorem ET(n j:Nat):(2^n-1).testBit j=decide (j<n):=by
 rw[<-Jf,mask_bit];simp
theorem OO{a b x y:Nat}(q:x/2+y/2=a/2+b/2)(h:x%2+y%2=a%2+b%2):x+y=a+b:=by lia
theorem OP{u v:Nat}(hu:u=0\/u=1)(hv:v=0\/v=1):(u ||| v)+(u&&&v)=u+v:=by
 rcases hu with rfl|rfl<;>rcases hv with rfl|rfl<;>rfl
theorem OQ:∀ a b:Nat,(a ||| b)+(a&&&b)=a+b:=by
 intro a
 induction a using Nat.strongRecOn with
 | ind a ih =>
   intro b
   by_cases h:a=0
   ·subst h;simp
   ·have q:=ih (a/2) (by lia) (b/2)
    rw[<-Nat.or_div_two,<-Nat.and_div_two]at q;refine OO q ?_;have e1:(a ||| b)%2=a%2 ||| b%2:=Nat.or_mod_two_pow (n:=1)
    have e2:(a&&&b)%2=a%2&&&b%2:=Nat.and_mod_two_pow (n:=1);rw[e1,e2];exact OP (Nat.mod_two_eq_zero_or_one a) (Nat.mod_two_eq_zero_or_one b)
theorem or_int(a b:Nat):Builtin.bitOr (a:Int) (b:Int)=((a ||| b:Nat):Int):=by
 have q:=OQ a b;rw[PyProof.Rows.bitOr_and,PyProof.Rows.bitAnd_pp (by lia) (by lia)]
 have h:(a:Int)+b-((a&&&b:Nat):Int)=((a ||| b:Nat):Int):=by lia
 simpa using h
theorem jY(k:Nat):(1:Int)*2^(k:Int).toNat=((2^k:Nat):Int):=by
 rw[Int.toNat_natCast,Int.one_mul];simp
theorem gv{ts:List c6}{k:Nat}(h:k<ts.length):bU ts k∈ts:=by
 unfold bU;rw[List.getD_eq_getElem?_getD];simp[h]
theorem qZ{ts:List c6}{k:Nat}(h:k<ts.length):ts[k]?=some (bU ts k):=by
 unfold bU;rw[List.getD_eq_getElem?_getD];simp[h]
def aC.N{p:Nat}{ts:List c6}(g:aC p ts):RM.Net where
 p:=p
 n:=ts.length
 a:=fun k=>(bU ts k).1.toNat
 b:=fun k=>(bU ts k).2.1.toNat
 al:=fun k hk=>by
  have z:=g.yU _ (gv hk);have z0:=z.a0;have z1:=z.a1
  lia
 bl:=fun k hk=>by
  have z:=g.yU _ (gv hk);have z0:=z.b0;have z1:=z.b1
  lia
 ne:=fun k hk e=>by
  have z:=g.yU _ (gv hk);have z0:=z.a0;have z1:=z.b0;exact z.ne (by lia)
theorem EU{p:Nat}{ts:List c6}{g:aC p ts}{k:Nat}(h:k<ts.length):(bU ts k).1=((g.N.a k:Nat):Int):=by
 have z:=(g.yU _ (gv h)).a0;show _=(((bU ts k).1.toNat:Nat):Int)
 lia
theorem EV{p:Nat}{ts:List c6}{g:aC p ts}{k:Nat}(h:k<ts.length):(bU ts k).2.1=((g.N.b k:Nat):Int):=by
 have z:=(g.yU _ (gv h)).b0;show _=(((bU ts k).2.1.toNat:Nat):Int)
 lia
theorem Mk{p:Nat}{ts:List c6}{g:aC p ts}{k:Nat}(h:k<ts.length)(x:Nat):Ls ts k x%2=if g.N.inc k x=true then 1 else 0:=by
 unfold Ls RM.Net.inc;rw[qZ h];dsimp only;rw[EU (g:=g) h,EV (g:=g) h];generalize g.N.a k=u;generalize g.N.b k=v
 by_cases h1:u=x
 ·by_cases h2:v=x
  ·simp[h1,h2]
  ·have OJ : ¬((v:Int)=(x:Int)):=by lia
   simp[h1,h2,OJ]
 ·have IS : ¬((u:Int)=(x:Int)):=by lia
  by_cases h2:v=x
  ·simp[h1,h2,IS]
  ·have OJ : ¬((v:Int)=(x:Int)):=by lia
   simp[h1,h2,IS,OJ]
theorem Jg{p:Nat}{ts:List c6}{g:aC p ts}(m x:Nat):∀ n,n<=ts.length->((List.range n).map fun k=>if m.testBit k=true then Ls ts k x else 0).sum%2=if RM.bT (fun k=>m.testBit k&&g.N.inc k x) n=true then 1 else 0
 | 0,_=>rfl
 | n+1,h=>by
   have ih:=Jg (g:=g) m x n (by lia)
   have hd:=Mk (g:=g) (k:=n) (by lia) x
   rw[List.range_succ,List.map_append,List.sum_append];show(_+((if m.testBit n=true then Ls ts n x else 0)+0))%2=if(RM.bT _ n^^(m.testBit n&&g.N.inc n x))=true then 1 else 0
   generalize ((List.range n).map fun k=>if m.testBit k=true then Ls ts k x else 0).sum=u at ih ⊢
   generalize RM.bT (fun k=>m.testBit k&&g.N.inc k x) n=v at ih ⊢
   generalize g.N.inc n x=i at hd ⊢;generalize Ls ts n x=d at hd ⊢;cases m.testBit n<;>cases v<;>cases i<;>simp at ih hd ⊢ <;> lia
theorem EW{p:Nat}{ts:List c6}(g:aC p ts){m:Nat}(hm:m<2^ts.length){x:Nat}:decide ((kE p ts (m:Int)).getD x 0%2=1)=g.N.bd m x:=by
 rw[IY g.F5.WX,fL hm,sum_filter];have h:=Jg (g:=g) m x ts.length (Nat.le_refl _);rw[h];show _=RM.bT _ ts.length;generalize RM.bT (fun k=>m.testBit k&&g.N.inc k x) ts.length=v
 cases v<;>simp
theorem AU{p:Nat}{ts:List c6}(g:aC p ts){m:Nat}(hm:m<2^ts.length):uO p ts (m:Int)=[]↔g.N.cF m:=by
 unfold uO;rw[List.filter_eq_nil_iff]
 constructor
 ·intro h x hx;have q:=h x (List.mem_range.mpr hx);rw[EW g hm]at q
  simpa using q
 ·intro h x hx;rw[EW g hm,h x (List.mem_range.mp hx)];simp
def cA(f:Nat->Nat)(n:Nat):List V:=(List.range n).map fun x=>V.int ((f x:Nat):Int)
theorem bS(f:Nat->Nat)(n:Nat):(cA f n).length=n:=by unfold cA;rw[List.length_map,List.length_range]
theorem bN{f:Nat->Nat}{n x:Nat}(h:x<n):(cA f n)[x]?=some (.int ((f x:Nat):Int)):=by
 unfold cA;rw[List.getElem?_map,List.getElem?_range h];rfl
theorem jZ{f:Nat->Nat}{n x:Nat}{v:V}(h:(cA f n)[x]?=some v):x<n/\v = .int ((f x:Nat):Int):=by
 have hx:x<n:=by
  have:=(jQ.mp h).1
  rwa [bS]at this
 rw[bN hx]at h;exact⟨hx,(Option.some.inj h).symm⟩
theorem x8(f:Nat->Nat)(n:Nat):cA f (n+1)=cA f n++[.int ((f n:Nat):Int)]:=by
 unfold cA;rw[List.range_succ,List.map_append];rfl
theorem uU{f g:Nat->Nat}{n:Nat}(h:∀ x,x<n->f x=g x):cA f n=cA g n:=by
 unfold cA;refine List.map_congr_left fun x hx=>?_
 rw[h x (List.mem_range.mp hx)]
theorem AV(p:Nat):(List.replicate p [V.int 0]).flatten=cA (fun _=>0) p:=by
 induction p with
 | zero=>rfl
 | succ p ih =>
   rw[x8,<-ih,List.replicate_succ',List.flatten_append];rfl
def uV(f:Nat->Nat)(H:Hp)(D:Addr)(i:Nat)(acc:List V)(H2:Hp):Prop:=aq H H2/\H2 D=some (.lst acc)/\acc=cA f i
section
variable {f:Nat->Nat}{H H2 H3:Hp}{D:Addr}{i:Nat}{acc:List V}{v:V}
theorem uV.start(hD:H D=none):uV f H D 0 [] (upd H D (.lst [])):=⟨aq.new hD,ae,rfl⟩
theorem uV.len(p:uV f H D i acc H2):H2 D=some (.lst acc)/\acc.length<=i:=⟨p.2.1,by rw[p.2.2,bS];exact Nat.le_refl _⟩
theorem uV.next(p:uV f H D i acc H2)(hD:H D=none)(s:aq H2 H3)(hv:v = .int ((f i:Nat):Int)):H3 D=some (.lst acc)/\uV f H D (i+1) (acc++[v]) (upd H3 D (.lst (acc++[v]))):=by
 refine⟨s _ _ p.2.1,(p.1.trans s).put hD,ae,?_⟩;rw[x8,<-p.2.2,hv]
end
theorem x9{N:RM.Net}{m:Nat}:∀ n,((List.range n).filter fun k=>m.testBit k).foldl (fun L k=>RM.join L (N.a k) (N.b k)) (fun x=>x)=N.aN (fun k=>m.testBit k) n
 | 0=>rfl
 | n+1=>by
   rw[aU,List.foldl_append,x9 n,RM.gr]
   split<;>rfl
end Ring
namespace RM
theorem uW{N:Net}{S S' : Nat->Bool}:∀{n:Nat},(∀ k,k<n->S k=S' k)->N.aN S n=N.aN S' n
 | 0,_=>rfl
 | n+1,h=>by rw[gr,gr,uW fun k hk=>h k (by lia),h n (by lia)]
end RM
namespace Ring
open PySem L2
def pieceOf(L:Nat->Nat)(p s:Nat):List Nat:=(List.range p).filter fun x=>decide (L x=s)
def eZ(L:Nat->Nat)(p:Nat):List Nat:=(List.range p).filter fun x=>decide (L x=x)
def Ny(D:Addr)(H0 H:Hp)(y:V)(l:List Nat):Prop:=∃ b,y = .ref b/\b≠D/\H0 b=none/\H b=some (.lst (ay l))
def uX(L:Nat->Nat)(p:Nat)(H:Hp)(D:Addr)(i:Nat)(H2:Hp):Prop:=aq H H2/\∃ ys,H2 D=some (.lst ys)/\Paired (Ny D H H2) ys ((eZ L i).map (pieceOf L p))/\ys.length<=i
section
variable {L:Nat->Nat}{p i:Nat}{H H2 H3:Hp}{D b:Addr}
theorem uX.start(hD:H D=none):uX L p H D 0 (upd H D (.lst [])):=⟨aq.new hD,[],ae,.nil,Nat.le_refl _⟩
theorem uY:eZ L (i+1)=eZ L i++(if L i=i then[i] else[]):=by
 unfold eZ;rw[aU]
 by_cases h:L i=i<;>simp[h]
theorem uX.skip(h:uX L p H D i H2)(hn : ¬ L i=i):uX L p H D (i+1) H2:=by
 obtain⟨s,ys,hd,pr,hl⟩:=h;refine⟨s,ys,hd,?_,by lia⟩
 rw[uY,if_neg hn,List.append_nil];exact pr
theorem uX.push(h:uX L p H D i H2)(hD:H D=none)(hr:L i=i)(s:aq H2 H3)(hb:H2 b=none)(ZW:H3 b=some (.lst (ay (pieceOf L p i)))):
 ∃ ys,H3 D=some (.lst ys)/\ys.length<=i/\uX L p H D (i+1) (upd H3 D (.lst (ys++[.ref b]))):=by
 obtain⟨s2,ys,hd,pr,hl⟩:=h;have Nx:=s _ _ hd;have WZ:b≠D:=fun e=>by rw[e,hd]at hb;cases hb
 refine⟨ys,Nx,hl,(s2.trans s).put hD,ys++[.ref b],ae,?_,by rw[List.length_append,List.length_singleton];lia⟩
 rw[uY,if_pos hr,List.map_append];refine Paired.snoc (Paired.imp' (fun _ _ ⟨e,he,hn,h0,q⟩=>⟨e,he,hn,h0,by rw[ao hn];exact s _ _ q⟩) pr) ?_
 exact⟨b,rfl,WZ,s2.free hb,by rw[ao WZ];exact ZW⟩
end
def sX(p:Nat)(ts:List c6)(g:aC p ts)(ks:List Nat):Nat->Nat:=ks.foldl (fun L k=>RM.join L (g.N.a k) (g.N.b k)) fun x=>x
theorem C3{p:Nat}{ts:List c6}{g:aC p ts}{ks:List Nat}{k:Nat}:sX p ts g (ks++[k])=RM.join (sX p ts g ks) (g.N.a k) (g.N.b k):=by
 unfold sX;rw[List.foldl_append];rfl
def bO(p:Nat)(ts:List c6)(g:aC p ts)(m:Nat):Nat->Nat:=g.N.aN (fun k=>m.testBit k) ts.length
theorem C4{p:Nat}{ts:List c6}{g:aC p ts}{m:Nat}(hm:m<2^ts.length):sX p ts g (bu (m:Int))=bO p ts g m:=by
 unfold sX bO;rw[fL hm];exact x9 _
theorem Ml{p:Nat}{ts:List c6}{g:aC p ts}:bO p ts g (2^ts.length-1)=g.N.eO ts.length:=by
 unfold bO RM.Net.eO;exact RM.uW fun k hk=>by rw[ET];simp[hk]
theorem Mm{p:Nat}{ts:List c6}{g:aC p ts}:(ts.length:Int)-(p:Int)+(eZ (bO p ts g (2^ts.length-1)) p).length=(g.N.az.length:Int):=by
 have h:=RM.AQ (N:=g.N);rw[RM.C1];unfold eZ;rw[RM.hU,Ml];exact h
theorem EX(a b:Nat):(if(b:Int)<(a:Int) then(b:Int) else(a:Int))=((min a b:Nat):Int):=by
 split<;>lia
theorem EY(a b:Nat):(if(b:Int) > (a:Int) then(b:Int) else(a:Int))=((max a b:Nat):Int):=by
 split<;>lia
theorem j6(a b:Nat):decide (V.int (a:Int)=V.int (b:Int))=decide (a=b):=by
 rw[Bool.eq_iff_iff];simp
 lia
end Ring
namespace RM
variable {N:Net}{S:Nat->Bool}
variable {pt r j:Nat}{l:List Nat}
theorem Jh{l:List Nat}:∀{p:Nat},l.Nodup->(∀ x∈l,x<p)->l.length<=p:=by
 intro p hn hl;have hp:l.Perm ((List.range p).filter fun x=>decide (x∈l)):=by
  refine(List.perm_ext_iff_of_nodup hn (List.Pairwise.filter _ List.nodup_range)).mpr fun a=>?_
  rw[List.mem_filter,List.mem_range];simp;exact fun h=>hl a h
 rw[hp.length_eq];have:=List.length_filter_le (fun x=>decide (x∈l)) (List.range p)
 rwa [List.length_range]at this
end RM
namespace Ring
open PySem L2
theorem C5{p:Nat}{f:Nat->Bool}:((List.range p).filter f).Pairwise (· < ·):=List.Pairwise.filter _ List.pairwise_lt_range
theorem gn(l:List Nat):ay l=(l.map fun x=>((x:Nat):Int)).map V.int:=by unfold ay;rw[List.map_map];rfl
theorem jB(u:Nat)(l:List Nat):Lq (.int (u:Int)) (ay l)=decide (u∈l):=by
 unfold Lq ay;rw[List.any_map,Bool.eq_iff_iff,List.any_eq_true];simp only[Function.comp,decide_eq_true_eq]
 constructor
 ·rintro⟨x,hx,h⟩;have e:((x:Nat):Int)=(u:Int):=eq_of_beq h;have:x=u:=by lia
  exact this▸hx
 ·intro h;exact⟨u,h,by simp[L1]⟩
theorem jm(l:List Nat):(ay l).all p9=true:=by
 unfold ay;rw[List.all_map,List.all_eq_true];intro x _;rfl
theorem and_int(a b:Nat):Builtin.bitAnd (a:Int) (b:Int)=((a&&&b:Nat):Int):=by
 rw[PyProof.Rows.bitAnd_pp (by lia) (by lia)]
 simp
end Ring
namespace RM
variable {N:Net}
theorem Ji{L:Nat->Nat}{u v x y:Nat}:join L u v x=join L u v y↔(L x=L y\/(L x=L u/\L y=L v)\/(L x=L v/\L y=L u)):=by
 constructor
 ·exact uR
 ·have e:=xY L u v;rintro(h|⟨h1,h2⟩|⟨h1,h2⟩)
  ·exact join_eq h
  ·rw[join_eq h1,join_eq h2,e]
  ·rw[join_eq h1,join_eq h2,e]
def OR(L:Nat->Nat)(u v:Nat):Nat->Nat:=fun x=>if L x=L v then L u else L x
theorem Mn{L:Nat->Nat}{u v x y:Nat}:OR L u v x=OR L u v y↔(L x=L y\/(L x=L u/\L y=L v)\/(L x=L v/\L y=L u)):=by
 unfold OR
 split<;>split<;>lia
end RM
namespace Ring
open PySem L2
def Qt(T:Nat->Nat):Nat->Nat
 | 0=>0
 | n+1=>Qt T n ||| T n
theorem EZ(T:Nat->Nat)(j:Nat):∀ n,(Qt T n).testBit j=true↔∃ x,x<n/\(T x).testBit j=true
 | 0=>by simp[Qt]
 | n+1=>by
   unfold Qt;rw[Nat.testBit_or,Bool.or_eq_true,EZ T j n]
   constructor
   ·rintro(⟨x,hx,h⟩|h)
    ·exact⟨x,by lia,h⟩
    ·exact⟨n,by lia,h⟩
   ·rintro⟨x,hx,h⟩
    by_cases e:x=n
    ·subst e;exact .inr h
    ·exact .inl ⟨x,by lia,h⟩
section
variable {p:Nat}{ts:List c6}{g:aC p ts}
def j7(p:Nat)(ts:List c6)(g:aC p ts):Nat:=maskOf g.N.kF ts.length
theorem C6:Qt (g.N.trail ts.length) p=j7 p ts g:=by
 refine Nat.eq_of_testBit_eq fun j=>?_
 unfold j7;rw[mask_bit,Bool.eq_iff_iff,EZ];simp only[Bool.and_eq_true,decide_eq_true_eq]
 constructor
 ·rintro⟨x,_,h⟩;exact RM.dU _ _ _ h
 ·rintro⟨h1,h2⟩;rcases RM.F8 (N:=g.N) h1 h2 with h|h
  ·exact⟨_,g.N.al j h1,h⟩
  ·exact⟨_,g.N.bl j h1,h⟩
theorem C7(j:Nat):((2^ts.length-1)^^^j7 p ts g).testBit j=(decide (j<ts.length) && !g.N.kF j):=by
 unfold j7;rw[Nat.testBit_xor,ET,mask_bit];cases decide (j<ts.length)<;>cases g.N.kF j<;>rfl
theorem yb:(2^ts.length-1)^^^j7 p ts g<2^ts.length:=Nat.xor_lt_two_pow (by have:=Nat.two_pow_pos ts.length;lia) (mask_lt _ _)
theorem AW:bu (((2^ts.length-1)^^^j7 p ts g:Nat):Int)=g.N.az:=by
 rw[fL yb];unfold RM.Net.az;refine List.filter_congr fun k hk=>?_
 have:=List.mem_range.mp hk;rw[C7];simp[this]
end
theorem Mp(n:Nat):((2:Int)^n-1)=((2^n-1:Nat):Int):=by
 have h:((2:Int)^n)=((2^n:Nat):Int):=by simp
 have:=Nat.two_pow_pos n
 lia
theorem OS{S:Int}{l:List Nat}(h:∀ c∈l,S≠((c:Nat):Int)):Lq (.int S) (ay l)=false:=by
 unfold Lq ay;rw[List.any_map,List.any_eq_false];intro x hx z;exact h x hx (eq_of_beq z).symm
theorem oX{c:Nat}:∀{n:Nat},c<n->(List.range n).filter (fun k=>decide (k=c))=[c]
 | 0,h=>absurd h (Nat.not_lt_zero _)
 | n+1,h=>by
   rw[aU]
   by_cases e:c=n
   ·subst e;have z:(List.range c).filter (fun k=>decide (k=c))=[]:=by
     rw[List.filter_eq_nil_iff];intro x hx;have:=List.mem_range.mp hx;simp
     lia
    rw[z];simp
   ·rw[oX (by lia)]
    simp[Ne.symm e]
theorem yW{l:List Nat}{i:Nat}{k:Nat}(h:l[i]?=some k):(ay l)[i]?=some (.int (k:Int)):=by
 unfold ay;rw[List.getElem?_map,h];rfl
def wN(f:Nat->Int)(l:List Nat)(H:Hp)(D:Addr)(i:Nat)(acc:List V)(H2:Hp):Prop:=aq H H2/\H2 D=some (.lst acc)/\acc=((l.take i).map f).map V.int
section
variable {f:Nat->Int}{l:List Nat}{H H2 H3:Hp}{D:Addr}{i k:Nat}{acc:List V}{v:V}
theorem wN.start(hD:H D=none):wN f l H D 0 [] (upd H D (.lst [])):=⟨aq.new hD,ae,rfl⟩
theorem wN.len(p:wN f l H D i acc H2):H2 D=some (.lst acc)/\acc.length<=i:=by
 refine⟨p.2.1,?_⟩;rw[p.2.2,List.length_map,List.length_map,List.length_take]
 lia
theorem wN.next(p:wN f l H D i acc H2)(hD:H D=none)(s:aq H2 H3)(hk:l[i]?=some k)(hv:v = .int (f k)):H3 D=some (.lst acc)/\wN f l H D (i+1) (acc++[v]) (upd H3 D (.lst (acc++[v]))):=by
 refine⟨s _ _ p.2.1,(p.1.trans s).put hD,ae,?_⟩;rw[List.take_add_one,hk,List.map_append,List.map_append,<-p.2.2,hv];rfl
theorem wN.fin(p:wN f l H D l.length acc H2):H2 D=some (.lst ((l.map f).map V.int)):=by rw[p.2.1,p.2.2,List.take_length]
end
end Ring
namespace RM
theorem uZ(f:Nat->Bool):∀ n,bT f n=decide (cnt f n%2=1)
 | 0=>rfl
 | n+1=>by
   unfold bT cnt;rw[uZ f n]
   by_cases h:f n=true
   ·rw[h,if_pos rfl]
    by_cases q:cnt f n%2=1
    ·have q' : ¬(cnt f n+1)%2=1:=by lia
     simp[q,q']
    ·have q' : (cnt f n+1)%2=1:=by lia
     simp[q,q']
   ·have h' : f n=false:=by simpa using h
    rw[h',if_neg (by decide)]
    simp
end RM
namespace Ring
open PySem L2
def lenOf(ts:List c6)(m:Nat):Int:=((bu (m:Int)).map fun k=>(bU ts k).2.2).sum
def Ga(ts:List c6)(f:Nat->Bool):Nat->Int
 | 0=>0
 | n+1=>Ga ts f n+(if f n=true then(bU ts n).2.2 else 0)
theorem sY(ts:List c6)(f:Nat->Bool):∀ n,(((List.range n).filter f).map fun k=>(bU ts k).2.2).sum=Ga ts f n
 | 0=>rfl
 | n+1=>by
   rw[aU,List.map_append,List.sum_append,sY ts f n];show _=Ga ts f n+(if f n=true then(bU ts n).2.2 else 0)
   split<;>simp
theorem Gb{ts:List c6}{m:Nat}(hm:m<2^ts.length):lenOf ts m=Ga ts (fun k=>m.testBit k) ts.length:=by
 unfold lenOf;rw[fL hm];exact sY ts _ _
section
variable {p:Nat}{ts:List c6}(g:aC p ts)
include g
end
end Ring
namespace L2
open PySem PySem.Spec PyProof.Rows
end L2
namespace Ring
open PySem L2
end Ring
namespace RM
def sm(f:Nat->Nat):Nat->Nat
 | 0=>0
 | n+1=>sm f n+f n
theorem fM{f g:Nat->Nat}:∀{n:Nat},(∀ k,k<n->f k=g k)->sm f n=sm g n
 | 0,_=>rfl
 | n+1,h=>by
   show sm f n+f n=sm g n+g n;rw[fM fun k hk=>h k (by lia),h n (by lia)]
theorem q9(f g:Nat->Nat):∀ n,sm (fun k=>f k+g k) n=sm f n+sm g n
 | 0=>rfl
 | n+1=>by
   show sm (fun k=>f k+g k) n+(f n+g n)=sm f n+f n+(sm g n+g n)
   rw[q9 f g n]
   lia
theorem uf:∀ n,sm (fun _=>0) n=0
 | 0=>rfl
 | n+1=>by
   show sm (fun _=>0) n+0=0
   rw[uf n]
theorem E1(f:Nat->Nat->Nat)(n:Nat):∀ p,sm (fun x=>sm (fun k=>f x k) n) p=sm (fun k=>sm (fun x=>f x k) p) n
 | 0=>(uf n).symm
 | p+1=>by
   show sm (fun x=>sm (fun k=>f x k) n) p+sm (fun k=>f p k) n=sm (fun k=>sm (fun x=>f x k) p+f p k) n
   rw[E1 f n p,q9]
theorem iU(f:Nat->Bool):∀ n,cnt f n=sm (fun k=>if f k=true then 1 else 0) n
 | 0=>rfl
 | n+1=>by
   show cnt f n+(if f n=true then 1 else 0)=sm (fun k=>if f k=true then 1 else 0) n+(if f n=true then 1 else 0)
   rw[iU f n]
theorem E2{f g:Nat->Nat}:∀{n:Nat},(∀ k,k<n->f k<=g k)->sm f n<=sm g n
 | 0,_=>Nat.le_refl _
 | n+1,h=>by
   have h1:=E2 (f:=f) (g:=g) (n:=n) fun k hk=>h k (by lia)
   have h2:=h n (by lia)
   show sm f n+f n<=sm g n+g n
   lia
theorem Jj{f g:Nat->Nat}{n:Nat}(h:∀ k,k<n->f k<=g k)(e:sm f n=sm g n):∀ k,k<n->f k=g k:=by
 induction n with
 | zero=>exact fun k hk=>absurd hk (Nat.not_lt_zero _)
 | succ n ih =>
   intro k hk;have h1:=E2 (f:=f) (g:=g) (n:=n) fun k hk=>h k (by lia)
   have h2:=h n (by lia)
   have e:sm f n+f n=sm g n+g n:=e
   by_cases hkn:k=n
   ·subst hkn
    lia
   ·exact ih (fun j hj=>h j (by lia)) (by lia) k (by lia)
theorem yX{f g:Nat->Bool}{n:Nat}(h:∀ k,k<n->f k=true->g k=true):cnt f n<=cnt g n:=by
 rw[iU,iU];refine E2 fun k hk=>?_
 by_cases hf:f k=true
 ·rw[if_pos hf,if_pos (h k hk hf)];exact Nat.le_refl _
 ·rw[if_neg hf];exact Nat.zero_le _
theorem AX{f g:Nat->Bool}{n:Nat}(h:∀ k,k<n->f k=true->g k=true)(e:cnt f n=cnt g n):∀ k,k<n->g k=true->f k=true:=fun k hk hg=>by
 rw[iU,iU]at e;have q:=Jj (n:=n) (fun k hk=>by
  by_cases hf:f k=true
  ·rw[if_pos hf,if_pos (h k hk hf)];exact Nat.le_refl _
  ·rw[if_neg hf];exact Nat.zero_le _) e k hk
 rw[if_pos hg]at q
 by_cases hf:f k=true
 ·exact hf
 ·rw[if_neg hf]at q
  lia
theorem nh{f:Nat->Bool}:∀{n:Nat},0<cnt f n->∃ k,k<n/\f k=true
 | 0,h=>absurd h (Nat.lt_irrefl _)
 | n+1,h=>by
   by_cases hf:f n=true
   ·exact⟨n,by lia,hf⟩
   ·have h:0<cnt f n+(if f n=true then 1 else 0):=h
    rw[if_neg hf]at h;obtain⟨k,hk,q⟩:=nh (f:=f) (n:=n) (by lia)
    exact⟨k,by lia,q⟩
theorem oh{f:Nat->Bool}{k:Nat}(hf:f k=true):∀{n:Nat},k<n->0<cnt f n
 | 0,h=>absurd h (Nat.not_lt_zero _)
 | n+1,h=>by
   show 0<cnt f n+(if f n=true then 1 else 0)
   by_cases hk:k=n
   ·subst hk;rw[if_pos hf]
    lia
   ·have:=oh hf (n:=n) (by lia)
    lia
theorem om{f:Nat->Bool}:∀{n:Nat},2<=cnt f n->∃ c d,c<d/\d<n/\f c=true/\f d=true
 | 0,h=>absurd h (by show ¬ 2<=0;lia)
 | n+1,h=>by
   have h:2<=cnt f n+(if f n=true then 1 else 0):=h
   by_cases hf:f n=true
   ·rw[if_pos hf]at h;obtain⟨k,hk,q⟩:=nh (f:=f) (n:=n) (by lia)
    exact⟨k,n,hk,by lia,q,hf⟩
   ·rw[if_neg hf]at h;obtain⟨c,d,h1,h2,h3,h4⟩:=om (f:=f) (n:=n) (by lia)
    exact⟨c,d,h1,by lia,h3,h4⟩
theorem ug{f:Nat->Bool}{u v:Nat}(hu:f u=true)(hv:f v=true)(ne:u≠v):∀{n:Nat},u<n->v<n->2<=cnt f n
 | 0,h,_=>absurd h (Nat.not_lt_zero _)
 | n+1,h1,h2=>by
   show 2<=cnt f n+(if f n=true then 1 else 0)
   by_cases e1:u=n
   ·subst e1;have:=oh hv (n:=u) (by lia)
    rw[if_pos hu]
    lia
   ·by_cases e2:v=n
    ·subst e2;have:=oh hu (n:=v) (by lia)
     rw[if_pos hv]
     lia
    ·have:=ug hu hv ne (n:=n) (by lia) (by lia)
     lia
theorem u4(a:Nat):∀ n,cnt (fun x=>decide (a=x)) n=if a<n then 1 else 0
 | 0=>rfl
 | n+1=>by
   show cnt (fun x=>decide (a=x)) n+(if decide (a=n)=true then 1 else 0)=_
   rw[u4 a n]
   by_cases e:a=n
   ·subst e;simp
   ·have d:(if decide (a=n)=true then 1 else 0)=0:=if_neg (by simpa using e)
    rw[d]
    by_cases h:a<n
    ·rw[if_pos h,if_pos (by lia)]
    ·rw[if_neg h,if_neg (by lia)]
theorem u6{f g:Nat->Bool}:∀{n:Nat},(∀ x,x<n->¬(f x=true/\g x=true))->cnt (fun x=>f x^^g x) n=cnt f n+cnt g n
 | 0,_=>rfl
 | n+1,h=>by
   show cnt (fun x=>f x^^g x) n+(if(f n^^g n)=true then 1 else 0)=cnt f n+(if f n=true then 1 else 0)+(cnt g n+(if g n=true then 1 else 0))
   rw[u6 fun x hx=>h x (by lia)]
   have q:=h n (by lia)
   cases hf:f n<;>cases hg:g n
   ·simp
   ·simp
    lia
   ·simp
    lia
   ·exact absurd ⟨hf,hg⟩ q
variable {N:Net}
def Net.dg(N:Net)(m x:Nat):Nat:=cnt (fun k=>m.testBit k&&N.inc k x) N.n
theorem AY(m x:Nat):N.bd m x=decide (N.dg m x%2=1):=uZ _ _
theorem uh{m x:Nat}(e:N.cF m)(hx:x<N.p):N.dg m x%2=0:=by
 have h:=e x hx;rw[AY]at h;have:=of_decide_eq_false h
 lia
theorem um{k x:Nat}(hk:k<N.n):N.inc k x=true↔(N.a k=x\/N.b k=x):=by
 have ne:=N.ne k hk;unfold Net.inc
 by_cases h1:N.a k=x
 ·have h2 : ¬ N.b k=x:=fun z=>ne (h1.trans z.symm)
  simp[h1,h2]
 ·by_cases h2:N.b k=x
  ·simp[h1,h2]
  ·simp[h1,h2]
theorem Mq{k:Nat}(hk:k<N.n):cnt (N.inc k) N.p=2:=by
 have ne:=N.ne k hk;have e:cnt (N.inc k) N.p=cnt (fun x=>decide (N.a k=x)^^decide (N.b k=x)) N.p:=rfl
 rw[e,u6 fun x _ ⟨h1,h2⟩=>ne ((i8 h1).trans (i8 h2).symm),u4,u4,if_pos (N.al k hk),if_pos (N.bl k hk)]
theorem yY(m:Nat):sm (fun x=>N.dg m x) N.p=2*cnt (fun k=>m.testBit k) N.n:=by
 have e:sm (fun x=>N.dg m x) N.p=sm (fun x=>sm (fun k=>if(m.testBit k&&N.inc k x)=true then 1 else 0) N.n) N.p:=fM fun x _=>iU _ _
 rw[e,E1,iU];have d:∀ n,2*sm (fun k=>if m.testBit k=true then 1 else 0) n=sm (fun k=>(if m.testBit k=true then 1 else 0)+(if m.testBit k=true then 1 else 0)) n:=fun n=>by
  rw[q9]
  lia
 rw[d];refine fM fun k hk=>?_
 by_cases h:m.testBit k=true
 ·rw[if_pos h];have q:=Mq hk;rw[iU]at q;show _=2;exact(fM fun x _=>by rw[h,Bool.true_and]).trans q
 ·rw[if_neg h];have h' : m.testBit k=false:=by simpa using h
  have:sm (fun x=>if(m.testBit k&&N.inc k x)=true then 1 else 0) N.p=sm (fun _=>0) N.p:=fM fun x _=>by rw[h'];rfl
  rw[this,uf]
theorem RU{q m:Nat}(h:∀ k,q.testBit k=true->m.testBit k=true)(x:Nat):N.dg q x<=N.dg m x:=yX fun k _ hq=>by
 rw[Bool.and_eq_true]at hq ⊢;exact⟨h k hq.1,hq.2⟩
theorem u9{m k x:Nat}(hk:k<N.n)(hb:m.testBit k=true)(hx:N.a k=x\/N.b k=x):0<N.dg m x:=oh (k:=k) (by rw[hb,Bool.true_and];exact(um hk).mpr hx) hk
theorem qt{m x:Nat}(h:0<N.dg m x):∃ k,k<N.n/\m.testBit k=true/\(N.a k=x\/N.b k=x):=by
 obtain⟨k,hk,q⟩:=nh h;rw[Bool.and_eq_true]at q;exact⟨k,hk,q.1,(um hk).mp q.2⟩
theorem alone{m x y:Nat}(h:N.dg m x=0)(c:N.mT (fun k=>m.testBit k) N.n x y):y=x:=by
 induction c with
 | refl=>rfl
 | fwd _ hj hs ih=>exact absurd (u9 hj hs (.inl ih)) (by lia)
 | bwd _ hj hs ih=>exact absurd (u9 hj hs (.inr ih)) (by lia)
theorem Gd{S:Nat->Bool}{k u v:Nat}(hk:k<=N.n)(c:N.mT S k u v):∃ t,(∀ j,t.testBit j=true->j<k/\S j=true)/\∀ x,N.bd t x=(decide (u=x)^^decide (v=x)):=by
 induction c with
 | refl=>exact⟨0,fun j hj=>by simp at hj,fun x=>by rw[n5];simp⟩
 | fwd _ hj hs ih =>
   rename_i j _
   obtain⟨t,h1,h2⟩:=ih;refine⟨t^^^2^j,fun i hi=>?_,fun x=>?_⟩
   ·rw[Nat.testBit_xor,Nat.testBit_two_pow]at hi
    by_cases e:j=i
    ·subst e;exact⟨hj,hs⟩
    ·rw[c7 e,Bool.xor_false]at hi;exact h1 i hi
   ·rw[gj,h2,lH (by lia)]
    unfold Net.inc;cases decide (u=x)<;>cases decide (N.a j=x)<;>cases decide (N.b j=x)<;>rfl
 | bwd _ hj hs ih =>
   rename_i j _
   obtain⟨t,h1,h2⟩:=ih;refine⟨t^^^2^j,fun i hi=>?_,fun x=>?_⟩
   ·rw[Nat.testBit_xor,Nat.testBit_two_pow]at hi
    by_cases e:j=i
    ·subst e;exact⟨hj,hs⟩
    ·rw[c7 e,Bool.xor_false]at hi;exact h1 i hi
   ·rw[gj,h2,lH (by lia)]
    unfold Net.inc;cases decide (u=x)<;>cases decide (N.a j=x)<;>cases decide (N.b j=x)<;>rfl
def Net.Ring(N:Net)(m:Nat):Prop:=m≠0/\N.cF m/\∀ q,(∀ k,q.testBit k=true->m.testBit k=true)->N.cF q->q=0\/q=m
section
variable {m s:Nat}
theorem E3(hm:m<2^N.n)(ev:N.cF m)(C:Nat->Bool)(hC:∀ x,x<N.p->C x=decide (N.aN (fun k=>m.testBit k) N.n x=s))(h2:2<=cnt C N.p)
 (Vq:∀ k,k<N.n->m.testBit k=true->C (N.a k)=true) (hl:cnt C N.p=cnt (fun k=>m.testBit k) N.n):N.Ring m:=by
 have Nz:∀ k,k<N.n->m.testBit k=true->C (N.a k)=true/\C (N.b k)=true:=fun k hk hb=>by
  have h:=Vq k hk hb;refine⟨h,?_⟩;rw[hC _ (N.al k hk)]at h;rw[hC _ (N.bl k hk)];rw[iN (S:=fun k=>m.testBit k) hk hb]at h
  exact h
 have pos:∀ x,x<N.p->C x=true->0<N.dg m x:=fun x hx hc=>by
  cases hz:N.dg m x with
  | succ d=>lia
  | zero =>
    exfalso
    obtain⟨y,hy,NB,hne⟩:∃ y,y<N.p/\C y=true/\y≠x:=by
     obtain⟨c,d,h1,h3,h4,h5⟩:=om h2
     by_cases e:c=x
     ·exact⟨d,h3,h5,by lia⟩
     ·exact⟨c,by lia,h4,e⟩
    rw[hC x hx]at hc;rw[hC y hy]at NB;exact hne (alone hz (bM _ _ _ ((i8 hc).trans (i8 NB).symm)))
 have two:∀ x,x<N.p->(if C x=true then 2 else 0)=N.dg m x:=by
  refine Jj (fun x hx=>?_) ?_
  ·by_cases hc:C x=true
   ·rw[if_pos hc];have h1:=pos x hx hc;have h3:=uh ev hx
    lia
   ·rw[if_neg hc];exact Nat.zero_le _
  ·rw[yY,<-hl,iU];have d:∀ n,2*sm (fun k=>if C k=true then 1 else 0) n=sm (fun k=>(if C k=true then 1 else 0)+(if C k=true then 1 else 0)) n:=fun n=>by
    rw[q9]
    lia
   rw[d];exact fM fun x _=>by split<;>rfl
 obtain⟨c0,hc0,hcc⟩:=nh (f:=C) (n:=N.p) (by lia)
 refine⟨fun z=>?_,ev,fun q hq eq=>?_⟩
 ·have h:=pos c0 hc0 hcc;obtain⟨k,_,hb,_⟩:=qt h;rw[z]at hb;simp at hb
 ·by_cases C8:q=0
  ·exact .inl C8
  ·right
   have full:∀ x,x<N.p->0<N.dg q x->∀ k,k<N.n->m.testBit k=true->(N.a k=x\/N.b k=x)->q.testBit k=true:=fun x hx h k hk hb Lu=>by
    have h1:=RU (N:=N) hq x;have h3:=uh eq hx;have h4:=two x hx;have h5:N.dg q x=N.dg m x:=by
     by_cases hc:C x=true
     ·rw[if_pos hc]at h4
      lia
     ·rw[if_neg hc]at h4
      lia
    have h6:=AX (f:=fun k=>q.testBit k&&N.inc k x) (g:=fun k=>m.testBit k&&N.inc k x) (n:=N.n) (fun k _ z=>by
     rw[Bool.and_eq_true]at z ⊢;exact⟨hq k z.1,z.2⟩) h5 k hk (by rw[hb,Bool.true_and];exact(um hk).mpr Lu)
    rw[Bool.and_eq_true]at h6;exact h6.1
   obtain⟨k0,hb0⟩:∃ k,q.testBit k=true:=Nat.exists_testBit_of_ne_zero C8;have hk0:k0<N.n:=bB hm (hq k0 hb0);have spread:∀{y},N.mT (fun k=>m.testBit k) N.n (N.a k0) y->0<N.dg q y:=fun {y} c=>by
    induction c with
    | refl=>exact u9 hk0 hb0 (.inl rfl)
    | fwd _ hj hs ih=>exact u9 hj (full _ (N.al _ hj) ih _ hj hs (.inl rfl)) (.inr rfl)
    | bwd _ hj hs ih=>exact u9 hj (full _ (N.bl _ hj) ih _ hj hs (.inr rfl)) (.inl rfl)
   refine Nat.eq_of_testBit_eq fun k=>?_
   cases hb:m.testBit k with
   | false =>
     cases hz:q.testBit k with
     | false=>rfl
     | true =>
       have:=hq k hz;rw[hb]at this;cases this
   | true =>
     have hk:=bB hm hb;have e1:=(Nz k hk hb).1;have e2:=(Nz k0 hk0 (hq k0 hb0)).1;rw[hC _ (N.al k hk)]at e1;rw[hC _ (N.al k0 hk0)]at e2;exact full _ (N.al k hk) (spread (bM _ _ _ ((i8 e2).trans (i8 e1).symm))) k hk hb (.inl rfl)
theorem pB(hm:m<2^N.n)(r:N.Ring m):∃ k0,k0<N.n/\m.testBit k0=true/\∀ k,k<N.n->m.testBit k=true->N.aN (fun k=>m.testBit k) N.n (N.a k)=N.aN (fun k=>m.testBit k) N.n (N.a k0):=by
 obtain⟨h0,ev,mn⟩:=r;obtain⟨k0,hb0⟩:=Nat.exists_testBit_of_ne_zero h0;have hk0:=bB hm hb0;refine⟨k0,hk0,hb0,?_⟩;generalize hs:N.aN (fun k=>m.testBit k) N.n (N.a k0)=s
 have bit:∀ k,(Ring.maskOf (fun k=>m.testBit k&&decide (N.aN (fun k=>m.testBit k) N.n (N.a k)=s)) N.n).testBit k=(decide (k<N.n)&&(m.testBit k&&decide (N.aN (fun k=>m.testBit k) N.n (N.a k)=s))):=fun k=>Ring.mask_bit _ k _
 have sub:∀ k,(Ring.maskOf (fun k=>m.testBit k&&decide (N.aN (fun k=>m.testBit k) N.n (N.a k)=s)) N.n).testBit k=true->m.testBit k=true:=fun k hk=>by
  rw[bit,Bool.and_eq_true,Bool.and_eq_true]at hk;exact hk.2.1
 have Vr:N.cF (Ring.maskOf (fun k=>m.testBit k&&decide (N.aN (fun k=>m.testBit k) N.n (N.a k)=s)) N.n):=fun x hx=>by
  have e:N.bd (Ring.maskOf (fun k=>m.testBit k&&decide (N.aN (fun k=>m.testBit k) N.n (N.a k)=s)) N.n) x=(decide (N.aN (fun k=>m.testBit k) N.n x=s)&&N.bd m x):=by
   unfold Net.bd;rw[<-qj];refine bR fun k hk=>?_
   rw[bit,cD hk,Bool.true_and];cases hb:m.testBit k with
   | false=>simp
   | true =>
     cases hi:N.inc k x with
     | false=>simp
     | true =>
       have el:N.aN (fun k=>m.testBit k) N.n (N.a k)=N.aN (fun k=>m.testBit k) N.n x:=by
        rcases(um hk).mp hi with z|z
        ·rw[z]
        ·rw[<-z];exact iN (S:=fun k=>m.testBit k) hk hb
       rw[el];simp
  rw[e,ev x hx,Bool.and_false]
 rcases mn _ sub Vr with q|q
 ·have:=bit k0;rw[q,hb0,hs,cD hk0]at this;simp at this
 ·intro k hk hb;have h:=bit k;rw[q,hb,cD hk]at h;exact i8 (by simpa using h.symm)
theorem yc(S:Nat->Bool):∀ k,k<=N.n->cnt (N.root S k) N.p+cnt (fun j=>S j && !decide (N.aN S j (N.a j)=N.aN S j (N.b j))) k=N.p
 | 0,_=>by
   show cnt (N.root S 0) N.p+0=N.p;rw[yV (f:=N.root S 0) fun x _=>cD rfl]
   rfl
 | k+1,hk=>by
   have ih:=yc S k (by lia)
   have st:=uT (N:=N) (S:=S) (k:=k) (by lia)
   show cnt (N.root S (k+1)) N.p+(cnt (fun j=>S j && !decide (N.aN S j (N.a j)=N.aN S j (N.b j))) k+if(S k && !decide (N.aN S k (N.a k)=N.aN S k (N.b k)))=true then 1 else 0)=N.p
   lia
theorem AZ(hm:m<2^N.n)(r:N.Ring m)(C:Nat->Bool)(hC:∀ x,x<N.p->C x=decide (N.aN (fun k=>m.testBit k) N.n x=s))
 (Vq:∀ k,k<N.n->m.testBit k=true->C (N.a k)=true):2<=cnt C N.p/\cnt C N.p=cnt (fun k=>m.testBit k) N.n/\∀ x,x<N.p->C x=false->N.aN (fun k=>m.testBit k) N.n x=x/\∀ y,N.aN (fun k=>m.testBit k) N.n y=x->y=x:=by
 obtain⟨h0,ev,mn⟩:=r;obtain⟨k0,hb0⟩:=Nat.exists_testBit_of_ne_zero h0;have hk0:=bB hm hb0;have Nz:∀ k,k<N.n->m.testBit k=true->C (N.a k)=true/\C (N.b k)=true:=fun k hk hb=>by
  have h:=Vq k hk hb;refine⟨h,?_⟩;rw[hC _ (N.al k hk)]at h;rw[hC _ (N.bl k hk),<-iN (S:=fun k=>m.testBit k) hk hb]
  exact h
 have h2:2<=cnt C N.p:=ug (Nz k0 hk0 hb0).1 (Nz k0 hk0 hb0).2 (N.ne k0 hk0) (N.al k0 hk0) (N.bl k0 hk0);have none:∀ x,x<N.p->C x=false->N.dg m x=0:=fun x hx hc=>by
  cases hz:N.dg m x with
  | zero=>rfl
  | succ d =>
    exfalso
    obtain⟨k,hk,hb,Lu⟩:=qt (N:=N) (m:=m) (x:=x) (by lia)
    rcases Lu with e|e
    ·have:=(Nz k hk hb).1;rw[e,hc]at this;cases this
    ·have:=(Nz k hk hb).2;rw[e,hc]at this;cases this
 have Ge:∀ x,x<N.p->C x=false->N.aN (fun k=>m.testBit k) N.n x=x/\∀ y,N.aN (fun k=>m.testBit k) N.n y=x->y=x:=fun x hx hc=>by
  have hz:=none x hx hc;have r1:N.aN (fun k=>m.testBit k) N.n x=x:=alone hz (bM _ _ _ (bY _ _).symm)
  exact⟨r1,fun y hy=>alone hz (bM _ _ _ (r1.trans hy.symm))⟩
 refine⟨h2,?_,Ge⟩;have pos:∀ x,x<N.p->C x=true->0<N.dg m x:=fun x hx hc=>by
  cases hz:N.dg m x with
  | succ d=>lia
  | zero =>
    exfalso
    obtain⟨y,hy,NB,hne⟩:∃ y,y<N.p/\C y=true/\y≠x:=by
     obtain⟨c,d,h1,h3,h4,h5⟩:=om h2
     by_cases e:c=x
     ·exact⟨d,h3,h5,by lia⟩
     ·exact⟨c,by lia,h4,e⟩
    rw[hC x hx]at hc;rw[hC y hy]at NB;exact hne (alone hz (bM _ _ _ ((i8 hc).trans (i8 NB).symm)))
 have ge:cnt C N.p<=cnt (fun k=>m.testBit k) N.n:=by
  have h:sm (fun x=>if C x=true then 2 else 0) N.p<=sm (fun x=>N.dg m x) N.p:=E2 fun x hx=>by
   by_cases hc:C x=true
   ·rw[if_pos hc];have h1:=pos x hx hc;have h3:=uh ev hx
    lia
   ·rw[if_neg hc];exact Nat.zero_le _
  rw[yY]at h;have d:sm (fun x=>if C x=true then 2 else 0) N.p=2*cnt C N.p:=by
   rw[iU];have d:∀ n,2*sm (fun k=>if C k=true then 1 else 0) n=sm (fun k=>(if C k=true then 1 else 0)+(if C k=true then 1 else 0)) n:=fun n=>by
    rw[q9]
    lia
   rw[d];exact fM fun x _=>by split<;>rfl
  lia
 refine Nat.le_antisymm ge (Nat.le_of_not_lt fun more=>?_)
 have Vs:=yc (N:=N) (fun k=>m.testBit k) N.n (Nat.le_refl _)
 have hr:cnt (N.root (fun k=>m.testBit k) N.n) N.p+cnt C N.p=N.p+1:=by
  have hc0:=(Nz k0 hk0 hb0).1;rw[hC _ (N.al k0 hk0)]at hc0;have hs:=i8 hc0;have qO:s<N.p:=by rw[<-hs];exact jX (N.al k0 hk0)
  have hss:N.aN (fun k=>m.testBit k) N.n s=s:=by rw[<-hs];exact bY _ _
  have e:cnt (N.root (fun k=>m.testBit k) N.n) N.p=cnt (fun x=>!C x^^decide (s=x)) N.p:=eY fun x hx=>by
   unfold Net.root;cases hc:C x with
   | false =>
     have ne : ¬ s=x:=fun z=>by
      have:=hC x hx;rw[hc,<-z,hss]at this;simp at this
     rw[cD (Ge x hx hc).1,c7 ne];rfl
   | true =>
     have h:=hC x hx;rw[hc]at h;have h:=i8 h.symm;rw[h];simp
  rw[e,u6 fun x hx ⟨z1,z2⟩=>by
   have z2:=i8 z2;have:=hC x hx;rw[<-z2,hss]at this;rw[<-z2,this]at z1;simp at z1,u4,if_pos qO]
  have:=jW C N.p
  lia
 have split:cnt (fun k=>m.testBit k) N.n=cnt (fun j=>m.testBit j && !decide (N.aN (fun k=>m.testBit k) j (N.a j)=N.aN (fun k=>m.testBit k) j (N.b j))) N.n+cnt (fun j=>m.testBit j&&decide (N.aN (fun k=>m.testBit k) j (N.a j)=N.aN (fun k=>m.testBit k) j (N.b j))) N.n:=by
  rw[<-u6 fun x _ ⟨z1,z2⟩=>by
   rw[Bool.and_eq_true]at z1 z2;have:=z1.2;rw[z2.2]at this;cases this]
  refine eY fun k _=>?_
  cases m.testBit k<;>cases decide (N.aN (fun k=>m.testBit k) k (N.a k)=N.aN (fun k=>m.testBit k) k (N.b k))<;>rfl
 obtain⟨c,d,hcd,hd,hc1,hd1⟩:=om (f:=fun j=>m.testBit j&&decide (N.aN (fun k=>m.testBit k) j (N.a j)=N.aN (fun k=>m.testBit k) j (N.b j))) (n:=N.n) (by lia)
 have whole:∀ j,j<N.n->(m.testBit j&&decide (N.aN (fun k=>m.testBit k) j (N.a j)=N.aN (fun k=>m.testBit k) j (N.b j)))=true->∀ i,m.testBit i=true->i<=j:=fun j hj h i hi=>by
  rw[Bool.and_eq_true]at h;obtain⟨t,t1,t2⟩:=Gd (Nat.le_of_lt hj) (bM _ _ _ (i8 h.2));have own:(t^^^2^j).testBit j=true:=by
   rw[Nat.testBit_xor,Nat.testBit_two_pow,cD rfl];cases hz:t.testBit j with
   | false=>rfl
   | true=>exact absurd (t1 j hz).1 (Nat.lt_irrefl _)
  have sub:∀ k,(t^^^2^j).testBit k=true->m.testBit k=true:=fun k hk=>by
   rw[Nat.testBit_xor,Nat.testBit_two_pow]at hk
   by_cases e:j=k
   ·subst e;exact h.1
   ·rw[c7 e,Bool.xor_false]at hk;exact(t1 k hk).2
  have Vr:N.cF (t^^^2^j):=fun x hx=>by
   rw[gj,t2,lH hj];unfold Net.inc;cases decide (N.a j=x)<;>cases decide (N.b j=x)<;>rfl
  rcases mn _ sub Vr with q|q
  ·rw[q]at own;simp at own
  ·rw[<-q,Nat.testBit_xor,Nat.testBit_two_pow]at hi
   by_cases e:j=i
   ·lia
   ·rw[c7 e,Bool.xor_false]at hi;exact Nat.le_of_lt (t1 i hi).1
 have h1:m.testBit d=true:=by
  rw[Bool.and_eq_true]at hd1;exact hd1.1
 have:=whole c (by lia) hc1 d h1
 lia
end
end RM
namespace Ring
open PySem L2
def dY(L:Nat->Nat)(p:Nat):List Nat:=(eZ L p).filter fun s=>decide (1<(pieceOf L p s).length)
def OT(L:Nat->Nat)(p k:Nat):List Nat->Bool
 | [s]=>decide ((pieceOf L p s).length=k)
 | _=>false
def kZ(p:Nat)(ts:List c6)(g:aC p ts)(m:Nat):Bool:=decide (uO p ts (m:Int)=[])&&OT (bO p ts g m) p (bu (m:Int)).length (dY (bO p ts g m) p)
theorem jn(L:Nat->Nat)(p s:Nat):(pieceOf L p s).length=RM.cnt (fun x=>decide (L x=s)) p:=RM.hU _ _
theorem vc{m n:Nat}(hm:m<2^n):(bu (m:Int)).length=RM.cnt (fun k=>m.testBit k) n:=by
 rw[fL hm];exact RM.hU _ _
theorem Gf{f:Nat->Bool}{n c:Nat}(hc:c<n)(h:∀ k,k<n->f k=decide (k=c)):(List.range n).filter f=[c]:=by
 rw[<-oX hc];exact List.filter_congr fun k hk=>h k (List.mem_range.mp hk)
theorem k6{p:Nat}{ts:List c6}(g:aC p ts){m:Nat}(hm:m<2^ts.length):kZ p ts g m=true↔g.N.Ring m:=by
 have eL:bO p ts g m=g.N.aN (fun k=>m.testBit k) g.N.n:=rfl
 have ep:g.N.p=p:=rfl
 constructor
 ·intro h;unfold kZ at h;rw[Bool.and_eq_true]at h;obtain⟨h1,h2⟩:=h;have ev:=(AU g hm).mp (i8 h1);unfold OT at h2
  split at h2
  ·rename_i s hs
   have h2:=i8 h2;have hmem:s∈dY (bO p ts g m) p:=by rw[hs];exact List.mem_singleton.mpr rfl
   unfold dY at hmem;have hlen:=i8 (List.mem_filter.mp hmem).2;refine RM.E3 (s:=s) hm ev (fun x=>decide (bO p ts g m x=s)) (fun x _=>by rw[eL]) ?_ (fun k hk hb=>?_) ?_
   ·rw[ep,<-jn];exact hlen
   ·
    have W0:=g.N.al k hk;have ZX:=g.N.bl k hk;have e:bO p ts g m (g.N.b k)=bO p ts g m (g.N.a k):=(RM.iN (S:=fun k=>m.testBit k) hk hb).symm
    have hr:bO p ts g m (bO p ts g m (g.N.a k))=bO p ts g m (g.N.a k):=RM.bY _ _;have hlt:bO p ts g m (g.N.a k)<p:=RM.jX W0;have ht:bO p ts g m (g.N.a k)∈dY (bO p ts g m) p:=by
     unfold dY eZ;refine List.mem_filter.mpr ⟨List.mem_filter.mpr ⟨List.mem_range.mpr hlt,cD hr⟩,cD ?_⟩;rw[jn];exact RM.ug (u:=g.N.a k) (v:=g.N.b k) (cD rfl) (cD e) (g.N.ne k hk) W0 ZX
    rw[hs]at ht;exact cD (List.mem_singleton.mp ht)
   ·rw[ep,<-jn,h2];exact vc hm
  ·cases h2
 ·intro r;obtain⟨k0,hk0,hb0,hall⟩:=RM.pB hm r;generalize hs:g.N.aN (fun k=>m.testBit k) g.N.n (g.N.a k0)=s at hall
  obtain⟨h2,hl,Ge⟩:=RM.AZ (s:=s) hm r (fun x=>decide (bO p ts g m x=s)) (fun x _=>by rw[eL]) (fun k hk hb=>cD (hall k hk hb))
  have qO:s<p:=by rw[<-hs];exact RM.jX (g.N.al k0 hk0)
  have hss:bO p ts g m s=s:=by rw[eL,<-hs];exact RM.bY _ _
  have ht:dY (bO p ts g m) p=[s]:=by
   unfold dY eZ;rw[List.filter_filter];refine Gf qO fun x hx=>?_
   by_cases e:x=s
   ·subst e;rw[cD hss,jn,cD rfl,Bool.and_true];exact cD h2
   ·rw[c7 e]
    by_cases Lu:bO p ts g m x=x
    ·have hc:decide (bO p ts g m x=s)=false:=c7 (by rw[Lu];exact e)
     obtain⟨_,q⟩:=Ge x hx hc;have : ¬ 1<(pieceOf (bO p ts g m) p x).length:=fun z=>by
      rw[jn]at z;obtain⟨c,d,h1,_,h3,h4⟩:=RM.om z;have h3:=q c (i8 h3);have h4:=q d (i8 h4)
      lia
     rw[c7 this,Bool.false_and]
    ·rw[c7 Lu,Bool.and_false]
  unfold kZ;rw[cD ((AU g hm).mpr r.2.1),ht,Bool.true_and];refine cD ?_;rw[jn,vc hm];exact hl
theorem C9{p:Nat}{ts:List c6}{g:aC p ts}{m:Nat}(ev:uO p ts (m:Int)=[]):kZ p ts g m=OT (bO p ts g m) p (bu (m:Int)).length (dY (bO p ts g m) p):=by
 unfold kZ;rw[cD ev,Bool.true_and]
def OU(H:Hp)(y:V)(l:List Nat):Prop:=∃ b,y = .ref b/\H b=some (.lst (ay l))
def vd(f:List Nat->Bool)(ls:List (List Nat))(H:Hp)(D:Addr)(i:Nat)(acc:List V)(H2:Hp):Prop:=aq H H2/\H2 D=some (.lst acc)/\Paired (OU H) acc ((ls.take i).filter f)
section
variable {f:List Nat->Bool}{ls:List (List Nat)}{H H2 H3:Hp}{D:Addr}{i:Nat}{acc:List V}{y:V}{l:List Nat}
theorem vd.start(hD:H D=none):vd f ls H D 0 [] (upd H D (.lst [])):=⟨aq.new hD,ae,.nil⟩
theorem vd.len(h:vd f ls H D i acc H2):H2 D=some (.lst acc)/\acc.length<=i:=⟨h.2.1,by
 rw[h.2.2.length];exact Nat.le_trans (List.length_filter_le _ _) (by rw[List.length_take];lia)⟩
theorem vd.yes(h:vd f ls H D i acc H2)(hD:H D=none)(hl:ls[i]?=some l)(hf:f l=true)(hy:OU H y l):H2 D=some (.lst acc)/\vd f ls H D (i+1) (acc++[y]) (upd H2 D (.lst (acc++[y]))):=by
 refine⟨h.2.1,h.1.put hD,ae,?_⟩;rw[List.take_add_one,hl,List.filter_append];show Paired _ _ (_++List.filter f [l]);rw[List.filter_cons,if_pos hf];exact Paired.snoc h.2.2 hy
theorem vd.no(h:vd f ls H D i acc H2)(hl:ls[i]?=some l)(hf:f l=false):vd f ls H D (i+1) acc H2:=by
 refine⟨h.1,h.2.1,?_⟩;rw[List.take_add_one,hl,List.filter_append];show Paired _ _ (_++List.filter f [l]);rw[List.filter_cons,if_neg (by rw[hf];exact Bool.false_ne_true)]
 simpa using h.2.2
end
end Ring
namespace L2
open PySem PySem.Spec PyProof.Rows
section
variable {prog:Program}{w:World}{A:Around}{E:eK}{s:Shared}
theorem Dd{it t:Addr}{i:Nat}{items:Array Value}{x:Value}{Q:eK}(hit:s.heap.IsTupleIter it t i)(ht:s.heap.IsTuple t items)(hx:items[i]?=some x)
 (q:∀ h',h'.IsTupleIter it t (i+1)->Heap.SameBut it s.heap h'->Q x { s with heap:=h'}):wpAny (model prog w) A (Builtin.SmallTypes.nextOf (.ref it)) Q E s:=by
 obtain⟨o,ho,hc,hd⟩:=id hit;obtain⟨ot,Vt,_,nt,hdt⟩:=ht;rw[Builtin.SmallTypes.nextOf];refine aQ (wpAny_callSpecial?_slot (name:=Str.ofString "__next__") hit.typeIs F.slot_tuple_iterator_next (wpAny_call_entry F.slot_tuple_iterator_next hit.typeIs F.entry_tuple_iterator_next ?_ (F.args_tuple_iterator_next_1 _)));show wpAny _ _ (field (.ref it) 0 >>= fun _=>_) _ _ s
 refine aQ (wpAny_field ho hd (x:=.ref t) rfl ?_);show wpAny _ _ (if(Value.ref t==Value.none)=true then _ else _) _ _ s
 rw[if_neg (by simp)]
 show wpAny _ _ (field (.ref it) 1 >>= fun _=>_) _ _ s
 refine aQ (wpAny_field ho hd (x:=.int i 0) rfl ?_);show wpAny _ _ (seqItems? (.ref t) >>= fun _=>_) _ _ s
 refine aQ (wpAny_seqItems Vt hdt ?_);simp only[Int.toNat_natCast,hx];refine aQ (wpAny_setField ho hd (by simp) (wpAny_pure ⟨x,rfl,wpAny_pure (q _ ?_ (Heap.SameBut.update ..))⟩))
 refine⟨_,Heap.get?_update_self _ ho (Obj.isFreed_of_fields (Obj.data_mapFields hd _)),(Obj.cls_mapFields ..).trans hc,?_⟩;rw[Obj.data_mapFields hd];simp[rawInt]
theorem Gg{it t:Addr}{i:Nat}{items:Array Value}{Q:eK}(hh:A.handled=none)(hit:s.heap.IsTupleIter it t i)(ht:s.heap.IsTuple t items)(hx:items[i]?=none)
 (q:∀ h' e,Heap.ExtBut it s.heap h'->(∃ o,h'.get? e=some o/\o.cls = .type "StopIteration")->E (.ref e) { s with heap:=h'}):wpAny (model prog w) A (Builtin.SmallTypes.nextOf (.ref it)) Q E s:=by
 obtain⟨o,ho,hc,hd⟩:=id hit;obtain⟨ot,Vt,_,nt,hdt⟩:=ht;rw[Builtin.SmallTypes.nextOf];refine aQ (wpAny_callSpecial?_slot (name:=Str.ofString "__next__") hit.typeIs F.slot_tuple_iterator_next (wpAny_call_entry F.slot_tuple_iterator_next hit.typeIs F.entry_tuple_iterator_next ?_ (F.args_tuple_iterator_next_1 _)));show wpAny _ _ (field (.ref it) 0 >>= fun _=>_) _ _ s
 refine aQ (wpAny_field ho hd (x:=.ref t) rfl ?_);show wpAny _ _ (if(Value.ref t==Value.none)=true then _ else _) _ _ s
 rw[if_neg (by simp)]
 show wpAny _ _ (field (.ref it) 1 >>= fun _=>_) _ _ s
 refine aQ (wpAny_field ho hd (x:=.int i 0) rfl ?_);show wpAny _ _ (seqItems? (.ref t) >>= fun _=>_) _ _ s
 refine aQ (wpAny_seqItems Vt hdt ?_);simp only[Int.toNat_natCast,hx];refine aQ (wpAny_rule (aQ (wpAny_setField ho hd (by simp) ?_)))
 show wpAny _ _ (newExc (.type "StopIteration") [] >>= fun _=>_) _ _ _
 refine aQ ?_;simp only[newExc,newTuple];refine aQ (wpAny_newObj_type ?_ (by size_fits))
 refine aQ (m:=firstArgMember _ _) (wpAny_of_eq (a:=Value.none) (by first | rfl | (simp only[firstArgMember];rfl)) (wpAny_newObj_type ?_ (by size_fits)))
 exact wpAny_raiseNew_none hh (q _ _ (((Heap.SameBut.update ..).extBut.push _).push _) ⟨_,Heap.get?_push_size _ rfl,rfl⟩)
theorem sZ(hh:A.handled=none)(it t:Addr)(hne:t≠it)(items:Array Value):
 Draws prog w A it [it,t] items.size (fun i v=>items[i]?=some v) (fun i h=>h.IsTupleIter it t i/\h.IsTuple t items) where
 live:=fun _ _ st=>let⟨o,ho,_⟩:=st.1;⟨o,ho⟩
 frame:=fun _ _ _ st hk=>⟨st.1.at fun o e=>hk it (by simp) o e,st.2.at fun o e=>hk t (by simp) o e⟩
 item:=fun i s Q E hi st hQ=>Dd st.1 st.2 (x:=items[i]) (by simp[hi]) fun h' Vu hs'=>hQ _ h' s.toks (by simp[hi]) ⟨Vu,st.2.extBut hs'.extBut hne⟩ hs'
 done:=fun s Q E st hE=>Gg hh st.1 st.2 (by simp) hE
end
open AutoSeq1 (wpAny_loadPart') in
theorem rf(l:Addr)(items:Array Value)(n:Nat)(dct:Option Addr)(sl:Array (Option Value)):
 Meets (Builtin.«enumerate.__new__» ⟨[.type "enumerate",.ref l],[]⟩) (fun _ R s=>s.heap.get? l=some { cls:=.type "tuple",dict:=dct,data:=.seq items n,slots:=sl}/\
  R (.ok (.ret (.ref (s.heap.push { cls:=.type "tuple_iterator",data:=.fields #[.ref l,.int 0 0]}).objs.size)))
    { s with heap:=(s.heap.push { cls:=.type "tuple_iterator",data:=.fields #[.ref l,.int 0 0]}).push { cls:=.type "enumerate",data:=.fields #[.none,.bool false,.ref s.heap.objs.size,rawInt 0,.none,.none]}}) :=
 .of_wp fun prog w A R s h=>by
  obtain⟨hp,g,d,tk,os⟩:=s;obtain⟨hl,h⟩:=h;have hsub:=sub_enumerate;have hL:Heap.IsTuple (Shared.heap ⟨hp,g,d,tk,os⟩) l items:=⟨_,hl,rfl,n,rfl⟩
  wp_walk using wpAny_loadPart' hl
  refine wpAny_stack_any fun st=>wpAny_pure ?_
  split
  ·rename_i c _ _ _ _ _
   cases(c==Value.type "enumerate")
   ·wp_walk using wpAny_loadPart' hl,wpAny_pyIter_tuple hL
    exact⟨_,rfl,h⟩
   ·wp_walk using wpAny_loadPart' hl,wpAny_pyIter_tuple hL
    exact⟨_,rfl,h⟩
  ·wp_walk using wpAny_loadPart' hl,wpAny_pyIter_tuple hL
   exact⟨_,rfl,h⟩
section
variable {prog:Program}{w:World}{A:Around}{E:eK}{s:Shared}
theorem De{l:Addr}{items:Array Value}{Q:eK}(hL:s.heap.IsTuple l items)
 (h:∀ h',IsEnum h' (s.heap.objs.size+1) s.heap.objs.size 0 .none->h'.IsTupleIter s.heap.objs.size l 0->h'.objs.size=s.heap.objs.size+2->(∀ b o,s.heap.get? b=some o->h'.get? b=some o)->Q (.ref (s.heap.objs.size+1)) { s with heap:=h'}) :
 wpAny (model prog w) A (call (.type "enumerate") [.ref l]) Q E s:=by
 obtain⟨⟨c,dct,dt,sl⟩,hl,hc,n,hd⟩:=hL
 replace hc:c = .type "tuple":=hc
 replace hd:dt = .seq items n:=hd
 subst hc hd;refine callType_new F.called_enumerate (by decide) (F.typeCall_enumerate_1 _) (F.newCall_enumerate_1 _) (fun obj=>F.args_object_init_2 obj _) F.entry_enumerate_new (rf l items n dct sl) ⟨hl,?_⟩
 have hz:(s.heap.push { cls:=.type "tuple_iterator",data:=.fields #[.ref l,.int 0 0]}).objs.size=s.heap.objs.size+1:=Heap.size_push ..;show _/\_;rw[hz];have he:IsEnum ((s.heap.push { cls:=.type "tuple_iterator",data:=.fields #[.ref l,.int 0 0]}).push { cls:=.type "enumerate",data:=.fields #[.none,.bool false,.ref s.heap.objs.size,rawInt 0,.none,.none]}) (s.heap.objs.size+1) s.heap.objs.size 0 .none:=by
  have z:=Heap.get?_push_size (s.heap.push { cls:=.type "tuple_iterator",data:=.fields #[.ref l,.int 0 0]}) (o:={ cls:=.type "enumerate",data:=.fields #[.none,.bool false,.ref s.heap.objs.size,rawInt 0,.none,.none]}) rfl;rw[hz]at z;exact z
 exact⟨⟨_,he,rfl⟩,h _ he ⟨_,Heap.get?_push_of_some _ (Heap.get?_push_size _ rfl),rfl,rfl⟩ (by rw[Heap.size_push,hz]) fun b o x=>Heap.get?_push_of_some _ (Heap.get?_push_of_some _ x)⟩
end
def Gh(K:bW)(a:Addr):It :=
 ⟨fun i H=>∃ xs x,aV K H a xs/\xs[i]?=some x,fun i H v H'=>∃ T x,v = .ref T/\H T=none/\H' = upd H T (.tup [.int (i:Int),x])/\∀ xs,aV K H a xs->xs[i]?=some x,fun i H=>∃ xs,aV K H a xs/\xs.length=i⟩
theorem Df{P:Program}{w:World}{K:bW}{elts:List Expr}{k:Nat}{pos:Pos}(a e it:Addr)(hne:e≠it):
 Turn P w K (.Tuple elts k pos) (Gh K a) [e,it] e (fun i h=>(∃ old,IsEnum h e it (i:Int) old)/\h.IsTupleIter it a i) where
 mem:=by simp
 obj:=fun i h st b hb=>by
  obtain⟨⟨old,he⟩,o,ho,c,d⟩:=st;have hb' : b=e\/b=it:=by simpa using hb
  rcases hb' with rfl|rfl
  ·exact⟨_,he,fun v z=>by cases z⟩
  ·exact⟨o,ho,fun v z=>by rw[d]at z;cases z⟩
 keep:=fun i h h' st k=>by
  obtain⟨⟨old,he⟩,hit⟩:=st;exact⟨⟨old,k e (by simp) _ he⟩,hit.at fun o x=>k it (by simp) o x⟩
 item:=by
  intro X hP hw hK hc i pq s σ H E I hf st hg;subst hP hw hK;obtain⟨xs,x,hq,hx⟩:=hg;obtain⟨its,rv,p,hz⟩:=I.tuple hq;obtain⟨u,hu,ru⟩:=rv.get hx;obtain⟨⟨old,he⟩,hit⟩:=st;have pT:s.heap.IsTuple a its.toArray:=p;have hai:a≠it:=fun z=>by
   obtain⟨o1,h1,_,_,d1⟩:=pT;obtain⟨o2,h2,_,d2⟩:=hit;rw[z,h2]at h1;cases h1;rw[d2]at d1;cases d1
  have ZY:e∉[it,a]:=fun z=>by
   have z' : e=it\/e=a:=by simpa using z
   rcases z' with z' | z'
   ·exact hne z'
   ·obtain⟨o1,h1,_,_,d1⟩:=pT;rw[<-z',he]at h1;cases h1;cases d1
  refine wpAny_pyNext_enum_itemD (sZ (A:=X.A.in1) (I.ok.hd hc) it a hai its.toArray) he ⟨hit,pT⟩ (by have:=(jQ.mp hu).1;simpa using this) hne ZY fun y h1 tk hy ho OI hT hsz hk=>?_
  have ZZ:y=u:=by
   have z:its.toArray[i]?=some u:=by simpa using hu
   rw[hy]at z;exact Option.some.inj z
  subst ZZ;refine⟨_,rfl,wpAny_letOwnedTupleGo_enum ho fun h2 Me hs2=>?_⟩
  have RQ:s.heap.objs.size≠e:=Nat.ne_of_gt (Heap.lt_size he);have hT2:h2.get? s.heap.objs.size=some { cls:=.type "tuple",data:=.seq #[.int i tk,y]}:=(hs2.2 _ RQ).trans hT;refine⟨.ref s.heap.objs.size,upd H s.heap.objs.size (.tup [.int (i:Int),x]),I.yields (wr:=[e,it]) (t':=tk+1) (fun b o hb q=>?_) hf (Nat.le_refl _) ?_,rfl,⟨_,x,rfl,I.fresh,rfl,fun ys hy=>by rw[I.xK hy hq];exact hx⟩,⟨⟨y,by simpa using Me⟩,?_⟩,fun b hb=>?_⟩
  ·have IS:b≠e:=fun z=>hb (by simp[z])
   have OJ:b≠it:=fun z=>hb (by simp[z])
   exact(hs2.2 b IS).trans (hk b o IS OJ q)
  ·exact⟨dl rfl,[.int i tk,y],.cons ⟨_,rfl⟩ (.cons ru .nil),⟨_,hT2,rfl,_,rfl⟩⟩
  ·exact OI.1.at fun o q=>(hs2.2 it (Ne.symm hne)).trans q
  ·rw[ao]
   ·exact(hf b hb).1
   ·have hb' : b=e\/b=it:=by simpa using hb
    rcases hb' with rfl|rfl
    ·exact Ne.symm RQ
    ·obtain⟨o,q,_⟩:=hit;exact Nat.ne_of_lt (Heap.lt_size q)
 done:=by
  intro X hP hw hK hc i pq s σ H E I hf st hg;subst hP hw hK;obtain⟨xs,hq,hx⟩:=hg;obtain⟨its,rv,p,hz⟩:=I.tuple hq;obtain⟨⟨old,he⟩,hit⟩:=st;have pT:s.heap.IsTuple a its.toArray:=p;have hai:a≠it:=fun z=>by
   obtain⟨o1,h1,_,_,d1⟩:=pT;obtain⟨o2,h2,_,d2⟩:=hit;rw[z,h2]at h1;cases h1;rw[d2]at d1;cases d1
  obtain⟨f0,f1,f2,f3,f4,f5⟩:=hf it (by simp)
  have hl:=rv.length;have hi:i=its.toArray.size:=by rw[List.size_toArray];lia
  subst hi;exact wpAny_pyNext_enum_endD (sZ (A:=X.A.in1) (I.ok.hd hc) it a hai its.toArray) he ⟨hit,pT⟩ fun h' eb=>⟨rfl,I.turned (t':=s.toks) (fun b o hb e=>eb b o hb e) f0 f1 f3 f4 f5⟩
 self:=fun _ _ _ _ _ st h=>by
  obtain⟨⟨old,he⟩,_⟩:=st;exact wpAny_pyIter_enum he h
section
variable {X:Cx}{elts:List Expr}{n:Nat}{tp:Pos}
def OV(K:bW)(ta:TA):TI:=fun σ H R=>ta σ H fun vs H1=>∃ a,vs=[.ref a]/\(∃ xs,aV K H1 a xs)/\R (Gh K a) H1
theorem A1(K:bW){a:Expr}{ta:TA}{p pos:Pos}(hg:Gl X "enumerate")(hm:X.mg "enumerate"=none)(ha:PA X [a] ta)(hs:starEach [a] X.env=[(false,eval a X.env)]:=by rfl)(hK:X.K=K:=by rfl):
 PI X (.Tuple elts n tp) (.Call (.Name "enumerate" p) [a] [] pos) (OV K ta):=by
 subst hK;intro pq s σ H R I h;refine Call_ (lD I hg hm boot_enumerate (PyProof.Rows.callWith_type1 (dH (ha pos pq s σ H _ I h) fun us s1 ⟨vs,H1,I1,r1,q1⟩=>?_) hs rfl))
 obtain⟨a,e,⟨xs,hq⟩,q⟩:=q1;subst e;cases r1 with
 | cons r rr =>
   cases rr;cases r;obtain⟨its,rv,pl,hz⟩:=I1.tuple hq;refine De (show s1.heap.IsTuple a its.toArray from pl) fun h' he hit hsz hk=>?_
   have I2:Inv X pq σ H1 { s1 with heap:=h'}:=I1.kept (t':=s1.toks) hk
   refine wpAny_pyIter_enum he ⟨_,[s1.heap.objs.size+1,s1.heap.objs.size],_,_,H1,rfl,I2,Df a _ _ (Nat.succ_ne_self _),⟨⟨_,he⟩,hit⟩,fun b hb=>?_,q⟩
   have hb' : b=s1.heap.objs.size+1\/b=s1.heap.objs.size:=by simpa using hb
   have RT:s1.heap.objs.size<=b:=by
    rcases hb' with rfl|rfl
    ·exact Nat.le_succ _
    ·exact Nat.le_refl _
   exact I1.CI RT (I1.hok.fresh RT)
end
section
variable {K:bW}{a:Addr}{xs:List V}{g:TG}{tt:TT}{te:TE}{n:Nat}{fr:St}{D:Addr}{Q:Hp->Prop}{H1:Hp}
theorem Dg(Pv:Nat->List V->Hp->Prop)(h0:Pv 0 [] H1)(hl:∀ i acc H,i<=xs.length->Pv i acc H->aV K H a xs/\H D=some (.lst acc)/\acc.length<=i)(hz:xs.length<=sizeLine)
 (hs:∀ i x T acc H,xs[i]?=some x->Pv i acc H->H T=none->g (.ref T) (List.replicate n none++fr) (upd H T (.tup [.int (i:Int),x])) fun σ2 H2=>σ2.drop n=fr/\tt σ2 H2 fun b H3 =>
  if b=true then te σ2 H3 fun v H4=>H4 D=some (.lst acc)/\Pv (i+1) (acc++[v]) (upd H4 D (.lst (acc++[v]))) else Pv (i+1) acc H3)
 (hd:∀ acc H,Pv xs.length acc H->Q H):iM (Gh K a) g tt te n fr D Q H1:=by
 refine⟨fun i m acc H=>m=xs.length-i/\i<=xs.length/\Pv i acc H,⟨xs.length,by simp,Nat.zero_le _,h0⟩,?_⟩
 rintro i m acc H ⟨rfl,hi,p⟩;obtain⟨q,hD,ha⟩:=hl i acc H hi p;refine⟨hD,?_⟩
 by_cases hlt:i<xs.length
 ·refine .inr ⟨⟨xs,xs[i],q,by simp[hlt]⟩,by lia,Pv (i+1),fun acc' H' p'=>⟨xs.length-(i+1),by lia,rfl,hlt,p'⟩,fun v H' y=>?_⟩
  obtain⟨T,x,rfl,hT,rfl,y⟩:=y;exact hs i x T acc _ (y xs q) p hT
 ·have e:i=xs.length:=by lia
  subst e;exact .inl ⟨⟨xs,q,rfl⟩,hd acc H p⟩
end
end L2
namespace RM
variable {N:Net}
def Net.cut(N:Net)(C:Nat->Bool):Nat:=Ring.maskOf (fun k=>C (N.a k)^^C (N.b k)) N.n
def Net.par(N:Net)(q m:Nat):Bool:=bT (fun k=>q.testBit k&&m.testBit k) N.n
theorem j8(q r m:Nat):N.par (q^^^r) m=(N.par q m^^N.par r m):=by
 unfold Net.par;rw[<-jy];refine bR fun k _=>?_
 rw[Nat.testBit_xor];cases q.testBit k<;>cases r.testBit k<;>cases m.testBit k<;>rfl
theorem jC(m:Nat):N.par 0 m=false:=jk fun k _=>by simp
theorem E4{k:Nat}(h:k<N.n)(m:Nat):N.par (2^k) m=m.testBit k:=by
 unfold Net.par;rw[qk h fun j _ hj=>by simp[Nat.testBit_two_pow,Ne.symm hj]]
 simp[Nat.testBit_two_pow]
theorem yZ(C:Nat->Bool)(k:Nat):(N.cut C).testBit k=(decide (k<N.n)&&(C (N.a k)^^C (N.b k))):=Ring.mask_bit _ k _
theorem OX(C:Nat->Bool):N.cut C<2^N.n:=Ring.mask_lt _ _
theorem Gi{C D:Nat->Bool}(h:∀ x,x<N.p->C x=D x):N.cut C=N.cut D:=by
 refine Nat.eq_of_testBit_eq fun k=>?_
 rw[yZ,yZ]
 by_cases hk:k<N.n
 ·rw[h _ (N.al k hk),h _ (N.bl k hk)]
 ·rw[c7 hk];rfl
theorem A2{k:Nat}(hk:k<N.n)(hf:N.kF k=true):N.ring k=0:=gG (fun j hj=>by
 rcases kY hj with e|e
 ·subst e;exact⟨hk,hf⟩
 ·exact e) (jl hk)
theorem Gj{m:Nat}(k:Nat):(m^^^N.cut fun x=>N.par (N.trail N.n x) m).testBit k=if k<N.n then N.par (N.ring k) m else m.testBit k:=by
 rw[Nat.testBit_xor,yZ]
 by_cases hk:k<N.n
 ·rw[if_pos hk,cD hk,Bool.true_and];unfold Net.ring;rw[j8,j8,E4 hk];cases m.testBit k<;>cases N.par (N.trail N.n (N.a k)) m<;>cases N.par (N.trail N.n (N.b k)) m<;>rfl
 ·rw[if_neg hk,c7 hk];simp
theorem A3{m k:Nat}(hm:m<2^N.n)(h:(m^^^N.cut fun x=>N.par (N.trail N.n x) m).testBit k=true):k<N.n/\N.kF k=false/\N.par (N.ring k) m=true:=by
 rw[Gj]at h
 by_cases hk:k<N.n
 ·rw[if_pos hk]at h;refine⟨hk,?_,h⟩;cases hf:N.kF k with
  | false=>rfl
  | true =>
    rw[A2 hk hf,jC]at h;cases h
 ·rw[if_neg hk]at h;exact absurd (bB hm h) hk
end RM
namespace Ring
def orM(ks:List Nat):Nat:=ks.foldl (fun m k=>m ||| 2^k) 0
theorem Jk(ks:List Nat)(j:Nat):∀ m,(ks.foldl (fun m k=>m ||| 2^k) m).testBit j=(m.testBit j || decide (j∈ks)):=by
 induction ks with
 | nil=>intro m;simp
 | cons k r ih =>
   intro m;rw[List.foldl_cons,ih,Nat.testBit_or,Nat.testBit_two_pow]
   by_cases h:k=j
   ·subst h;simp
   ·have h' : ¬ j=k:=fun z=>h z.symm
    simp[h,h']
theorem iG(ks:List Nat)(j:Nat):(orM ks).testBit j=decide (j∈ks):=by
 unfold orM;rw[Jk];simp
theorem A4(ks:List Nat){t:Nat}(h:t∉ks):orM (ks++[t])=orM ks^^^2^t:=Nat.eq_of_testBit_eq fun j=>by
 rw[Nat.testBit_xor,iG,iG,Nat.testBit_two_pow]
 by_cases e:t=j
 ·subst e;simp[h]
 ·have e' : ¬ j=t:=fun z=>e z.symm
  simp[e,e']
theorem Dh(f:Nat->Bool)(n:Nat):orM ((List.range n).filter f)=maskOf f n:=Nat.eq_of_testBit_eq fun j=>by
 rw[iG,mask_bit,Bool.eq_iff_iff];simp
theorem Jl{ks:List Nat}{n:Nat}(h:∀ k∈ks,k<n):orM ks<2^n:=RM.cu fun k hk=>by
 rw[iG]at hk;exact h k (i8 hk)
end Ring
namespace RM
variable {N:Net}
inductive Net.Walk(N:Net):List Nat->Nat->List Nat->Prop
 | one {v:Nat}:Net.Walk N [] v []
 | snoc {pre ks:List Nat} {v w t:Nat} (h:Net.Walk N pre v ks) (ht:t<N.n) (hn:t∉ks) (j:(N.a t=v/\N.b t=w)\/(N.b t=v/\N.a t=w)):Net.Walk N (pre++[v]) w (ks++[t])
theorem Net.Walk.len{pre ks:List Nat}{v:Nat}(h:N.Walk pre v ks):pre.length=ks.length:=by
 induction h with
 | one=>rfl
 | snoc _ _ _ _ ih=>rw[List.length_append,List.length_append,ih];rfl
theorem Net.Walk.lt{pre ks:List Nat}{v:Nat}(h:N.Walk pre v ks):∀ t∈ks,t<N.n:=by
 induction h with
 | one=>exact fun t ht=>nomatch ht
 | snoc _ ht _ _ ih =>
   intro s hs;rcases List.mem_append.mp hs with q|q
   ·exact ih s q
   ·have e:=List.mem_singleton.mp q;rw[e];exact ht
theorem Net.Walk.bd{pre ks:List Nat}{v:Nat}(h:N.Walk pre v ks):∀ i u,(pre++[v])[i]?=some u->∀ x,N.bd (Ring.orM (ks.drop i)) x=(decide (u=x)^^decide (v=x)):=by
 induction h with
 | one =>
   rename_i v
   intro i u hu x
   match i,hu with
   | 0,hu =>
     have e:v=u:=Option.some.inj hu;subst e;show N.bd 0 x=_;rw[n5];simp
   | i+1,hu=>simp at hu
 | snoc hw ht hn j ih =>
   rename_i pre ks v w t
   intro i u hu x;have hl:=hw.len
   by_cases hi:i<(pre++[v]).length
   ·rw[List.getElem?_append_left hi]at hu;have hi' : i<=ks.length:=by rw[List.length_append]at hi;simp at hi;lia
    rw[List.drop_append_of_le_length hi',Ring.A4 _ (fun z=>hn (List.mem_of_mem_drop z)),gj,ih i u hu x,lH ht]
    have e:N.inc t x=(decide (v=x)^^decide (w=x)):=by
     unfold Net.inc;rcases j with⟨j1,j2⟩|⟨j1,j2⟩
     ·rw[j1,j2]
     ·rw[j1,j2];exact Bool.xor_comm _ _
    rw[e];cases decide (u=x)<;>cases decide (v=x)<;>cases decide (w=x)<;>rfl
   ·have hi2:i=(pre++[v]).length:=by
     have:=(jQ.mp hu).1;rw[List.length_append]at this;simp at this hi ⊢
     lia
    rw[hi2,List.getElem?_append_right (Nat.le_refl _),Nat.sub_self]at hu;have e:w=u:=Option.some.inj hu;subst e;have:(ks++[t]).drop i=[]:=List.drop_eq_nil_of_le (by rw[hi2,List.length_append,List.length_append];simp;lia)
    rw[this];show N.bd 0 x=_;rw[n5];simp
structure Way(N:Net)(ia:Nat)(pre:List Nat)(v:Nat)(ks:List Nat)(left:Nat):Prop where
 w:N.Walk pre v ks
 lt:ia<2^N.n
 ev:N.cF ia
 sub:∀ t∈ks,ia.testBit t=true
 y9:left=ia^^^Ring.orM ks
 nd:pre.Nodup
 W2:∀ x∈pre++[v],x<N.p
 st:pre=[]->∃ t,t<N.n/\ia.testBit t=true/\N.a t=v
section
variable {ia left v:Nat}{pre ks:List Nat}
theorem Way.start{t:Nat}(lt:ia<2^N.n)(ev:N.cF ia)(hb:ia.testBit t=true):Way N ia [] (N.a t) [] ia:=by
 have ht:=bB lt hb;refine⟨.one,lt,ev,(fun _ z=>nomatch z),?_,List.Pairwise.nil,fun x hx=>?_,fun _=>⟨t,ht,hb,rfl⟩⟩
 ·show ia=ia^^^0;simp
 ·have e:x=N.a t:=by simpa using hx
  rw[e];exact N.al t ht
theorem Way.qu(h:Way N ia pre v ks left)(t:Nat):left.testBit t=(ia.testBit t && !decide (t∈ks)):=by
 rw[h.y9,Nat.testBit_xor,Ring.iG]
 by_cases hm:t∈ks
 ·rw[h.sub t hm,cD hm];rfl
 ·rw[c7 hm];simp
theorem Way.Mr(h:Way N ia pre v ks left):left<2^N.n:=cu fun k hk=>by
 rw[h.qu,Bool.and_eq_true]at hk;exact bB h.lt hk.1
theorem Way.on(h:Way N ia pre v ks left)(hv:v∉pre):∃ t,left.testBit t=true/\(N.a t=v\/N.b t=v):=by
 cases pre with
 | nil =>
   obtain⟨t,ht,hb,e⟩:=h.st rfl;have hk:ks=[]:=List.length_eq_zero_iff.mp (by rw[<-h.w.len];rfl)
   refine⟨t,?_,.inl e⟩;rw[h.qu,hb,hk];simp
 | cons u r =>
   have hb:=h.w.bd 0 u rfl v;rw[List.drop_zero]at hb;have hu : ¬ u=v:=fun z=>hv (by rw[z];exact List.mem_cons_self)
   rw[c7 hu,cD rfl]at hb;have Z0:v<N.p:=h.W2 v (i9 _ (List.mem_singleton.mpr rfl));have hl:N.bd left v=true:=by
    rw[h.y9,gj,h.ev v Z0,hb];rfl
   rw[AY]at hl;have hp:=i8 hl;obtain⟨k,hk,hkb,hx⟩:=qt (N:=N) (m:=left) (x:=v) (by lia)
   exact⟨k,hkb,hx⟩
theorem Way.go(h:Way N ia pre v ks left)(hv:v∉pre){t w:Nat}(hb:left.testBit t=true)(j:(N.a t=v/\N.b t=w)\/(N.b t=v/\N.a t=w)):
 Way N ia (pre++[v]) w (ks++[t]) (left^^^2^t):=by
 rw[h.qu,Bool.and_eq_true]at hb;have hn:t∉ks:=by simpa using hb.2
 have ht:=bB h.lt hb.1;refine⟨.snoc h.w ht hn j,h.lt,h.ev,fun s hs=>?_,?_,?_,fun x hx=>?_,fun z=>?_⟩
 ·rcases List.mem_append.mp hs with q|q
  ·exact h.sub s q
  ·rw[List.mem_singleton.mp q];exact hb.1
 ·rw[Ring.A4 _ hn,h.y9,Nat.xor_assoc]
 ·refine List.nodup_append.mpr ⟨h.nd,by simp,fun x hx y hy=>?_⟩
  have e:y=v:=by simpa using hy
  rw[e];exact fun z=>hv (z▸hx)
 ·rcases List.mem_append.mp hx with q|q
  ·exact h.W2 x q
  ·have e:x=w:=by simpa using q
   rw[e];rcases j with⟨_,j2⟩|⟨_,j2⟩
   ·rw[<-j2];exact N.bl t ht
   ·rw[<-j2];exact N.al t ht
 ·simp at z
theorem Way.closes(h:Way N ia pre v ks left){i:Nat}(hi:pre[i]?=some v):Ring.orM (ks.drop i)≠0/\N.cF (Ring.orM (ks.drop i))/\Ring.orM (ks.drop i)<2^N.n/\∀ k,(Ring.orM (ks.drop i)).testBit k=true->ia.testBit k=true:=by
 have A5:=(jQ.mp hi).1;have hl:=h.w.len;have ni:∀ k,(Ring.orM (ks.drop i)).testBit k=true->k∈ks:=fun k hk=>by
  rw[Ring.iG]at hk;exact List.mem_of_mem_drop (i8 hk)
 refine⟨fun z=>?_,fun x _=>?_,cu fun k hk=>h.w.lt k (ni k hk),fun k hk=>h.sub k (ni k hk)⟩
 ·have hne:ks.drop i≠[]:=fun q=>by
   have:=List.drop_eq_nil_iff.mp q
   lia
  obtain⟨k,hk⟩:=List.exists_mem_of_ne_nil _ hne;have:=Ring.iG (ks.drop i) k;rw[z,cD hk]at this;simp at this
 ·rw[h.w.bd i v (by rw[List.getElem?_append_left A5];exact hi) x]
  simp
end
end RM
namespace Ring
open PySem L2
theorem E5{p:Nat}{ts:List c6}{g:aC p ts}{q m:Nat}(hm:m<2^ts.length):decide ((bu ((q&&&m:Nat):Int)).length%2=1)=g.N.par q m:=by
 rw[vc (n:=ts.length) (Nat.and_lt_two_pow q hm)];unfold RM.Net.par;rw[RM.uZ];have e:RM.cnt (fun k=>(q&&&m).testBit k) ts.length=RM.cnt (fun k=>q.testBit k&&m.testBit k) g.N.n:=RM.eY fun k _=>by rw[Nat.testBit_and]
 rw[e]
def xorL(rs:List Nat):Nat:=rs.foldl (fun m r=>m^^^r) 0
theorem Gk(rs:List Nat):∀ m,rs.foldl (fun m r=>m^^^r) m=m^^^xorL rs:=by
 induction rs with
 | nil=>intro m;show m=m^^^0;simp
 | cons r rs ih =>
   intro m;show rs.foldl (fun m r=>m^^^r) (m^^^r)=m^^^rs.foldl (fun m r=>m^^^r) (0^^^r)
   rw[ih,ih,Nat.zero_xor,Nat.xor_assoc]
theorem xorL_snoc(rs:List Nat)(r:Nat):xorL (rs++[r])=xorL rs^^^r:=by
 unfold xorL;rw[List.foldl_append];rfl
theorem xorL_cons(rs:List Nat)(r:Nat):xorL (r::rs)=r^^^xorL rs:=by
 show rs.foldl (fun m r=>m^^^r) (0^^^r)=_
 rw[Gk,Nat.zero_xor]
theorem Gm{a b:List Nat}(h:a.Perm b):xorL a=xorL b:=by
 induction h with
 | nil=>rfl
 | cons x _ ih=>rw[xorL_cons,xorL_cons,ih]
 | swap x y l =>
   rw[xorL_cons,xorL_cons,xorL_cons,xorL_cons,<-Nat.xor_assoc,<-Nat.xor_assoc,Nat.xor_comm x y]
 | trans _ _ ih1 ih2=>rw[ih1,ih2]
theorem Jm(l:List Nat){i:Nat}(h:i<=l.length):uJ (ay l) (some (i:Int)) none=ay (l.drop i):=by
 unfold uJ;rw[HT.LW,HT.IA,aB,Nat.min_eq_left h];unfold ay;rw[<-List.map_drop,<-List.map_take,List.take_of_length_le (by rw[List.length_drop];lia)]
end Ring
namespace L2
open PySem PySem.Spec PyProof.Rows
section
variable {κ:Type}[DecidableEq κ]
def eR(kvs:List (κ×V))(k:κ):Option V:=(kvs.find? fun kv=>decide (kv.1=k)).map (·.2)
def putK(kvs:List (κ×V))(k:κ)(v:V):List (κ×V) :=
 if(kvs.any fun kv=>decide (kv.1=k))=true then kvs.map (fun kv=>if kv.1=k then(kv.1,v) else kv) else kvs++[(k,v)]
def dW(kvs:List (κ×V))(k:κ):List (κ×V):=kvs.filter fun kv=>decide (kv.1≠k)
theorem ve{k:κ}:eR ([]:List (κ×V)) k=none:=rfl
theorem cQ{p:κ×V}{r:List (κ×V)}{k:κ}(e:p.1=k):eR (p::r) k=some p.2:=by simp[eR,List.find?_cons,e]
theorem cB{p:κ×V}{r:List (κ×V)}{k:κ}(e : ¬ p.1=k):eR (p::r) k=eR r k:=by simp[eR,List.find?_cons,e]
theorem iO(k:κ):∀ kvs:List (κ×V),(kvs.any fun kv=>decide (kv.1=k))=(eR kvs k).isSome
 | []=>rfl
 | p::r=>by
   rw[List.any_cons]
   by_cases e:p.1=k
   ·simp only[cQ e,cD e,Bool.true_or,Option.isSome_some]
   ·rw[cB e,c7 e,Bool.false_or];exact iO k r
theorem A6(k j:κ)(y:V):∀ kvs:List (κ×V),eR (kvs.map fun kv=>if kv.1=k then(kv.1,y) else kv) j=(eR kvs j).map fun x=>if j=k then y else x
 | []=>rfl
 | p::r=>by
   have ih:=A6 k j y r;rw[List.map_cons]
   by_cases h:p.1=k
   ·rw[if_pos h]
    by_cases e:p.1=j
    ·rw[cQ (p:=(p.1,y)) e,cQ e,Option.map_some,if_pos (e.symm.trans h)]
    ·rw[cB (p:=(p.1,y)) e,cB e,ih]
   ·rw[if_neg h]
    by_cases e:p.1=j
    ·rw[cQ (p:=p) e,cQ e,Option.map_some,if_neg (fun z=>h (e.trans z))]
    ·rw[cB (p:=p) e,cB e,ih]
theorem yd(k j:κ)(y:V):∀ kvs:List (κ×V),eR kvs k=none->eR (kvs++[(k,y)]) j=if j=k then some y else eR kvs j
 | [],_=>by
   by_cases e:k=j
   ·rw[if_pos e.symm];exact cQ (p:=(k,y)) e
   ·rw[if_neg (fun z=>e z.symm)];exact cB (p:=(k,y)) e
 | p::r,hn=>by
   rw[List.cons_append];have hk : ¬ p.1=k:=fun z=>by rw[cQ z]at hn;cases hn
   rw[cB hk]at hn;have ih:=yd k j y r hn
   by_cases e:p.1=j
   ·rw[cQ e,cQ e,if_neg (fun z=>hk (e.trans z))]
   ·rw[cB e,cB e,ih]
theorem Jo(kvs:List (κ×V))(k j:κ)(y:V):eR (putK kvs k y) j=if j=k then some y else eR kvs j:=by
 unfold putK
 by_cases a:(kvs.any fun kv=>decide (kv.1=k))=true
 ·rw[if_pos a,A6];rw[iO]at a
  by_cases e:j=k
  ·obtain⟨x,hx⟩:=Option.isSome_iff_exists.mp a;rw[if_pos e,e,hx,Option.map_some,if_pos rfl]
  ·rw[if_neg e];cases eR kvs j with
   | none=>rfl
   | some x=>rw[Option.map_some,if_neg e]
 ·rw[if_neg a];refine yd k j y kvs ?_;rw[iO]at a;cases q:eR kvs k with
  | none=>rfl
  | some x=>rw[q]at a;exact(a rfl).elim
theorem tu(kvs:List (κ×V))(k:κ)(v:V):(putK kvs k v).length<=kvs.length+1:=by
 unfold putK
 split
 ·rw[List.length_map];lia
 ·rw[List.length_append,List.length_cons,List.length_nil];lia
theorem A7{kvs:List (κ×V)}{k:κ}(v:V)(h:eR kvs k=none):putK kvs k v=kvs++[(k,v)]:=by
 unfold putK;rw[iO,h];exact if_neg (by decide)
theorem qP.Gn{o:Option V}{u:Option Value}(r:qP o u):o.isSome=u.isSome:=by
 cases o with
 | none=>cases u with
   | none=>rfl
   | some _=>exact(show False from r).elim
 | some _=>cases u with
   | none=>exact(show False from r).elim
   | some _=>rfl
theorem qP.getD{o:Option V}{u:Option Value}{d:V}{d' : Value}(r:qP o u)(rd:RelV d d'):RelV (o.getD d) (u.getD d'):=by
 cases o with
 | none=>cases u with
   | none=>exact rd
   | some _=>exact(show False from r).elim
 | some _=>cases u with
   | none=>exact(show False from r).elim
   | some _=>exact r
theorem KV.val{kvs:List (κ×V)}{vs:List (κ×Value)}(r:KV kvs vs)(k:κ):qP (eR kvs k) (valueAt vs k):=by
 unfold KV at r
 induction r with
 | nil=>exact True.intro
 | @cons p q ps qs h t ih =>
   obtain⟨h1,h2⟩:=h
   by_cases e:p.1=k
   ·have e' : q.1=k:=h1.symm.trans e;have b:valueAt (q::qs) k=some q.2:=by simp[valueAt,List.find?_cons,e']
    rw[cQ e,b];exact h2
   ·have e' : ¬ q.1=k:=fun z=>e (h1.trans z)
    have b:valueAt (q::qs) k=valueAt qs k:=by simp[valueAt,List.find?_cons,e']
    rw[cB e,b];exact ih
theorem KV.any{kvs:List (κ×V)}{vs:List (κ×Value)}(r:KV kvs vs)(k:κ):(kvs.any fun kv=>decide (kv.1=k))=vs.any fun kv=>decide (kv.1=k):=by
 unfold KV at r
 induction r with
 | nil=>rfl
 | cons h t ih=>rw[List.any_cons,List.any_cons,ih,h.1]
theorem KV.repl{kvs:List (κ×V)}{vs:List (κ×Value)}(r:KV kvs vs)(k:κ){y:V}{u:Value}(ry:RelV y u):
 KV (kvs.map fun kv=>if kv.1=k then(kv.1,y) else kv) (vs.map fun kv=>if kv.1=k then(kv.1,u) else kv):=by
 unfold KV at r ⊢
 induction r with
 | nil=>exact .nil
 | @cons p q ps qs h t ih =>
   rw[List.map_cons,List.map_cons];refine .cons ?_ ih;obtain⟨h1,h2⟩:=h
   by_cases e:p.1=k
   ·rw[if_pos e,if_pos (h1.symm.trans e)];exact⟨h1,ry⟩
   ·rw[if_neg e,if_neg (fun z=>e (h1.trans z))];exact⟨h1,h2⟩
theorem KV.put{kvs:List (κ×V)}{vs:List (κ×Value)}(r:KV kvs vs)(k:κ){y:V}{u:Value}(ry:RelV y u):KV (putK kvs k y) (stored vs k u):=by
 unfold putK stored;rw[r.any k]
 by_cases e:(vs.any fun kv=>decide (kv.1=k))=true
 ·rw[if_pos e,if_pos e];exact r.repl k ry
 ·rw[if_neg e,if_neg e];exact Paired.snoc r ⟨rfl,ry⟩
theorem KV.length{kvs:List (κ×V)}{vs:List (κ×Value)}(r:KV kvs vs):kvs.length=vs.length:=Paired.length r
theorem Jp(kvs:List (κ×V))(k:κ):(dW kvs k).length<=kvs.length:=List.length_filter_le _ _
end
theorem E6{P:Program}{w:World}{k:Key}{u:Value}(r:RelV (kV k) u):(dN P w).is k u=true:=by
 cases k with
 | inl i=>obtain⟨t,e⟩:=(show ∃ t,u=Value.int i t from r);subst e;exact An P w i t
 | inr x=>obtain⟨t,e⟩:=(show ∃ t,u=Value.str x t from r);subst e;exact Ao P w x t
theorem ye{P:Program}{w:World}:∀{ks:List Key} {us:List Value},Vals (ks.map kV) us->ItemsAre (dN P w) ks us
 | [],_,r=>by rw[List.map_nil]at r;cases r;exact .nil
 | k::ks,_,r=>by
   rw[List.map_cons]at r;cases r with
   | cons h t=>exact .cons (E6 h) (ye t)
abbrev KT(H:Hp):List (List Key×V)->List (List Key×Addr×Value)->Prop:=Paired fun p q=>p.1=q.1/\H q.2.1=some (.tup (p.1.map kV))/\RelV p.2 q.2.2
theorem KT.val{H:Hp}{kvs:List (List Key×V)}{xs:List (List Key×Addr×Value)}(r:KT H kvs xs)(k:List Key):qP (eR kvs k) ((atKey xs k).map (·.2)):=by
 induction r with
 | nil=>exact True.intro
 | @cons p q ps qs h t ih =>
   obtain⟨h1,_,h2⟩:=h
   by_cases e:p.1=k
   ·have e' : q.1=k:=h1.symm.trans e;have b:atKey (q::qs) k=some q.2:=by simp[atKey,List.find?_cons,e']
    rw[cQ e,b];exact h2
   ·have e' : ¬ q.1=k:=fun z=>e (h1.trans z)
    have b:atKey (q::qs) k=atKey qs k:=by simp[atKey,List.find?_cons,e']
    rw[cB e,b];exact ih
theorem KT.repl{H:Hp}{kvs:List (List Key×V)}{xs:List (List Key×Addr×Value)}(r:KT H kvs xs)(k:List Key){y:V}{u:Value}(ry:RelV y u):
 KT H (kvs.map fun kv=>if kv.1=k then(kv.1,y) else kv) (xs.map (putAt k u)):=by
 induction r with
 | nil=>exact .nil
 | @cons p q ps qs h t ih =>
   rw[List.map_cons,List.map_cons];refine .cons ?_ ih;obtain⟨h1,h2,h3⟩:=h;unfold putAt
   by_cases e:p.1=k
   ·rw[if_pos e,if_pos (h1.symm.trans e)];exact⟨h1,h2,ry⟩
   ·rw[if_neg e,if_neg (fun z=>e (h1.trans z))];exact⟨h1,h2,h3⟩
theorem KT.put{H:Hp}{kvs:List (List Key×V)}{xs:List (List Key×Addr×Value)}(r:KT H kvs xs)(k:List Key){b:Addr}{y:V}{u:Value}(hb:H b=some (.tup (k.map kV)))(ry:RelV y u):
 KT H (putK kvs k y) (storedH xs k b u):=by
 have e:(kvs.any fun kv=>decide (kv.1=k))=(atKey xs k).isSome:=by
  rw[iO,(r.val k).Gn,Option.isSome_map]
 unfold putK storedH;rw[e]
 by_cases q:(atKey xs k).isSome=true
 ·rw[if_pos q,if_pos q];exact r.repl k ry
 ·rw[if_neg q,if_neg q];exact Paired.snoc r ⟨rfl,hb,ry⟩
theorem KT.keeps{H H' : Hp}{kvs:List (List Key×V)}{xs:List (List Key×Addr×Value)}(r:KT H kvs xs)(ht:∀ b ys,H b=some (.tup ys)->H' b=some (.tup ys)):KT H' kvs xs :=
 Paired.yH r fun _ _ z=>⟨z.1,ht _ _ z.2.1,z.2.2⟩
section
variable {P:Program}{w:World}{H:Hp}{h:Heap}{a:Addr}
theorem NC{u:HO}(ok:nV P w H h)(e:Rd H a u):bJ P w H h a u:=e.ok ok
theorem A8{kvs:List (Key×V)}(ok:nV P w H h)(e:Rd H a (.dK kvs)):kvs.length<=sizeLine/\(a==sysModules)=false/\∃ vs,KV kvs vs/\h.DictOf (dN P w) a vs :=
 show bJ P w H h a (.dK kvs) from NC ok e
theorem RV{kvs:List (Key×V)}(ok:nV P w H h)(e:H a=some (.dK kvs)):kvs.length<=sizeLine/\(a==sysModules)=false/\∃ vs,KV kvs vs/\h.DictOf (dN P w) a vs:=A8 ok (.inl e)
theorem rg{ks:List Key}(ok:nV P w H h)(e:H a=some (.tup (ks.map kV))):(tupleKind (dN P w)).is h ks a:=by
 obtain⟨_,its,r,o,h1,h2,n,h3⟩:=(show bJ P w H h a (.tup (ks.map kV)) from ok a _ e)
 exact⟨o,its.toArray,n,h1,h2,h3,by simpa using ye r⟩
theorem A9{kvs:List (List Key×V)}(ok:nV P w H h)(e:Rd H a (.dT kvs)):kvs.length<=sizeLine/\(a==sysModules)=false/\
 ∃ xs,KT H kvs xs/\h.DictOfH (tupleKind (dN P w)) a xs:=by
 obtain⟨z,y,xs,r,o,es,ep,h1,h2,h3,h4,h5⟩:=(show bJ P w H h a (.dT kvs) from NC ok e)
 refine⟨z,y,xs,r,o,es,ep,h1,h2,h3,h4,fun x hx=>?_,h5⟩
 have all:∀{l:List (List Key×V)} {m:List (List Key×Addr×Value)},KT H l m->∀ x∈m,(tupleKind (dN P w)).is h x.1 x.2.1:=by
  intro l m q
  induction q with
  | nil=>intro x hx;exact nomatch hx
  | @cons p q ps qs hq t ih =>
    intro x hx;rcases List.mem_cons.mp hx with e|hx
    ·subst e;exact rg ok (by rw[<-hq.1];exact hq.2.1)
    ·exact ih x hx
 exact all r x hx
theorem Jq{kvs:List (List Key×V)}(ok:nV P w H h)(e:H a=some (.dT kvs)):kvs.length<=sizeLine/\(a==sysModules)=false/\
 ∃ xs,KT H kvs xs/\h.DictOfH (tupleKind (dN P w)) a xs:=A9 ok (.inl e)
end
def Jr(H:Hp)(a:Addr)(y:V)(r:Option V):Prop :=
 (∃ kvs k,Rd H a (.dK kvs)/\y=kV k/\r=eR kvs k)\/∃ kvs k b,Rd H a (.dT kvs)/\y = .ref b/\H b=some (.tup (k.map kV))/\r=eR kvs k
def Js(H:Hp)(a:Addr)(y v:V)(H' : Hp):Prop :=
 (∃ kvs k,H a=some (.dK kvs)/\y=kV k/\kvs.length<sizeLine/\H' = upd H a (.dK (putK kvs k v)))\/
 ∃ kvs k b,H a=some (.dT kvs)/\y = .ref b/\H b=some (.tup (k.map kV))/\kvs.length<sizeLine/\H' = upd H a (.dT (putK kvs k v))
theorem Js.t{H:Hp}{a b:Addr}{kvs:List (List Key×V)}{k:List Key}{v:V}(e:H a=some (.dT kvs))(eb:H b=some (.tup (k.map kV)))(hl:kvs.length<sizeLine):
 Js H a (.ref b) v (upd H a (.dT (putK kvs k v))):=.inr ⟨kvs,k,b,e,rfl,eb,hl,rfl⟩
section
variable {X:Cx}{pq:aR}{σ:St}{H:Hp}{s:Shared}{a:Addr}{y v:V}{u r:Value}{o:Option V}{A:Around}{E:eK}
theorem Inv.big(I:Inv X pq σ H s):sysModules<s.heap.objs.size:=by
 have h:mainGlobals<s.heap.objs.size:=(I.mod.glob.keeps I.bk).lt;exact Nat.lt_trans (by decide) h
theorem Gp{Q:eK}(hu:A.units+1<cLine)(I:Inv X pq σ H s)(g:Jr H a y (some v))(ry:RelV y u)(h:∀ w' s',Inv X pq σ H s'->RelV v w'->Q w' s'):
 wpAny (model X.prog X.w) A (getItem (.ref a) u) Q E s:=by
 rcases g with⟨kvs,k,e,ey,l⟩|⟨kvs,k,b,e,ey,eb,l⟩
 ·subst ey;obtain⟨z,hd,vs,rel,dd⟩:=A8 I.hok e;obtain⟨w',hw,rw'⟩:=qP.some_of (v:=v) (o:=valueAt vs k) (by rw[l];exact rel.val k)
  exact wpAny_getItem_of (E6 ry) dd.mapOf hw (h w' _ (I.tok _) rw')
 ·subst ey;cases(show u=Value.ref b from ry)
  obtain⟨z,hd,xs,rel,dd⟩:=A9 I.hok e;obtain⟨w',hw,rw'⟩:=qP.some_of (v:=v) (o:=(atKey xs k).map (·.2)) (by rw[l];exact rel.val k)
  obtain⟨p,hp,Qp⟩:=wH.mp hw;refine wpAny_getItem_heap (tupleKind_room_in1 hu) (rg I.hok eb) dd hp ?_;rw[Qp];exact h w' _ (I.tok _) rw'
theorem uo{h' : Heap}{t' : Nat}{ob:HO}(I:Inv X pq σ H s)(mu:QM (H a))(hs:Heap.SameBut a s.heap h')(he:∃ q,h'.get? a=some q)(new:bJ X.prog X.w (upd H a ob) h' a ob):
 Inv X pq σ (upd H a ob) { s with heap:=h',toks:=t'} :=
 I.write (x:=a) (e:=a) mu (.inl rfl) (fun b q hb z=>(hs.2 b hb).trans z) he new
theorem OY{P:Program}{w:World}{H' : Hp}{h' : Heap}{kvs:List (Key×V)}{vs:List (Key×Value)}(z:kvs.length<=sizeLine)(hd:(a==sysModules)=false)(rel:KV kvs vs)(dd:h'.DictOf (dN P w) a vs):
 bJ P w H' h' a (.dK kvs):=⟨z,hd,vs,rel,dd⟩
theorem Gq{H' : Hp}{Q:Unit->Shared->Prop}(hu:A.units+1<cLine)(I:Inv X pq σ H s)(g:Js H a y v H')(ry:RelV y u)(rv:RelV v r)(h:∀ s',Inv X pq σ H' s'->Q () s'):
 wpAny (model X.prog X.w) A (setItem (.ref a) u r) Q E s:=by
 rcases g with⟨kvs,k,e,ey,l,eH⟩|⟨kvs,k,b,e,ey,eb,l,eH⟩
 ·subst ey eH;obtain⟨z,hd,vs,rel,dd⟩:=RV I.hok e;have hz:vs.length<=sizeLine:=by rw[<-rel.length];exact z
  have hl:(putK kvs k v).length<=sizeLine:=by have:=tu kvs k v;lia
  refine wpAny_setItem_pairs (hsz:=hz) (E6 ry) dd fun h' Qu hs=>h _ ?_
  have he:∃ q,h'.get? a=some q:=let⟨q,_,_,hq,_⟩:=Qu;⟨q,hq⟩;exact uo I (by rw[e];exact True.intro) hs he (OY hl hd (rel.put k rv) Qu)
 ·subst ey eH;cases(show u=Value.ref b from ry)
  obtain⟨z,hd,xs,rel,dd⟩:=Jq I.hok e;have hz:xs.length<=sizeLine:=by rw[<-Paired.length rel];exact z
  have hl:(putK kvs k v).length<=sizeLine:=by have:=tu kvs k v;lia
  refine wpAny_setItem_heap (hsz:=hz) (tupleKind_room_in1 hu) (rg I.hok eb) dd fun h' Qu hs=>h _ ?_
  obtain⟨q,es,ep,hq,h2,h3,h4,_,h5⟩:=Qu;refine uo I (by rw[e];exact True.intro) hs ⟨q,hq⟩ ⟨hl,hd,_,(rel.put k eb rv).keeps fun c ys ec=>?_,q,es,ep,hq,h2,h3,h4,h5⟩
  rw[ao (aS ec e (fun z=>nomatch z))]
  exact ec
end
def RW(i:Expr):Prop:=∀ ov iv,subscripted i false ov iv=operate [ov,iv] (getItem ov iv)
theorem Ms{prog:Program}{w:World}{A:Around}{E:eK}{s:Shared}{env:Env}{value slice:Expr}{pos:Pos}{T id:String}{Q:eK}
 (hl:typeLookup (.type T) "__getitem__"=pure (some (.builtin id))) (hs:RW slice)
 (h:wpAny (model prog w) A (eval value env) (fun o s₁=>wpAny (model prog w) A (eval slice env) (fun i s₂=>s₂.TypeIs o T/\wpAny (model prog w) A (getItem o i) Q E s₂) E s₁) E s) :
 wpAny (model prog w) A (eval (.Subscript value slice pos) env) Q E s:=by
 refine Subscript_ (wpAny_mono h (fun o s₁ h₁=>wpAny_mono h₁ (fun i s₂ h₂=>?_) fun _ _ x=>x) fun _ _ x=>x)
 obtain⟨hT,h₂⟩:=h₂;unfold subscriptTail;refine aQ ?_;rw[getitemInPython_of_ne hT.not_modules];refine aQ (wpAny_specialOf hT hl ?_);have fin:wpAny (model prog w) A (subscripted slice false o i) (fun r s₃=>wpAny (model prog w) A (letTemporaryGo value o r >>= fun _=>pure r) Q E s₃) E s₂:=by
  rw[hs o i];exact wpAny_operating (wpAny_mono h₂ (fun r s₃ h₃=>aQ (wpAny_letTemporaryGo (wpAny_pure h₃))) fun _ _ x=>x)
 first
  | exact wpAny_pure (aQ fin)
  | exact aQ (wpAny_pure (aQ fin))
  | exact aQ fin
theorem Ba{X:Cx}{pq:aR}{σ:St}{H:Hp}{s:Shared}{a:Addr}{y:V}{o:Option V}(I:Inv X pq σ H s)(g:Jr H a y o):s.TypeIs (.ref a) "dict":=by
 rcases g with⟨kvs,k,e,_,_⟩|⟨kvs,k,b,e,_,_,_⟩
 ·obtain⟨_,_,vs,_,dd⟩:=A8 I.hok e;exact dd.typeIs
 ·obtain⟨_,_,xs,_,dd⟩:=A9 I.hok e;exact dd.typeIs
def RX(td ty:TE):TE:=fun σ H Q=>td σ H fun x H1=>ty σ H1 fun y H2=>∃ a v,x = .ref a/\Jr H2 a y (some v)/\Q v H2
def RY(td ty tv:TE):TS:=fun D σ H=>tv σ H fun v H1=>td σ H1 fun x H2=>ty σ H2 fun y H3=>∃ a H4,x = .ref a/\Js H3 a y v H4/\D.nx σ H4
section
variable {X:Cx}{o i e value:Expr}{pos pos' tpos:Pos}{td ty tv:TE}
theorem Mt(hu:X.A.units+1<cLine)(ho:PE X o td)(hi:PE X i ty)(hs:RW i):PE X (.Subscript o i pos) (RX td ty):=by
 intro pq s σ H Q I h;refine Ms PySem.F.slot_dict_getitem.lookup hs (dH (ho pq s σ H _ I h) fun u s1 ⟨x,H1,I1,rx,q1⟩=>dH (hi pq s1 σ H1 _ I1 q1) fun iv s2 ⟨y,H2,I2,ry,a,v,ex,g,q2⟩=>?_)
 subst ex;obtain rfl:u=Value.ref a:=rx;exact⟨Ba I2 g,Gp hu I2 g ry fun w' s3 I3 rw'=>⟨v,H2,I3,rw',q2⟩⟩
theorem Mu(hu:X.A.units+1<cLine)(ho:PE X o td)(hi:PE X i ty)(hv:PE X value tv)(hs:swapsWith value (some (.Subscript o i pos')) pos.line X.env=pure false):
 PS X (.Assign [.Subscript o i pos'] value pos) (RY td ty tv):=by
 intro pq s σ H D I h;refine wpAny_Assign_Subscript (dH (hv pq s σ H _ I h) fun r s1 ⟨v,H1,I1,rv,q1⟩=>dH (ho pq s1 σ H1 _ I1 q1) fun u s2 ⟨x,H2,I2,rx,q2⟩=>dH (hi pq s2 σ H2 _ I2 q2) fun iv s3 ⟨y,H3,I3,ry,a,H4,ex,g,q3⟩=>?_) hs
 subst ex;obtain rfl:u=Value.ref a:=rx;exact Gq hu I3 g ry rv fun s4 I4=>⟨σ,H4,I4,q3⟩
end
theorem Jt{P:Program}{w:World}{H:Hp}(h:Heap)(hb:sysModules<h.objs.size):bJ P w H (h.push { cls:=.type "dict",data:=.dict #[]}) h.objs.size (.dT []) :=
 ⟨Nat.zero_le _,beq_eq_false_iff_ne.mpr (Ne.symm (Nat.ne_of_lt hb)),[],.nil,_,#[],0,Heap.get?_push_size _ rfl,⟨rfl,rfl,rfl⟩,rfl,rfl,List.nodup_nil⟩
structure M1(X:Cx)(o:Expr)(m:Str)(apos:Pos)(e:Expr)(cpos:Pos):Prop where
 base:attributeBase o m X.env (eval o X.env)=eval o X.env
 few:((backTo cpos (starEach [e] X.env)).all (fun x=>!x.1)&&(backToKw cpos (keywordEach [] X.env)).all (fun x=>x.1.isSome)
  && decide (([e]:List Expr).length+([]:List Keyword).length+(if([]:List Keyword).isEmpty then 0 else 1)<30))=true
 line:(apos.endLine==cpos.line)=true
 trees:backTo cpos (starEach [e] X.env)=[(false,eval e X.env)]
structure M2(X:Cx)(o:Expr)(m:Str)(apos:Pos)(e f:Expr)(cpos:Pos):Prop where
 base:attributeBase o m X.env (eval o X.env)=eval o X.env
 few:((backTo cpos (starEach [e,f] X.env)).all (fun x=>!x.1)&&(backToKw cpos (keywordEach [] X.env)).all (fun x=>x.1.isSome)
  && decide (([e,f]:List Expr).length+([]:List Keyword).length+(if([]:List Keyword).isEmpty then 0 else 1)<30))=true
 line:(apos.endLine==cpos.line)=true
 trees:backTo cpos (starEach [e,f] X.env)=[(false,eval e X.env),(false,eval f X.env)]
def Vv(H:Hp)(a:Addr):Prop:=(∃ kvs,Rd H a (.dK kvs))\/∃ kvs,Rd H a (.dT kvs)
theorem Ju{X:Cx}{pq:aR}{σ:St}{H:Hp}{s:Shared}{a:Addr}(I:Inv X pq σ H s)(d:Vv H a):
 s.TypeIs (.ref a) "dict"/\(∀ b,Value.ref a = .ref b->∃ ob,s.heap.get? b=some ob/\ob.dict=none)/\(a==sysModules)=false:=by
 rcases d with⟨kvs,e⟩|⟨kvs,e⟩
 ·obtain⟨_,hd,vs,_,dd⟩:=A8 I.hok e;refine⟨dd.typeIs,fun b q=>?_,hd⟩
  cases q;obtain⟨ob,_,_,h1,h2,_⟩:=dd;exact⟨ob,h1,h2.2.1⟩
 ·obtain⟨_,hd,xs,_,dd⟩:=A9 I.hok e;refine⟨dd.typeIs,fun b q=>?_,hd⟩
  cases q;obtain⟨ob,_,_,h1,h2,_⟩:=dd;exact⟨ob,h1,h2.2.1⟩
section
variable {X:Cx}{pq:aR}{σ:St}{H:Hp}{s:Shared}{a:Addr}{y d:V}{u r:Value}{o:Option V}{A:Around}{E:eK}
theorem OZ{Q:eK}(hu:A.units+1<cLine)(I:Inv X pq σ H s)(g:Jr H a y o)(ry:RelV y u)(rd:RelV d r)(h:∀ w' s',Inv X pq σ H s'->RelV (o.getD d) w'->Q w' s'):
 wpAny (model X.prog X.w) A (call (.builtin "dict.get") [.ref a,u,r]) Q E s:=by
 rcases g with⟨kvs,k,e,ey,l⟩|⟨kvs,k,b,e,ey,eb,l⟩
 ·subst ey;obtain⟨z,hd,vs,rel,dd⟩:=A8 I.hok e;refine call_meetsIn PySem.F.slot_dict_get dd.typeIs PySem.F.entry_dict_get (PySem.F.args_dict_get_3 _ _ _) (meets_dict_get_default (dN X.prog X.w) a (E6 ry) hd r) ⟨_,dd.mapOf,h _ _ (I.tok _) ?_⟩;rw[l];exact(rel.val k).getD rd
 ·subst ey;cases(show u=Value.ref b from ry)
  obtain⟨z,hd,xs,rel,dd⟩:=A9 I.hok e;refine call_meetsIn PySem.F.slot_dict_get dd.typeIs PySem.F.entry_dict_get (PySem.F.args_dict_get_3 _ _ _) (meetsH_dict_get_default (tupleKind (dN X.prog X.w)) a b hd r) ⟨tupleKind_room_in1 hu,k,xs,rg I.hok eb,dd,h _ _ (I.tok _) ?_⟩;rw[l];exact(rel.val k).getD rd
end
def O0(td ty tx:TE):TE:=fun σ H Q=>td σ H fun x H1=>∃ a,x = .ref a/\Vv H1 a/\ty σ H1 fun y H2=>tx σ H2 fun z H3=>∃ o,Jr H3 a y o/\Q (o.getD z) H3
section
variable {X:Cx}{o e f:Expr}{apos cpos:Pos}{td ty tx:TE}
theorem Jv(hu:X.A.units+1<cLine)(ho:PE X o td)(he:PE X e ty)(hf:PE X f tx)(m:M2 X o "get" apos e f cpos):PE X (.Call (.Attribute o "get" apos) [e,f] [] cpos) (O0 td ty tx):=by
 intro pq s σ H Q I h;refine wpAny_Call_method m.base m.few m.line PySem.F.plainAttrs_dict PySem.F.slot_dict_get PySem.F.type_dict_get (dH (ho pq s σ H _ I h) fun u s1 ⟨x,H1,I1,rx,a,ex,d,q1⟩=>?_)
 subst ex;obtain rfl:u=Value.ref a:=rx;obtain⟨t1,t2,_⟩:=Ju I1 d;refine⟨t1,t2,?_⟩;rw[m.trees];refine Calls.callWith_builtin rfl (Calls.evalArgs_plain (Calls.spliced_cons (dH (he pq s1 σ H1 _ I1 q1) fun iv s2 ⟨y,H2,I2,ry,q2⟩ =>
  Calls.spliced_cons (dH (hf pq s2 σ H2 _ I2 q2) fun fv s3 ⟨z,H3,I3,rz,ov,g,q3⟩=>Calls.spliced_nil ?_))))
 exact OZ hu I3 g ry rz fun w' s4 I4 rw'=>⟨_,H3,I4,rw',q3⟩
end
section
variable {κ:Type}[DecidableEq κ]
theorem Jw{kvs:List (κ×V)}{k:κ}(h:eR kvs k=none): ¬ k∈kvs.map (·.1):=by
 intro m;obtain⟨p,hp,e⟩:=List.mem_map.mp m;have q:(kvs.any fun kv=>decide (kv.1=k))=true:=List.any_eq_true.mpr ⟨p,hp,cD e⟩
 rw[iO,h]at q;exact absurd q (by simp)
theorem Mv{kvs:List (κ×V)}{k:κ}{v:V}(h:eR kvs k=some v):k∈kvs.map (·.1):=by
 have q:(kvs.any fun kv=>decide (kv.1=k))=true:=by
  rw[iO,h]
  all_goals rfl
 obtain⟨p,hp,e⟩:=List.any_eq_true.mp q;exact List.mem_map.mpr ⟨p,hp,i8 e⟩
theorem E7:∀{l:List κ} {k:κ},l.Nodup->¬ k∈l->(l++[k]).Nodup
 | [],k,_,_=>by simp
 | a::r,k,h,hk=>by
   obtain⟨h1,h2⟩:=List.nodup_cons.mp h;show(a::(r++[k])).Nodup;refine List.nodup_cons.mpr ⟨fun m=>?_,E7 h2 fun m=>hk (List.mem_cons.mpr (Or.inr m))⟩
   rcases List.mem_append.mp m with q|q
   ·exact h1 q
   ·exact hk (List.mem_cons.mpr (Or.inl (List.mem_singleton.mp q).symm))
theorem Mw{kvs:List (κ×V)}{k:κ}(v:V)(hn:(kvs.map (·.1)).Nodup)(h:eR kvs k=none):((putK kvs k v).map (·.1)).Nodup:=by
 rw[A7 v h,List.map_append];exact E7 hn (Jw h)
theorem yf{p:κ×V}{r:List (κ×V)}{k:κ}(e:p.1=k):dW (p::r) k=dW r k:=by
 unfold dW;rw[List.filter_cons,if_neg (by simp[e])]
theorem yg{p:κ×V}{r:List (κ×V)}{k:κ}(e : ¬ p.1=k):dW (p::r) k=p::dW r k:=by
 unfold dW;rw[List.filter_cons,if_pos (by simp[e])]
theorem yh{kvs:List (κ×V)}{k:κ}{p:κ×V}(h:p∈dW kvs k):p∈kvs:=(List.mem_filter.mp h).1
theorem vf:∀{kvs:List (κ×V)} {k:κ},(kvs.map (·.1)).Nodup->((dW kvs k).map (·.1)).Nodup
 | [],_,_=>List.nodup_nil
 | p::r,k,h=>by
   have h:(p.1::r.map (·.1)).Nodup:=h;obtain⟨h1,h2⟩:=List.nodup_cons.mp h
   by_cases e:p.1=k
   ·rw[yf e];exact vf h2
   ·rw[yg e];show(p.1::(dW r k).map (·.1)).Nodup;refine List.nodup_cons.mpr ⟨fun m=>h1 ?_,vf h2⟩
    obtain⟨q,hq,eq⟩:=List.mem_map.mp m;exact List.mem_map.mpr ⟨q,yh hq,eq⟩
end
end L2
namespace Ring
open PySem L2
end Ring
namespace L2
open PySem PySem.Spec PyProof.Rows
end L2
namespace RM
variable {N:Net}
end RM
namespace Ring
open PySem L2
end Ring
namespace L2
open PySem PySem.Spec PyProof.Rows
end L2
namespace Ring
open PySem L2
end Ring
namespace L2
open PySem PySem.Spec PyProof.Rows
end L2
namespace Ring
open PySem L2
end Ring
namespace L2
open PySem PySem.Spec PyProof.Rows
theorem Gr{K:bW}{a:Addr}{xs:List V}{g:TG}{tb:TS}{D:Ends}{σ:St}{H:Hp}(Pv:Nat->St->Hp->Prop)(h0:Pv 0 σ H)(hl:∀ i σ H,i<=xs.length->Pv i σ H->aV K H a xs)
 (hs:∀ i x T σ H,xs[i]?=some x->Pv i σ H->H T=none->g (.ref T) σ (upd H T (.tup [.int (i:Int),x])) fun σ2 H2=>tb { D with nx:=Pv (i+1),ct:=Pv (i+1),bk:=D.nx} σ2 H2) (hd:∀ σ H,Pv xs.length σ H->D.nx σ H) :
 ∃ W:Nat->Nat->St->Hp->Prop,(∃ m,W 0 m σ H)/\∀ i m σ H,W i m σ H->
   ((Gh K a).stop i H/\D.nx σ H)\/((Gh K a).go i H/\∃ N:St->Hp->Prop,(∀ σ' H',N σ' H'->∃ m',m'<m/\W (i+1) m' σ' H')/\∀ x H',(Gh K a).Lp i H x H'->g x σ H' fun σ2 H2=>tb { D with nx:=N,ct:=N,bk:=D.nx} σ2 H2):=by
 refine⟨fun i m σ H=>m=xs.length-i/\i<=xs.length/\Pv i σ H,⟨xs.length,by simp,Nat.zero_le _,h0⟩,?_⟩
 rintro i m σ H ⟨rfl,hi,p⟩;have q:=hl i σ H hi p
 by_cases hlt:i<xs.length
 ·refine .inr ⟨⟨xs,xs[i],q,by simp[hlt]⟩,Pv (i+1),fun σ' H' p'=>⟨xs.length-(i+1),by lia,rfl,hlt,p'⟩,fun v H' y=>?_⟩
  obtain⟨T,x,rfl,hT,rfl,y1⟩:=y;exact hs i x T σ _ (y1 xs q) p hT
 ·have e:i=xs.length:=by lia
  subst e;exact .inl ⟨⟨xs,q,rfl⟩,hd σ H p⟩
end L2
namespace Ring
open PySem L2
def oV:Option Int->V
 | none=>.fD
 | some i=>.int i
abbrev Pr:=Option Int×Option Int
def sel(q:Pr)(u:Bool):Option Int:=if u=true then q.2 else q.1
def Jx(R:List Pr)(i:Nat):Pr:=R.getD i (none,none)
def jD(H:Hp)(x:V)(q:Pr):Prop:=∃ b,x = .ref b/\H b=some (.tup [oV q.1,oV q.2])
def RowW(H:Hp)(x:V)(R:List Pr):Prop:=∃ b ys,x = .ref b/\H b=some (.tup ys)/\Paired (jD H) ys R
def jE(H:Hp)(b:Addr)(W:List (List Pr)):Prop:=∃ ys,H b=some (.tup ys)/\Paired (RowW H) ys W
def Vw(p:Nat)(W:List (List Pr)):Prop:=W.length=p/\∀ R∈W,R.length=p
theorem jD.same{H H' : Hp}(s:aq H H'){x:V}{q:Pr}(h:jD H x q):jD H' x q:=let⟨b,e,z⟩:=h;⟨b,e,s _ _ z⟩
theorem RowW.same{H H' : Hp}(s:aq H H'){x:V}{R:List Pr}(h:RowW H x R):RowW H' x R:=let⟨b,ys,e,z,pr⟩:=h;⟨b,ys,e,s _ _ z,Paired.imp' (fun _ _ z=>z.same s) pr⟩
theorem jE.same{H H' : Hp}(s:aq H H'){b:Addr}{W:List (List Pr)}(h:jE H b W):jE H' b W:=let⟨ys,z,pr⟩:=h;⟨ys,s _ _ z,Paired.imp' (fun _ _ z=>z.same s) pr⟩
theorem jD.tups{H H' : Hp}(s:dG H H'){x:V}{q:Pr}(h:jD H x q):jD H' x q:=let⟨b,e,z⟩:=h;⟨b,e,s _ _ z⟩
theorem RowW.tups{H H' : Hp}(s:dG H H'){x:V}{R:List Pr}(h:RowW H x R):RowW H' x R:=let⟨b,ys,e,z,pr⟩:=h;⟨b,ys,e,s _ _ z,Paired.imp' (fun _ _ z=>z.tups s) pr⟩
end Ring
namespace L2
open PySem PySem.Spec PyProof.Rows
end L2
namespace RM
variable {N:Net}{m t0:Nat}
def Net.TY(N:Net)(t v:Nat):Nat:=if N.a t=v then N.b t else N.a t
def Net.rh(N:Net)(left v:Nat):List Nat:=(List.range N.n).filter fun t=>left.testBit t&&(decide (N.a t=v) || decide (N.b t=v))
theorem jF{left v t:Nat}:t∈N.rh left v↔t<N.n/\left.testBit t=true/\(N.a t=v\/N.b t=v):=by
 unfold Net.rh;rw[List.mem_filter,List.mem_range,Bool.and_eq_true,Bool.or_eq_true,decide_eq_true_eq,decide_eq_true_eq]
inductive Wk(N:Net)(m t0:Nat):List (Nat×Int)->Nat->Nat->Prop
 | start:Wk N m t0 [(t0,1)] (N.b t0) (m^^^2^t0)
 | next {acc:List (Nat×Int)} {v left t:Nat} (h:Wk N m t0 acc v left) (h0:left≠0) (ht:(N.rh left v)[0]?=some t):Wk N m t0 (acc++[(t,if N.a t=v then 1 else -1)]) (N.TY t v) (left^^^2^t)
theorem Bb{t v:Nat}(h:N.a t=v\/N.b t=v):(N.a t=v/\N.b t=N.TY t v)\/(N.b t=v/\N.a t=N.TY t v):=by
 unfold Net.TY
 by_cases e:N.a t=v
 ·rw[if_pos e];exact .inl ⟨e,rfl⟩
 ·rw[if_neg e];rcases h with h|h
  ·exact absurd h e
  ·exact .inr ⟨h,rfl⟩
theorem Jy{pre ks:List Nat}{v left:Nat}(h:Way N m pre v ks left)(hz:∀ k,m.testBit k=true->k∈ks):left=0:=by
 apply Nat.eq_of_testBit_eq;intro k;rw[h.qu,Nat.zero_testBit];cases hb:m.testBit k with
 | false=>rfl
 | true=>rw[cD (hz k hb)];rfl
theorem yi{pre ks:List Nat}{v left:Nat}(r:N.Ring m)(h:Way N m pre v ks left)(h0:left≠0):v∉pre:=fun hv=>by
 obtain⟨i,hi⟩:=List.getElem?_of_mem hv;obtain⟨q0,qe,_,qs⟩:=h.closes hi;rcases r.2.2 _ qs qe with z|z
 ·exact q0 z
 ·refine h0 (Jy h fun k hk=>?_)
  rw[<-z,Ring.iG]at hk;exact List.mem_of_mem_drop (i8 hk)
theorem O1(hm:m<2^N.n)(r:N.Ring m)(hb:m.testBit t0=true){acc:List (Nat×Int)}{v left:Nat}(h:Wk N m t0 acc v left):∃ pre,Way N m pre v (acc.map (·.1)) left/\pre[0]?=some (N.a t0):=by
 induction h with
 | start =>
   refine⟨[N.a t0],?_,rfl⟩;exact(Way.start hm r.2.1 hb).go (by simp) hb (.inl ⟨rfl,rfl⟩)
 | next h h0 ht ih =>
   obtain⟨pre,w,p0⟩:=ih;have hm2:=jF.mp (iT ht);refine⟨_,by rw[List.map_append];exact w.go (yi r w h0) hm2.2.1 (Bb hm2.2.2),?_⟩
   rw[List.getElem?_append_left (by have:=(jQ.mp p0).1;exact this)]
   exact p0
theorem RZ(hm:m<2^N.n)(r:N.Ring m)(hb:m.testBit t0=true){acc:List (Nat×Int)}{v left:Nat}(h:Wk N m t0 acc v left)(h0:left≠0):∃ t,(N.rh left v)[0]?=some t:=by
 obtain⟨pre,w,_⟩:=O1 hm r hb h;obtain⟨t,h1,h2⟩:=w.on (yi r w h0);have ht:t<N.n:=bB w.Mr h1;have hmem:t∈N.rh left v:=jF.mpr ⟨ht,h1,h2⟩;cases e:N.rh left v with
 | nil=>rw[e]at hmem;cases hmem
 | cons x l=>exact⟨x,rfl⟩
theorem Bc{left t n:Nat}(ht:t<n)(hb:left.testBit t=true):cnt (fun j=>left.testBit j) n=cnt (fun j=>(left^^^2^t).testBit j) n+1 :=
 uS (h:=t) hb ht fun x _=>by
  rw[Nat.testBit_xor,Nat.testBit_two_pow]
  by_cases e:x=t
  ·subst e;simp[hb]
  ·rw[c7 e,c7 (fun z=>e z.symm)]
   simp
theorem za(hm:m<2^N.n)(hb:m.testBit t0=true){acc:List (Nat×Int)}{v left:Nat}(h:Wk N m t0 acc v left):acc.length+cnt (fun j=>left.testBit j) N.n=cnt (fun j=>m.testBit j) N.n:=by
 induction h with
 | start =>
   have:=Bc (bB hm hb) hb;show 1+_=_
   lia
 | next h h0 ht ih =>
   have hm2:=jF.mp (iT ht);have:=Bc hm2.1 hm2.2.1;rw[List.length_append,List.length_singleton]
   lia
variable {N:Net}{m t0:Nat}
def Net.D2(N:Net)(m:Nat):Prop:=∀ x,x<N.p->N.dg m x=0\/N.dg m x=2
theorem D2.ia(h:N.D2 m):N.cF m:=fun x hx=>by
 rw[AY];refine c7 ?_;rcases h x hx with e|e<;>lia
theorem Jz(C:Nat->Bool):∀ n,sm (fun x=>if C x=true then 2 else 0) n=2*cnt C n:=fun n=>by
 rw[iU];have:sm (fun k=>if C k=true then 2 else 0) n=sm (fun k=>(if C k=true then 1 else 0)+(if C k=true then 1 else 0)) n:=fM fun k _=>by
  by_cases h:C k=true
  ·rw[if_pos h,if_pos h]
  ·rw[if_neg h,if_neg h]
 rw[this,q9]
 lia
theorem Mx(hm:m<2^N.n)(r:N.Ring m):N.D2 m:=by
 obtain⟨k0,hk0,hb0,hall⟩:=pB hm r;generalize hs:N.aN (fun k=>m.testBit k) N.n (N.a k0)=s at hall
 have hC:∀ x,x<N.p->(fun x=>decide (N.aN (fun k=>m.testBit k) N.n x=s)) x=decide (N.aN (fun k=>m.testBit k) N.n x=s):=fun x _=>rfl
 obtain⟨h2,hl,Ge⟩:=AZ (s:=s) hm r _ hC (fun k hk hb=>cD (hall k hk hb))
 generalize hCC:(fun x=>decide (N.aN (fun k=>m.testBit k) N.n x=s))=C at hC h2 hl Ge
 have none:∀ x,x<N.p->C x=false->N.dg m x=0:=fun x hx hc=>by
  cases hz:N.dg m x with
  | zero=>rfl
  | succ d =>
    exfalso
    obtain⟨k,hk,hb,Lu⟩:=qt (N:=N) (m:=m) (x:=x) (by lia)
    rw[hC x hx]at hc;refine of_decide_eq_false hc ?_;rcases Lu with e|e
    ·rw[<-e];exact hall k hk hb
    ·rw[<-e,<-iN (S:=fun k=>m.testBit k) hk hb]
     exact hall k hk hb
 have pos:∀ x,x<N.p->C x=true->0<N.dg m x:=fun x hx hc=>by
  cases hz:N.dg m x with
  | succ d=>lia
  | zero =>
    exfalso
    obtain⟨y,hy,NB,hne⟩:∃ y,y<N.p/\C y=true/\y≠x:=by
     obtain⟨c,d,h1,h3,h4,h5⟩:=om h2
     by_cases e:c=x
     ·exact⟨d,h3,h5,by lia⟩
     ·exact⟨c,by lia,h4,e⟩
    rw[hC x hx]at hc;rw[hC y hy]at NB;exact hne (alone hz (bM _ _ _ ((i8 hc).trans (i8 NB).symm)))
 have hle:∀ x,x<N.p->(if C x=true then 2 else 0)<=N.dg m x:=fun x hx=>by
  by_cases hc:C x=true
  ·rw[if_pos hc];have h1:=pos x hx hc;have h3:=uh r.2.1 hx
   lia
  ·rw[if_neg hc];exact Nat.zero_le _
 have he:sm (fun x=>if C x=true then 2 else 0) N.p=sm (fun x=>N.dg m x) N.p:=by
  rw[Jz,yY,hl]
 intro x hx;have:=Jj hle he x hx
 by_cases hc:C x=true
 ·rw[if_pos hc]at this;exact .inr this.symm
 ·rw[if_neg hc]at this;exact .inl this.symm
theorem My(hb:m.testBit t0=true){acc:List (Nat×Int)}{v left:Nat}(h:Wk N m t0 acc v left):∀ k,left.testBit k=(m.testBit k && !decide (k∈acc.map (·.1))):=by
 induction h with
 | start =>
   intro k;rw[Nat.testBit_xor,Nat.testBit_two_pow]
   by_cases e:t0=k
   ·subst e;simp[hb]
   ·have e' : ¬ k=t0:=fun z=>e z.symm
    simp[e,e']
 | @next acc v left t h h0 ht ih =>
   intro k;have hm2:=jF.mp (iT ht);have hin:=hm2.2.1;rw[ih t]at hin;rw[Nat.testBit_xor,Nat.testBit_two_pow,ih k,List.map_append]
   by_cases e:t=k
   ·subst e;rw[hin];simp
   ·have e' : ¬ k=t:=fun z=>e z.symm
    have e3:(k∈acc.map (·.1)++[(t,if N.a t=v then(1:Int) else -1)].map (·.1))↔k∈acc.map (·.1):=by simp[e']
    rw[show decide (k∈acc.map (·.1)++[(t,if N.a t=v then(1:Int) else -1)].map (·.1))=decide (k∈acc.map (·.1)) from decide_eq_decide.mpr e3]
    simp[e]
theorem Di(hm:m<2^N.n)(hb:m.testBit t0=true){acc:List (Nat×Int)}{v left:Nat}(h:Wk N m t0 acc v left):left<2^N.n:=cu fun k hk=>by
 rw[My hb h k,Bool.and_eq_true]at hk;exact bB hm hk.1
theorem JA{left n:Nat}(hl:left<2^n):cnt (fun j=>left.testBit j) n=0↔left=0:=by
 constructor
 ·intro h;apply Classical.byContradiction;intro h0;obtain⟨j,hj⟩:=Nat.exists_testBit_of_ne_zero h0;have:=oh (f:=fun j=>left.testBit j) hj (bB hl hj)
  lia
 ·rintro rfl;rw[iU];refine(fM fun k _=>?_).trans (uf n)
  rw[if_neg (by rw[Nat.zero_testBit];simp)]
theorem Mz(hm:m<2^N.n)(hb:m.testBit t0=true){acc:List (Nat×Int)}{v left:Nat}(h:Wk N m t0 acc v left):acc.length=cnt (fun j=>m.testBit j) N.n↔left=0:=by
 have:=za hm hb h;rw[<-JA (Di hm hb h)]
 lia
end RM
namespace Ring
open PySem L2
theorem vg{H:Hp}{xs:List V}{p:Nat}{ts:List c6}{g:aC p ts}{k:Nat}(h3:Paired (TupAt H) xs ts)(hk:k<ts.length):∃ c,xs[k]?=some (.ref c)/\H c=some (.tup [.int ((g.N.a k:Nat):Int),.int ((g.N.b k:Nat):Int),.int (bU ts k).2.2]):=by
 have hkx:k<xs.length:=by rw[h3.length];exact hk
 obtain⟨t,ht,c,hc,hct⟩:=Paired.qf h3 (i:=k) (x:=xs[k]) (by simp[hkx])
 have R0:t=bU ts k:=by
  have z:=qZ hk;rw[ht]at z;exact Option.some.inj z
 refine⟨c,by rw[<-hc];simp[hkx],?_⟩
 rw[hct,<-EU hk,<-EV hk,R0];rfl
end Ring
namespace RM
variable {N:Net}{row:Nat->Int}
end RM
namespace Ring
open PySem L2
end Ring
namespace RM
variable {N:Net}{row:Nat->Int}
variable {N:Net}{row Z1:Nat->Int}
theorem Gs{m t0:Nat}(hm:m<2^N.n)(r:N.Ring m)(hb:m.testBit t0=true):∃ acc v,Wk N m t0 acc v 0:=by
 have key:∀(k:Nat) (acc:List (Nat×Int)) (v left:Nat),Wk N m t0 acc v left->cnt (fun j=>left.testBit j) N.n=k->∃ acc v,Wk N m t0 acc v 0:=by
  intro k
  induction k with
  | zero =>
    intro acc v left h e;have hl:=za hm hb h;rw[e]at hl;have h0:=(Mz hm hb h).mp hl;subst h0;exact⟨acc,v,h⟩
  | succ k ih =>
    intro acc v left h e
    by_cases h0:left=0
    ·subst h0;exact⟨acc,v,h⟩
    ·obtain⟨t,ht⟩:=RZ hm r hb h h0;have h':=Wk.next h h0 ht;have l1:=za hm hb h;have l2:=za hm hb h';rw[List.length_append]at l2;refine ih _ _ _ h' ?_;have e1:[((t:Nat),(if N.a t=v then(1:Int) else -1))].length=1:=rfl
     lia
 exact key _ _ _ _ .start rfl
variable {N' : Net}
end RM
namespace L2
open PySem PySem.Spec PyProof.Rows PySem.W
def wO(n:Nat){α:Type}(R:α->Prop):KasT α->Prop
 | .ret a=>R a
 | .ask i j k=>i<n/\j<n/\∀ b,wO n R (k b)
theorem wO.bind{n:Nat}{α β:Type}{R:α->Prop}{R' : β->Prop}{f:α->KasT β}:∀{t:KasT α},wO n R t->(∀ a,R a->wO n R' (f a))->wO n R' (t.bind f)
 | .ret a,h,g=>by
   rw[KasT.bind.eq_1];exact g a h
 | .ask i j k,h,g=>by
   rw[KasT.bind.eq_2];exact⟨h.1,h.2.1,fun b=>wO.bind (h.2.2 b) g⟩
def dz(n:Nat)(p:Array Nat):Prop:=p.toList.Perm (List.range n)
theorem dz.at{n:Nat}{p:Array Nat}(h:dz n p)(hn:0<n)(x:Nat):p.getD x 0<n:=by
 unfold Array.getD
 split
 ·rename_i hx
  have:p[x]∈p.toList:=by simp
  exact List.mem_range.mp (h.mem_iff.mp this)
 ·exact hn
theorem Gu{n:Nat}{p:Array Nat}(h:dz n p)(i j:Nat):dz n (p.swapIfInBounds i j):=by
 unfold Array.swapIfInBounds
 split
 ·split
  ·exact(Array.perm_iff_toList_perm.mp (Array.swap_perm _ _)).trans h
  ·exact h
 ·exact h
theorem rm{n:Nat}(f g:Nat->Nat):∀(l:List Nat) {p:Array Nat},dz n p->dz n (l.foldl (fun a k=>a.swapIfInBounds (f k) (g k)) p)
 | [],_,h=>h
 | k::l,_,h=>rm f g l (Gu h (f k) (g k))
theorem nj{n:Nat}{p:Array Nat}(h:dz n p)(i j:Nat):dz n (kas_rev p i j):=rm _ _ _ h
theorem JB{n:Nat}{p:Array Nat}(h:dz n p)(i j:Nat):dz n (bubble p i j):=rm _ _ _ h
theorem Dl{n:Nat}{p:Array Nat}(h:dz n p)(hn:0<n):∀ f x,wO n (fun _=>True) (kas_asc p f x)
 | 0,x=>by
   rw[kas_asc.eq_1];trivial
 | f+1,x=>by
   rw[kas_asc.eq_2];refine⟨h.at hn _,h.at hn _,fun b=>?_⟩
   cases b with
   | true=>trivial
   | false=>exact Dl h hn f (x+1)
theorem uq{n:Nat}(hn:0<n):∀ f {p:Array Nat} (x q:Nat),dz n p->wO n (fun r:Array Nat×Nat×Nat=>dz n r.1) (kas_desc f p x q)
 | 0,p,x,q,h=>by
   rw[kas_desc.eq_1];exact h
 | f+1,p,x,q,h=>by
   rw[kas_desc.eq_2];refine⟨h.at hn _,h.at hn _,fun b=>?_⟩
   cases b with
   | true =>
     show wO n _ (if q > 0 then _ else _)
     by_cases hq:q > 0
     ·rw[if_pos hq];exact uq hn f _ _ (nj h _ _)
     ·rw[if_neg hq];exact uq hn f _ _ h
   | false =>
     refine⟨h.at hn _,h.at hn _,fun b=>?_⟩
     cases b with
     | true=>exact h
     | false=>exact uq hn f _ _ h
theorem E8{n:Nat}(hn:0<n){p:Array Nat}(h:dz n p)(x r:Nat):wO n (fun r:Nat×Array Nat=>dz n r.2) (kas_tail3 x r p) :=
 wO.bind (Dl (nj h _ _) hn _ _) fun _ _=>nj h _ _
theorem E9{n:Nat}(hn:0<n){p:Array Nat}(h:dz n p)(x r:Nat):wO n (fun r:Nat×Array Nat=>dz n r.2) (kas_descPart x r p):=by
 refine wO.bind (uq hn _ _ _ h) fun y hy=>?_
 by_cases hq:y.2.2 > 0
 ·rw[if_pos hq];exact E8 hn (nj hy _ _) _ _
 ·rw[if_neg hq];exact E8 hn hy _ _
theorem JC{n:Nat}(hn:0<n){p:Array Nat}(h:dz n p)(r:Nat):wO n (fun r:Nat×Array Nat=>dz n r.2) (kas_count r p):=by
 refine wO.bind (Dl h hn _ _) fun y _=>?_
 by_cases h1:(y==r)=true
 ·rw[if_pos h1];exact h
 ·rw[if_neg h1]
  by_cases h2:y > 1
  ·rw[if_pos h2];refine⟨h.at hn _,h.at hn _,fun b=>?_⟩
   cases b with
   | true=>exact h
   | false=>exact E9 hn (nj h _ _) _ _
  ·rw[if_neg h2];exact E9 hn h _ _
theorem vh{n:Nat}(hn:0<n){p:Array Nat}(h:dz n p)(k:Nat):∀ f x y,wO n (fun _=>True) (kas_place p k f x y)
 | 0,x,y=>by
   rw[kas_place.eq_1];trivial
 | f+1,x,y=>by
   rw[kas_place.eq_2]
   by_cases hx:x ≥ y
   ·rw[if_pos hx];trivial
   ·rw[if_neg hx];refine⟨h.at hn _,h.at hn _,fun b=>?_⟩
    cases b with
    | true=>exact vh hn h k f _ _
    | false=>exact vh hn h k f _ _
theorem JD{n:Nat}(hn:0<n):∀ f {p:Array Nat} (x:Nat),dz n p->wO n (dz n) (kas_bin f p x)
 | 0,p,x,h=>by
   rw[kas_bin.eq_1];exact h
 | f+1,p,x,h=>by
   rw[kas_bin.eq_2];exact wO.bind (vh hn h _ _ _ _) fun l _=>JD hn f _ (JB h _ _)
theorem Fb{n:Nat}(hn:0<n):wO n (dz n) (kas_sort n):=by
 unfold kas_sort;have h0:dz n (List.range n).toArray:=by unfold dz;simp
 refine wO.bind (JC hn h0 n) fun r hr=>?_
 by_cases hx:r.1<n
 ·rw[if_pos hx];exact JD hn _ _ hr
 ·rw[if_neg hx];exact hr
def ND(h:Heap)(v:Value):Prop:=∃(a:Addr) (o:Obj) (x y:Int) (t u:Tok) (k:Nat),v = .ref a/\h.get? a=some o/\o.cls = .type "tuple"/\o.data = .seq #[.int x t,.int y u] k
theorem yj{prog:Program}{w:World}{A:Around}{E:eK}{s:Shared}{vs:List Value}{Q:SortKind->Shared->Prop}(hn:0<vs.length)(hv:∀ v∈vs,ND s.heap v)(q:Q (tuples' true) s):wpAny (model prog w) A (keyKind' vs.toArray) Q E s:=by
 obtain⟨fs,hl,hf,hk⟩:∃ fs:List Value,fs.length=vs.length/\(∀ v∈fs,∃ x t,v=Value.int x t)/\KatTups s.heap vs fs:=by
  clear q hn
  induction vs with
  | nil=>exact⟨[],rfl,fun v hv=>(by cases hv),by rw[KatTups.eq_1];trivial⟩
  | cons v vs ih =>
    obtain⟨fs,h1,h2,h3⟩:=ih fun v JE=>hv v (kU _ JE)
    obtain⟨a,o,x,y,t,u,k,e,ho,hc,hd⟩:=hv v List.mem_cons_self;refine⟨.int x t::fs,by simp[h1],fun v' JE=>?_,?_⟩
    ·rcases List.mem_cons.mp JE with rfl|JE
     ·exact⟨x,t,rfl⟩
     ·exact h2 v' JE
    ·rw[KatTups.eq_2];exact⟨⟨a,o,_,k,e,ho,hc,hd,rfl⟩,h3⟩
 refine kat_kind (T:=.type "int") hk (by lia) (fun v hv=>?_) (by decide) q
 obtain⟨x,t,rfl⟩:=hf v hv;intro A Q E s _ q;exact wpAny_pure q
section
variable {X:Cx}{pq:aR}{σ:St}{H:Hp}{s:Shared}{h' : Heap}
theorem Inv.R1{a:Addr}{o:HO}{t' : Nat}(I:Inv X pq σ H s)(k:∀ b u,b≠X.env.locals->s.heap.get? b=some u->h'.get? b=some u)(ns:∀ m,s.heap.Ns X.env.locals m->h'.Ns X.env.locals m)(hp:s.heap.objs.size<=a)(new:bJ X.prog X.w (upd H a o) h' a o):
 Inv X pq σ (upd H a o) { s with heap:=h',toks:=t'}:=by
 have hn:H a=none:=I.hok.fresh hp;have nl:∀ b u,H b=some u->b≠X.env.locals:=fun b u e z=>by
  rw[z,I.free]at e;cases e
 refine I.step (g':=s.gens) (d':=s.drawn) (ch:=[]) (fun b hb=>absurd hb List.not_mem_nil) (fun b o hb _ _ e _=>k b o hb e) (fun b o hb _ _ e _=>⟨o.slots,k b o hb e⟩) (fun b u _ e n=>?_) (fun b o _ e=>?_) (fun b xs e=>?_) (fun b u xs e=>?_) (fun b ps e=>?_) ns (fun b u e=>?_) I.bare
 ·rw[ao (Nat.ne_of_lt (Nat.lt_of_lt_of_le (Heap.lt_size e) hp))];exact n
 ·by_cases hb:b=X.env.locals
  ·subst hb;obtain⟨m,hm,_⟩:=I.loc;obtain⟨o',es,ep,e',_⟩:=ns m hm;exact⟨o',e'⟩
  ·exact⟨o,k b o hb e⟩
 ·rw[ao (bq e hn)];exact e
 ·rw[ao (bq e hn)];exact e
 ·exact⟨#[],by rw[ao (bq e hn),e];simp⟩
 ·by_cases hb:b=a
  ·subst hb;rw[ae]at e;cases e;exact new
  ·rw[ao hb]at e;refine(I.hok b u e).stay (fun c v hc q=>k c v ?_ q) (fun c q=>by rw[ao (bq q hn)];exact q) fun c xs q=>by rw[ao (bq q hn)];exact q
   rcases hc with rfl|hc
   ·exact nl _ _ e
   ·exact nl _ _ hc
theorem O2{h:Heap}{L:Addr}{m m' : oQ}(a:h.Ns L m)(b:h.Ns L m'):m=m':=by
 obtain⟨o,es,ep,e,d,_,f⟩:=a;obtain⟨o',es',Ex,e',d',_,f'⟩:=b;rw[e]at e';cases e';rw[d]at d';cases d'
 funext x
 rw[<-f x,f' x]
end
theorem JF{prog:Program}{w:World}{A:Around}{E:eK}{s:Shared}{a:Addr}{its:List Value}{n0:Nat}{P:PySem.Fin->Shared->Prop}(ho:s.heap.get? a=some (seqObj "list" its.toArray n0))(hn:its.length<2)
 (q:P (PySem.Fin.done (PySem.Flow.ret PySem.Value.none)) { s with heap:=sortedHeap s.heap a its its.toArray}):wpAny (model prog w) A (PySem.Builtin.«list.sort» { pos:=[PySem.Value.ref a]}) P E s:=by
 have hs1:its.length<=1000:=by lia
 have ht:its.toArray.size<=sizeLine:=by
  rw[List.size_toArray];exact dl (Nat.ble_eq.mpr hs1)
 rw[list_sort_plain];refine aQ (listItems_at ho rfl ?_);refine aQ (listUpdate_at ho rfl ?_ ht (Nat.zero_le _));obtain⟨n1,Lr⟩:∃ n1,(s.heap.update a (Obj.mapSeq fun _=>#[])).get? a=some (seqObj "list" #[] n1):=by
  exact⟨_,get?_update_seq ho fun _=>#[]⟩
 refine aQ (seqEpoch_at Lr rfl ?_);refine aQ (wpAny_newTuple ?_ (by simpa using ht))
 refine aQ (wpAny_newList ?_ (Nat.zero_le _));refine wpAny_holding ?_;have hsz:its.toArray.size<2:=by simpa using hn
 simp only[hsz,↓reduceIte];refine aQ (wpAny_pure ?_);refine aQ (m:=pure ((),SortSt.mk' general' (its.toArray.zip its.toArray) #[] 7 none)) (wpAny_pure ?_);have W3:(((s.heap.update a (Obj.mapSeq fun x=>#[])).push { cls:=Value.type "tuple",data:=Data.seq its.toArray}).push { cls:=Value.type "list",data:=Data.seq #[]}).get? a=some (seqObj "list" #[] n1):=by
  have h1:=Heap.lt_size Lr;rw[Heap.get?_push_ne _ _ _ (Nat.ne_of_lt (by rw[size_push'];exact Nat.lt_succ_of_lt h1)),Heap.get?_push_ne _ _ _ (Nat.ne_of_lt h1)]
  exact Lr
 refine aQ (seqEpoch_at W3 rfl ?_);refine aQ (listUpdate_at W3 rfl ?_ (Nat.zero_le _) ?_)
 ·show wpAny _ _ (if(n1 != n1)=true then _ else ret Value.none) _ _ _
  rw[if_neg (by simp)]
  refine wpAny_pure ?_;have e:Array.map (fun x:Keyed=>x.snd) (its.toArray.zip its.toArray)=its.toArray:=by
   simp;exact List.map_snd_zip (Nat.le_refl _)
  have e2:Array.map (fun x:Keyed=>x.snd) (arrOf (SortSt.mk' general' (its.toArray.zip its.toArray) #[] 7 none))=its.toArray:=e
  rw[e2];exact q
 ·have e:Array.map (fun x:Keyed=>x.snd) (its.toArray.zip its.toArray)=its.toArray:=by
   simp;exact List.map_snd_zip (Nat.le_refl _)
  have e2:Array.map (fun x:Keyed=>x.snd) (arrOf (SortSt.mk' general' (its.toArray.zip its.toArray) #[] 7 none))=its.toArray:=e
  show(Array.map (fun x:Keyed=>x.snd) (arrOf (SortSt.mk' general' (its.toArray.zip its.toArray) #[] 7 none))).size<=_
  rw[e2];exact Nat.le_succ_of_le ht
end L2
namespace RM
variable {N:Net}{row:Nat->Int}
variable {N:Net}{row:Nat->Int}
theorem rq:∀{l L:List Nat},l.Nodup->(∀ x∈l,x∈L)->l.length<=L.length
 | [],_,_,_=>Nat.zero_le _
 | x::l,L,nd,h=>by
   have hx:=h x List.mem_cons_self;have W4:=List.nodup_cons.mp nd;have:=rq (L:=L.erase x) W4.2 fun y hy=>(List.mem_erase_of_ne (fun z:y=x=>W4.1 (by rw[<-z];exact hy))).mpr (h y (kU _ hy))
   rw[List.length_erase_of_mem hx]at this;have:=List.length_pos_of_mem hx;rw[List.length_cons]
   lia
def code(m:Nat):List Nat->Nat
 | []=>0
 | c::cs=>(if m.testBit c=true then 1 else 0)+2*code m cs
theorem zb(m:Nat):∀ cs,code m cs<2^cs.length
 | []=>Nat.one_pos
 | c::cs=>by
   have:=zb m cs;unfold code;rw[List.length_cons,Nat.pow_succ]
   split<;>lia
theorem code_inj{m q:Nat}:∀{cs},code m cs=code q cs->∀ c∈cs,m.testBit c=q.testBit c
 | [],_,c,hc=>by cases hc
 | d::cs,h,c,hc=>by
   unfold code at h;have h1:m.testBit d=q.testBit d:=by
    cases hm:m.testBit d<;>cases hq:q.testBit d
    ·rfl
    ·rw[hm,hq,if_neg Bool.false_ne_true,if_pos rfl]at h;lia
    ·rw[hm,hq,if_neg Bool.false_ne_true,if_pos rfl]at h;lia
    ·rfl
   rcases List.mem_cons.mp hc with rfl|hc
   ·exact h1
   ·rw[h1]at h;exact code_inj (by lia) c hc
theorem Gv{l:List Nat}(nd:l.Nodup)(h:∀ m∈l,m<2^N.n/\N.Ring m):l.length<2^N.az.length:=by
 have inj:∀ m q,m<2^N.n->q<2^N.n->N.cF m->N.cF q->code m N.az=code q N.az->m=q:=fun m q hm hq em eq e=>jA hm hq em eq fun c hc hf=>code_inj e c (br.mpr ⟨hc,hf⟩)
 have Vx:((0:Nat)::l.map fun m=>code m N.az).Nodup:=by
  refine List.nodup_cons.mpr ⟨fun z=>?_,?_⟩
  ·obtain⟨m,hm,e⟩:=List.mem_map.mp z;obtain⟨h1,h2⟩:=h m hm;have e0:code 0 N.az=0:=by
    have:∀ cs,code 0 cs=0:=fun cs=>by
     induction cs with
     | nil=>rfl
     | cons c cs ih =>
       unfold code;rw[Nat.zero_testBit,ih,if_neg Bool.false_ne_true]
    exact this _
   exact h2.1 (inj m 0 h1 (Nat.two_pow_pos _) h2.2.1 cF.zero (by rw[e,e0]))
  ·refine List.Pairwise.map _ (fun a b (hab:a≠b/\a∈l/\b∈l)=>?_) ?_ (R:=fun a b=>a≠b/\a∈l/\b∈l)
   ·obtain⟨h1,h2⟩:=h a hab.2.1;obtain⟨h3,h4⟩:=h b hab.2.2;exact fun e=>hab.1 (inj a b h1 h3 h2.2.1 h4.2.1 e)
   ·exact List.Pairwise.imp_of_mem (fun {a b} ha hb hne=>⟨hne,ha,hb⟩) nd
 have:=rq (L:=List.range (2^N.az.length)) Vx fun x hx=>by
  refine List.mem_range.mpr ?_;rcases List.mem_cons.mp hx with rfl|hx
  ·exact Nat.two_pow_pos _
  ·obtain⟨m,_,rfl⟩:=List.mem_map.mp hx;exact zb _ _
 rw[List.length_cons,List.length_map,List.length_range]at this
 lia
variable {N:Net}{m t0:Nat}
variable {N N' : Net}
end RM
namespace Ring
open PySem L2
end Ring
namespace RM
variable {N:Net}
variable {N:Net}
variable {N:Net}
theorem O3{m x0:Nat}(hm:m<2^N.n)(d2:N.D2 m)(Lv:x0<N.p)(hd0:N.dg m x0=2):
 N.Ring m↔∀ x,x<N.p->(N.aN (fun k=>m.testBit k) N.n x=N.aN (fun k=>m.testBit k) N.n x0↔N.dg m x=2):=by
 constructor
 ·intro r x hx;obtain⟨k0,hk0,hb0,hall⟩:=pB hm r;have on:∀ y,y<N.p->N.dg m y=2->N.aN (fun k=>m.testBit k) N.n y=N.aN (fun k=>m.testBit k) N.n (N.a k0):=fun y hy hd=>by
   obtain⟨k,hk,hb,Lu⟩:=qt (N:=N) (m:=m) (x:=y) (by lia)
   rw[<-hall k hk hb];rcases Lu with e|e
   ·rw[e]
   ·rw[<-e];exact(iN (S:=fun k=>m.testBit k) hk hb).symm
  constructor
  ·intro e;rcases d2 x hx with z|z
   ·exfalso
    have:=alone z (bM _ _ _ e);rw[this]at hd0
    lia
   ·exact z
  ·intro hd;rw[on x hx hd,on x0 Lv hd0]
 ·intro h;have hpos:∀ k,k<N.n->m.testBit k=true->N.aN (fun k=>m.testBit k) N.n (N.a k)=N.aN (fun k=>m.testBit k) N.n x0:=fun k hk hb=>by
   refine(h _ (N.al k hk)).mpr ?_;have h1:=u9 hk hb (.inl rfl);rcases d2 _ (N.al k hk) with z|z
   ·lia
   ·exact z
  have hs:sm (fun x=>N.dg m x) N.p=2*cnt (fun x=>decide (N.aN (fun k=>m.testBit k) N.n x=N.aN (fun k=>m.testBit k) N.n x0)) N.p:=by
   rw[<-Jz];refine fM fun x hx=>?_
   by_cases e:N.aN (fun k=>m.testBit k) N.n x=N.aN (fun k=>m.testBit k) N.n x0
   ·rw[if_pos (cD e)];exact(h x hx).mp e
   ·rw[if_neg (by rw[c7 e];decide)]
    rcases d2 x hx with z|z
    ·exact z
    ·exact absurd ((h x hx).mpr z) e
  have hl:cnt (fun x=>decide (N.aN (fun k=>m.testBit k) N.n x=N.aN (fun k=>m.testBit k) N.n x0)) N.p=cnt (fun k=>m.testBit k) N.n:=by
   rw[yY]at hs
   lia
  refine E3 hm (D2.ia d2) (fun x=>decide (N.aN (fun k=>m.testBit k) N.n x=N.aN (fun k=>m.testBit k) N.n x0)) (fun x _=>rfl) ?_ (fun k hk hb=>cD (hpos k hk hb)) hl
  rw[hl];have:N.dg m x0<=cnt (fun k=>m.testBit k) N.n:=yX fun k _ hk=>(N4.mp hk).1
  lia
inductive Sp(B:List Nat):Nat->Prop
 | zero:Sp B 0
 | add {x b:Nat} (h:Sp B x) (hb:b∈B):Sp B (x^^^b)
section
variable {B C:List Nat}{x y b:Nat}
theorem Sp.mem(h:b∈B):Sp B b:=by
 have:=Sp.add .zero h;rw[Nat.zero_xor]at this;exact this
theorem Sp.xor(h:Sp B x)(h' : Sp B y):Sp B (x^^^y):=by
 induction h' with
 | zero=>rw[Nat.xor_zero];exact h
 | add _ hb ih=>rw[<-Nat.xor_assoc];exact .add ih hb
theorem Sp.mono(h:Sp B x)(hc:∀ b∈B,Sp C b):Sp C x:=by
 induction h with
 | zero=>exact .zero
 | add _ hb ih=>exact ih.xor (hc _ hb)
theorem ic(x b:Nat):x^^^b^^^b=x:=by rw[Nat.xor_assoc,Nat.xor_self,Nat.xor_zero]
theorem Sp.nk:Sp (b::B) x↔Sp B x\/Sp B (x^^^b):=by
 constructor
 ·intro h
  induction h with
  | zero=>exact .inl .zero
  | add h hc ih =>
    rename_i x c
    rcases List.mem_cons.mp hc with e|e
    ·subst e;rcases ih with ih|ih
     ·exact .inr (by rw[ic];exact ih)
     ·exact .inl ih
    ·rcases ih with ih|ih
     ·exact .inl (.add ih e)
     ·exact .inr (by rw[Nat.xor_assoc,Nat.xor_comm c,<-Nat.xor_assoc];exact .add ih e)
 ·rintro(h|h)
  ·exact h.mono fun c hc=>.mem (kU _ hc)
  ·have h2:Sp (b::B) (x^^^b):=h.mono fun c hc=>.mem (kU _ hc)
   have:=h2.add (b:=b) List.mem_cons_self;rw[ic]at this;exact this
theorem Sp.off{t:Nat}(h:Sp B x)(hz:∀ b∈B,b.testBit t=false):x.testBit t=false:=by
 induction h with
 | zero=>exact Nat.zero_testBit t
 | add _ hb ih=>rw[Nat.testBit_xor,ih,hz _ hb];rfl
theorem Sp.lt{n:Nat}(h:Sp B x)(hz:∀ b∈B,b<2^n):x<2^n:=by
 induction h with
 | zero=>exact Nat.two_pow_pos n
 | add _ hb ih=>exact Nat.xor_lt_two_pow ih (hz _ hb)
end
inductive JG:List (Nat×Nat)->Prop
 | nil:JG []
 | cons {t r:Nat} {rest:List (Nat×Nat)} (h:JG rest) (hr:r.testBit t=true) (hz:∀ q∈rest,q.2.testBit t=false):JG ((t,r)::rest)
def jG(rows:List (Nat×Nat))(x:Nat):Nat:=rows.foldl (fun x q=>if x.testBit q.1=true then x^^^q.2 else x) x
section
variable {rows:List (Nat×Nat)}{x t:Nat}
theorem qv(rows:List (Nat×Nat)):∀ x,Sp (rows.map (·.2)) (x^^^jG rows x):=by
 induction rows with
 | nil=>intro x;show Sp [] (x^^^x);rw[Nat.xor_self];exact .zero
 | cons q rest ih =>
   intro x;show Sp (q.2::rest.map (·.2)) (x^^^jG rest (if x.testBit q.1=true then x^^^q.2 else x))
   have h:=ih (if x.testBit q.1=true then x^^^q.2 else x)
   by_cases e:x.testBit q.1=true
   ·rw[if_pos e]at h ⊢;refine Sp.nk.mpr (.inr ?_);rw[Nat.xor_assoc,Nat.xor_comm _ q.2,<-Nat.xor_assoc];exact h
   ·rw[if_neg e]at h ⊢;exact Sp.nk.mpr (.inl h)
theorem Gw(hz:∀ q∈rows,q.2.testBit t=false):∀{x},x.testBit t=false->(jG rows x).testBit t=false:=by
 induction rows with
 | nil=>intro x h;exact h
 | cons q rest ih =>
   intro x h;have h2:(if x.testBit q.1=true then x^^^q.2 else x).testBit t=false:=by
    by_cases e:x.testBit q.1=true
    ·rw[if_pos e,Nat.testBit_xor,h,hz q List.mem_cons_self];rfl
    ·rw[if_neg e];exact h
   exact ih (fun q' hq=>hz q' (kU _ hq)) h2
theorem rA(h:JG rows):∀ x,∀ q∈rows,(jG rows x).testBit q.1=false:=by
 induction h with
 | nil=>intro x q hq;cases hq
 | cons h hr hz ih =>
   rename_i t r rest
   intro x q hq;show(jG rest (if x.testBit t=true then x^^^r else x)).testBit q.1=false
   rcases List.mem_cons.mp hq with e|e
   ·subst e;refine Gw hz ?_
    by_cases e:x.testBit t=true
    ·rw[if_pos e,Nat.testBit_xor,e,hr];rfl
    ·rw[if_neg e];exact N3.mpr e
   ·exact ih _ q e
theorem JH(h:JG rows):∀{x},Sp (rows.map (·.2)) x->(∀ q∈rows,x.testBit q.1=false)->x=0:=by
 induction h with
 | nil=>intro x hs _;cases hs with
   | zero=>rfl
   | add _ hb=>cases hb
 | cons h hr hz ih =>
   rename_i t r rest
   intro x hs hx;have off:∀ y,Sp (rest.map (·.2)) y->y.testBit t=false:=fun y hy=>hy.off fun b hb=>by
    obtain⟨q,hq,rfl⟩:=List.mem_map.mp hb;exact hz q hq
   rcases Sp.nk.mp hs with hs|hs
   ·exact ih hs fun q hq=>hx q (kU _ hq)
   ·exfalso
    have h1:=off _ hs;have h2:=hx (t,r) List.mem_cons_self;rw[Nat.testBit_xor]at h1;have h2:x.testBit t=false:=h2;rw[h2,hr]at h1;cases h1
theorem yk(h:JG rows)(x:Nat):jG rows x=0↔Sp (rows.map (·.2)) x:=by
 have hs:=qv rows x
 constructor
 ·intro e;rw[e,Nat.xor_zero]at hs;exact hs
 ·intro hx;refine JH h ?_ (rA h x);have:=hx.xor hs;rw[<-Nat.xor_assoc,Nat.xor_self,Nat.zero_xor]at this;exact this
end
open Classical in
open Classical in
theorem zc{x:Nat}(h:x≠0):x.testBit x.log2=true:=Nat.testBit_log2 h
theorem MA{x b:Nat}(hb:b≠0):min x (x^^^b)=if x.testBit b.log2=true then x^^^b else x:=by
 have ht:=zc hb;have hlt:b<2^(b.log2+1):=Nat.lt_log2_self;rw[Nat.pow_succ]at hlt;have e:=Ring.yS x b
 by_cases h:x.testBit b.log2=true
 ·rw[if_pos h];have h1:2^b.log2<=x&&&b:=Nat.ge_two_pow_of_testBit (by rw[Nat.testBit_and,h,ht];rfl)
  lia
 ·rw[if_neg h];have h':=N3.mpr h;have e2:=Ring.yS b (2^b.log2);have e3:b&&&2^b.log2=2^b.log2:=Nat.eq_of_testBit_eq fun j=>by
   rw[Nat.testBit_and,Nat.testBit_two_pow]
   by_cases z:b.log2=j
   ·rw[<-z,ht];simp
   ·simp[z]
  have e4:x&&&b=x&&&(b^^^2^b.log2):=Nat.eq_of_testBit_eq fun j=>by
   rw[Nat.testBit_and,Nat.testBit_and,Nat.testBit_xor,Nat.testBit_two_pow]
   by_cases z:b.log2=j
   ·rw[<-z,h'];simp
   ·simp[z]
  have h1:x&&&(b^^^2^b.log2)<=b^^^2^b.log2:=Nat.and_le_right;have h2:x&&&b<2^b.log2:=cu fun j hj=>by
   rw[Nat.testBit_and]at hj;obtain⟨j1,j2⟩:=N4.mp hj;have h3:j≠b.log2:=fun z=>by rw[z,h']at j1;cases j1
   have h4:=bB (m:=b) (n:=b.log2+1) (by rw[Nat.pow_succ];exact hlt) j2
   lia
  lia
open Ring (xorL xorL_cons maskOf)
variable {N:Net}
theorem iH{z:Nat}:N.cF (N.eG z N.az 0)/\N.eG z N.az 0<2^N.n:=n8 fun c hc=>(br.mp hc).1
theorem rB:N.az.Nodup:=List.Pairwise.filter _ List.nodup_range
theorem Gx:N.az.Pairwise (· < ·):=List.Pairwise.filter _ List.pairwise_lt_range
theorem lJ{z j d:Nat}(h:N.az[j]?=some d):(N.eG z N.az 0).testBit d=z.testBit j:=by
 rw[AS rB (fun c hc=>(br.mp hc).2) h,Nat.zero_add]
theorem vj{c:Nat}(hc:c<N.n)(hf:N.kF c=false):∃ j:Nat,N.az[j]?=some c:=List.getElem?_of_mem (br.mpr ⟨hc,hf⟩)
theorem Dm(z y:Nat):N.eG (z^^^y) N.az 0=N.eG z N.az 0^^^N.eG y N.az 0:=by
 refine jA iH.2 (Nat.xor_lt_two_pow iH.2 iH.2) iH.1 (cF.xor iH.1 iH.1) fun c hc hf=>?_
 obtain⟨j,hj⟩:=vj hc hf;rw[lJ hj,Nat.testBit_xor,Nat.testBit_xor,lJ hj,lJ hj]
theorem O4{m:Nat}(hm:m<2^N.n)(ev:N.cF m):∃ z,z<2^N.az.length/\N.eG z N.az 0=m:=by
 refine⟨maskOf (fun i=>m.testBit (N.az.getD i 0)) N.az.length,Ring.mask_lt _ _,jA iH.2 hm iH.1 ev fun c hc hf=>?_⟩
 obtain⟨j,hj⟩:=vj hc hf;rw[lJ hj,Ring.mask_bit];have hl:=(jQ.mp hj).1;rw[cD hl,Bool.true_and,List.getD_eq_getElem?_getD,hj];rfl
theorem JI{c j:Nat}(hc:c<N.n)(hf:N.kF c=false)(h:(N.ring c).testBit j=true):j<=c:=by
 have Vy:N.eO c (N.a c)=N.eO c (N.b c):=by
  unfold Net.kF at hf
  simpa using hf
 have low:∀ k,(N.trail c (N.a c)^^^N.trail c (N.b c)^^^2^c).testBit k=true->k<=c/\(k=c\/N.kF k=true):=fun k hk=>by
  rw[Nat.testBit_xor,Nat.testBit_xor,Nat.testBit_two_pow]at hk
  by_cases e:c=k
  ·exact⟨by lia,.inl e.symm⟩
  ·rw[c7 e,Bool.xor_false]at hk;cases h1:(N.trail c (N.a c)).testBit k with
   | true=>exact⟨Nat.le_of_lt (dU _ _ _ h1).1,.inr (dU _ _ _ h1).2⟩
   | false =>
     rw[h1,Bool.false_xor]at hk;exact⟨Nat.le_of_lt (dU _ _ _ hk).1,.inr (dU _ _ _ hk).2⟩
 have e:N.ring c=N.trail c (N.a c)^^^N.trail c (N.b c)^^^2^c:=by
  refine jA (n6 hc) (cu fun k hk=>Nat.lt_of_le_of_lt (low k hk).1 hc) (jl hc) (fun x hx=>?_) fun d hd hfd=>?_
  ·rw[gj,gj,ng c (Nat.le_of_lt hc),ng c (Nat.le_of_lt hc),lH hc,Vy];unfold Net.inc;cases decide (N.a c=x)<;>cases decide (N.b c=x)<;>cases decide (N.eO c (N.b c)=x)<;>rfl
  ·rw[gm hf hfd];cases q:(N.trail c (N.a c)^^^N.trail c (N.b c)^^^2^c).testBit d with
   | true =>
     rcases(low d q).2 with z|z
     ·rw[z];simp
     ·rw[hfd]at z;cases z
   | false =>
     refine c7 fun z=>?_
     subst z;rw[Nat.testBit_xor,Nat.testBit_xor,Nat.testBit_two_pow,cD rfl]at q;have t1:(N.trail c (N.a c)).testBit c=false:=by
      cases h1:(N.trail c (N.a c)).testBit c with
      | false=>rfl
      | true=>exact absurd (dU _ _ _ h1).1 (Nat.lt_irrefl _)
     have t2:(N.trail c (N.b c)).testBit c=false:=by
      cases h1:(N.trail c (N.b c)).testBit c with
      | false=>rfl
      | true=>exact absurd (dU _ _ _ h1).1 (Nat.lt_irrefl _)
     rw[t1,t2]at q;cases q
 rw[e]at h;exact(low j h).1
theorem yl{z j:Nat}:∀{l:List Nat} {i:Nat},(N.eG z l i).testBit j=true->∃ k c,l[k]?=some c/\z.testBit (i+k)=true/\(N.ring c).testBit j=true
 | [],_,h=>by simp[Net.eG]at h
 | c::r,i,h=>by
   unfold Net.eG at h;rw[Nat.testBit_xor]at h
   by_cases q:z.testBit i=true/\(N.ring c).testBit j=true
   ·exact⟨0,c,rfl,by simpa using q.1,q.2⟩
   ·have z0:(if z.testBit i=true then N.ring c else 0).testBit j=false:=by
     split
     ·next hz=>cases e:(N.ring c).testBit j with
       | false=>rfl
       | true=>exact absurd ⟨hz,e⟩ q
     ·simp
    rw[z0,Bool.false_xor]at h;obtain⟨k,d,h1,h2,h3⟩:=yl h;exact⟨k+1,d,by simpa using h1,by rw[show i+(k+1)=i+1+k by lia];exact h2,h3⟩
theorem Fc{x y:Nat}(i:Nat)(h1:x.testBit i=false)(h2:y.testBit i=true)(h:∀ j,i<j->x.testBit j=y.testBit j):x<y:=by
 have hq:x/2^(i+1)=y/2^(i+1):=Nat.eq_of_testBit_eq fun j=>by
  rw[Nat.testBit_div_two_pow,Nat.testBit_div_two_pow];exact h _ (by lia)
 have hx:x%2^(i+1)<2^i:=Nat.lt_pow_two_of_testBit _ fun k hk=>by
  rw[Nat.testBit_mod_two_pow]
  by_cases e:k=i
  ·subst e;rw[h1,Bool.and_false]
  ·rw[c7 (by lia),Bool.false_and]
 have hy:2^i<=y%2^(i+1):=Nat.ge_two_pow_of_testBit (by rw[Nat.testBit_mod_two_pow,h2,cD (Nat.lt_succ_self _)];rfl)
 have e1:=Nat.div_add_mod x (2^(i+1));have e2:=Nat.div_add_mod y (2^(i+1));rw[hq]at e1
 lia
theorem MB{z y:Nat}(h:z<y)(hy:y<2^N.az.length):N.eG z N.az 0<N.eG y N.az 0:=by
 have hd:z^^^y≠0:=fun e=>by
  have:z=y:=by
   have:=congrArg (· ^^^ y) e
   simpa[Nat.xor_assoc]using this
  lia
 have top:=Nat.testBit_log2 hd;have above:∀ k,(z^^^y).log2<k->(z^^^y).testBit k=false:=fun k hk=>Nat.testBit_lt_two_pow (Nat.lt_of_lt_of_le (Nat.lt_log2_self) (Nat.pow_le_pow_right (by decide) hk))
 generalize hi:(z^^^y).log2=i at top above;have same:∀ k,i<k->z.testBit k=y.testBit k:=fun k hk=>by
  have:=above k hk;rw[Nat.testBit_xor]at this;cases hz:z.testBit k<;>cases hy:y.testBit k<;>rw[hz,hy]at this<;>first | rfl | cases this
 have zi:z.testBit i=false/\y.testBit i=true:=by
  rw[Nat.testBit_xor]at top;cases hz:z.testBit i with
  | false =>
    rw[hz,Bool.false_xor]at top;exact⟨rfl,top⟩
  | true =>
    have Z2:y.testBit i=false:=by
     cases q:y.testBit i with
     | false=>rfl
     | true=>rw[hz,q]at top;cases top
    exact absurd (Fc i Z2 hz fun k hk=>(same k hk).symm) (by lia)
 have A5:i<N.az.length:=bB hy zi.2;have hc:N.az[i]?=some N.az[i]:=List.getElem?_eq_getElem A5;refine Fc N.az[i] (by rw[lJ hc];exact zi.1) (by rw[lJ hc];exact zi.2) fun j hj=>?_
 have e0:(N.eG (z^^^y) N.az 0).testBit j=false:=by
  cases q:(N.eG (z^^^y) N.az 0).testBit j with
  | false=>rfl
  | true =>
    obtain⟨k,c,h1,h2,h3⟩:=yl q;rw[Nat.zero_add]at h2;have hk:k<=i:=by
     by_cases hk:k<=i
     ·exact hk
     ·rw[above k (by lia)]at h2
      cases h2
    obtain⟨nZ,hkc⟩:=jQ.mp h1;obtain⟨c1,c2⟩:=br.mp (iT h1);have l1:=JI c1 c2 h3;have l2:c<=N.az[i]:=by
     by_cases e:k=i
     ·subst e;exact Nat.le_of_eq hkc.symm
     ·rw[<-hkc];exact Nat.le_of_lt (List.pairwise_iff_getElem.mp Gx k i nZ A5 (by lia))
    lia
 rw[Dm,Nat.testBit_xor]at e0;cases h1:(N.eG z N.az 0).testBit j<;>cases h2:(N.eG y N.az 0).testBit j<;>rw[h1,h2]at e0<;>first | rfl | cases e0
theorem MC:N.eG 0 N.az 0=0:=by
 have h:=Dm (N:=N) 0 0;rw[Nat.xor_self,Nat.xor_self]at h;exact h
theorem rC{c:Nat}(hc:c<N.n)(hf:N.kF c=false):N.Ring (N.ring c):=by
 refine⟨fun z=>?_,jl hc,fun q hq ev=>?_⟩
 ·have h:=qo hf;rw[z]at h;simp at h
 ·have hqn:q<2^N.n:=cu fun k hk=>bB (n6 hc) (hq k hk)
  cases qc:q.testBit c with
  | true =>
    refine .inr (jA hqn (n6 hc) ev (jl hc) fun d hd hfd=>?_)
    rw[gm hf hfd]
    by_cases e:c=d
    ·subst e;simp[qc]
    ·rw[c7 e];cases qd:q.testBit d with
     | false=>rfl
     | true =>
       have:=hq d qd;rw[gm hf hfd,c7 e]at this;cases this
  | false =>
    refine .inl (gG (fun k hk=>?_) ev)
    rcases kY (hq k hk) with e|e
    ·subst e;rw[qc]at hk;cases hk
    ·exact e
end RM
namespace L2
open PySem PySem.Spec PyProof.Rows
section
variable {X:Cx}
theorem Fd:∀{bs:List Bool} {its:List Value},Vals (bs.map V.bl) its->its=bs.map Value.bool
 | [],_,.nil=>rfl
 | b::bs,_,.cons r rr=>by
   cases r;rw[Fd rr];rfl
theorem Dp:∀ bs:List Bool,((List.range bs.length).all fun i=>(bs[i]?).getD true)=bs.all id:=fun bs=>by
 rw[Bool.eq_iff_iff,List.all_eq_true,List.all_eq_true]
 constructor
 ·intro h b hb;obtain⟨i,hi,e⟩:=List.getElem_of_mem hb;have:=h i (List.mem_range.mpr hi);rw[List.getElem?_eq_getElem hi,e]at this;exact this
 ·intro h i hi;have hi:=List.mem_range.mp hi;rw[List.getElem?_eq_getElem hi];exact h _ (List.getElem_mem hi)
theorem Vz(K:bW)(hc:X.calm=true)(hK:X.K=K:=by rfl):gE X (.builtin "all") (fun xs H Q=>∃(p:Addr) (bs:List Bool),xs=[.ref p]/\aM K H p (bs.map V.bl)/\Q (.bl (bs.all id)) H):=by
 subst hK;intro pq s σ H xs us Q I r h;obtain⟨p,bs,rfl,hq,q⟩:=h;obtain⟨u,rfl,rx⟩:=vals1 r;cases rx;obtain⟨its,rv,pl,hz⟩:=I.list hq;obtain rfl:=Fd rv;have lt:p<s.heap.objs.size:=by obtain⟨_,e,_⟩:=pl.isList;exact Heap.lt_size e
 refine call_all_walk (wpAny_pyIter_list pl.isList ⟨_,[_,p],[_],_,_,_,fun i=>(bs[i]?).getD true,rfl,Walks.list (A:=X.A.in1) (I.ok.hd hc) _ p (Nat.ne_of_lt lt) _,
  ⟨⟨_,Heap.get?_push_size _ rfl,rfl,rfl⟩,pl.isList.push _⟩,fun i v s' Q' E' hP hQ=>?_,fun h' tk hk=>?_⟩)
 ·have hP:(bs.map Value.bool)[i]?=some v:=by simpa using hP
  rw[List.getElem?_map]at hP;obtain⟨b,e,rfl⟩:=wH.mp hP;simp only[e,Option.getD_some]at hQ;exact wpAny_truthy_bool hQ
 ·have z:(bs.map Value.bool).toArray.size=bs.length:=by simp
  rw[z,Dp];refine⟨.bl _,H,I.kept fun b o e=>hk b o (fun hm=>?_) (Heap.get?_push_of_some _ e),rfl,q⟩
  rw[List.mem_singleton.mp hm]at e;exact Nat.lt_irrefl _ (Heap.lt_size e)
end
end L2
namespace RM
def lsum(L:Nat->Int)(f:Nat->Bool):Nat->Int
 | 0=>0
 | n+1=>lsum L f n+(if f n=true then L n else 0)
section
variable {L:Nat->Int}
theorem pC{f g:Nat->Bool}:∀{n:Nat},(∀ k,k<n->f k=g k)->lsum L f n=lsum L g n
 | 0,_=>rfl
 | n+1,h=>by
   unfold lsum;rw[pC fun k hk=>h k (by lia),h n (by lia)]
theorem rD{f:Nat->Bool}:∀{n:Nat},(∀ k,k<n->f k=false)->lsum L f n=0
 | 0,_=>rfl
 | n+1,h=>by
   unfold lsum;rw[rD fun k hk=>h k (by lia),h n (by lia)]
   simp
theorem Bd{f:Nat->Bool}{a:Nat}:∀{n:Nat},a<n->(∀ k,k<n->f k=decide (k=a))->lsum L f n=L a
 | 0,h,_=>by lia
 | n+1,ha,h=>by
   unfold lsum
   by_cases e:a=n
   ·subst e;rw[rD fun k hk=>by rw[h k (by lia)];exact c7 (by lia),h a (by lia),cD rfl]
    simp
   ·rw[Bd (show a<n by lia) fun k hk=>h k (by lia),h n (by lia),c7 (by lia)]
    simp
theorem rE{f g:Nat->Bool}:∀{n:Nat},(∀ k,k<n->0<=L k)->(∀ k,k<n->f k=true->g k=true)->lsum L f n<=lsum L g n
 | 0,_,_=>Int.le_refl _
 | n+1,hL,h=>by
   unfold lsum;have ih:=rE (n:=n) (fun k hk=>hL k (by lia)) fun k hk=>h k (by lia)
   have h0:=hL n (by lia)
   have hn:=h n (by lia)
   cases hf:f n with
   | false=>cases g n<;>simp<;>lia
   | true=>rw[hn hf];simp;lia
theorem Be{f g:Nat->Bool}:∀{n:Nat},(∀ k,k<n->0<=L k)->lsum L (fun k=>f k^^g k) n<=lsum L f n+lsum L g n
 | 0,_=>Int.le_refl _
 | n+1,hL=>by
   unfold lsum;have ih:=Be (f:=f) (g:=g) (n:=n) fun k hk=>hL k (by lia)
   have h0:=hL n (by lia)
   cases f n<;>cases g n<;>simp<;>lia
theorem vm{f g:Nat->Bool}:∀{n:Nat},(∀ k,k<n->f k=true->g k=false)->lsum L (fun k=>f k^^g k) n=lsum L f n+lsum L g n
 | 0,_=>rfl
 | n+1,h=>by
   unfold lsum;rw[vm (f:=f) (g:=g) (n:=n) fun k hk=>h k (by lia)]
   have hn:=h n (by lia)
   cases hf:f n with
   | false=>cases g n<;>simp<;>lia
   | true=>rw[hn hf];simp;lia
theorem vn{k n:Nat}(h:k<n):lsum L (fun j=>(2^k).testBit j) n=L k:=Bd h fun j _=>by
 rw[Nat.testBit_two_pow];exact decide_eq_decide.mpr eq_comm
end
theorem pD{m n k:Nat}(h:m<2^n)(hb:m.testBit k=true):k<n:=by
 apply Classical.byContradiction;intro hk;rw[Nat.testBit_lt_two_pow (Nat.lt_of_lt_of_le h (Nat.pow_le_pow_right (by decide) (by lia)))]at hb
 cases hb
def cd(x:Nat)(s:Bool):Nat:=2*x+s.toNat
def Jn(N:Net)(k v w:Nat):Prop:=(N.a k=v/\N.b k=w)\/(N.b k=v/\N.a k=w)
theorem Jn.lt{N:Net}{k v w:Nat}(hk:k<N.n)(h:Jn N k v w):w<N.p:=by
 rcases h with⟨_,rfl⟩|⟨_,rfl⟩
 ·exact N.bl k hk
 ·exact N.al k hk
inductive Wl(N:Net)(L:Nat->Int)(m u:Nat):List Nat->Nat->Bool->Int->Nat->Prop
 | nil:Wl N L m u [] u false 0 0
 | go {pre:List Nat} {v w k e:Nat} {s:Bool} {z:Int} (h:Wl N L m u pre v s z e) (hk:k<N.n) (hj:Jn N k v w):Wl N L m u (pre++[cd v s]) w (s^^m.testBit k) (z+L k) (e^^^2^k)
def Wy(N:Net)(L:Nat->Int)(m u x:Nat)(s:Bool)(z:Int):Prop:=∃ pre e,Wl N L m u pre x s z e
section
variable {N:Net}{L:Nat->Int}{m u:Nat}
theorem qw(hL:∀ k,k<N.n->0<=L k)(hu:u<N.p){pre:List Nat}{v e:Nat}{s:Bool}{z:Int}(h:Wl N L m u pre v s z e):
 v<N.p/\e<2^N.n/\(∀ x,N.bd e x=(decide (u=x)^^decide (v=x)))/\N.par e m=s/\lsum L (fun k=>e.testBit k) N.n<=z/\0<=z:=by
 induction h with
 | nil =>
   refine⟨hu,Nat.two_pow_pos _,fun x=>?_,jC m,?_,Int.le_refl _⟩
   ·rw[n5];cases decide (u=x)<;>rfl
   ·rw[rD fun k _=>Nat.zero_testBit k]
    exact Int.le_refl _
 | @go pre v w k e s z h hk hj ih =>
   obtain⟨i1,i2,i3,i4,i5,i6⟩:=ih;have h0:=hL k hk;refine⟨hj.lt hk,Nat.xor_lt_two_pow i2 (Nat.pow_lt_pow_right (by decide) hk),fun x=>?_,?_,?_,by lia⟩
   ·rw[gj,i3,lH hk];unfold Net.inc;rcases hj with⟨rfl,rfl⟩|⟨rfl,rfl⟩
    ·cases decide (u=x)<;>cases decide (N.a k=x)<;>cases decide (N.b k=x)<;>rfl
    ·cases decide (u=x)<;>cases decide (N.a k=x)<;>cases decide (N.b k=x)<;>rfl
   ·rw[j8,i4,E4 hk]
   ·have:=Be (L:=L) (f:=fun j=>e.testBit j) (g:=fun j=>(2^k).testBit j) hL
    rw[vn hk]at this;rw[pC (g:=fun j=>e.testBit j^^(2^k).testBit j) fun j _=>Nat.testBit_xor ..]
    lia
def Gy(N:Net)(L:Nat->Int)(m u x:Nat)(s:Bool):Option Int->Prop
 | none=>∀ z,¬ Wy N L m u x s z
 | some d=>Wy N L m u x s d/\∀ z,Wy N L m u x s z->d<=z
theorem qx(hL:∀ k,k<N.n->0<=L k)(m:Nat){r:Nat}(hr:N.Ring r)(hm:r<2^N.n):∃ x,x<N.p/\Wy N L m x x (N.par r m) (lsum L (fun k=>r.testBit k) N.n):=by
 obtain⟨t0,hb⟩:∃ t0,r.testBit t0=true:=by
  apply Classical.byContradiction;intro h;exact hr.1 (Nat.eq_of_testBit_eq fun i=>by
   rw[Nat.zero_testBit];cases e:r.testBit i with
   | false=>rfl
   | true=>exact absurd ⟨i,e⟩ h)
 have TZ:t0<N.n:=pD hm hb;obtain⟨acc,v,w⟩:=Gs hm hr hb;have key:∀{acc v left},Wk N r t0 acc v left->(∀ k,left.testBit k=true->r.testBit k=true)/\∃ pre s,Wl N L m (N.a t0) pre v s (lsum L (fun k=>(r^^^left).testBit k) N.n) (r^^^left):=by
  intro acc v left w
  induction w with
  | start =>
    have e:r^^^(r^^^2^t0)=2^t0:=by rw[<-Nat.xor_assoc,Nat.xor_self,Nat.zero_xor]
    refine⟨fun k hk=>?_,[]++[cd (N.a t0) false],false^^m.testBit t0,?_⟩
    ·rw[Nat.testBit_xor,Nat.testBit_two_pow]at hk
     by_cases e:t0=k
     ·rw[<-e];exact hb
     ·rw[c7 e,Bool.xor_false]at hk;exact hk
    ·rw[e,vn TZ];have:=Wl.go (m:=m) (L:=L) (.nil (u:=N.a t0)) TZ (.inl ⟨rfl,rfl⟩)
     rwa [Int.zero_add,Nat.zero_xor]at this
  | @next acc v left t w h0 ht ih =>
    obtain⟨sub,pre,s,wl⟩:=ih;have hm2:=jF.mp (iT ht);have htr:=sub t hm2.2.1;have NF:=pD hm htr;refine⟨fun k hk=>?_,pre++[cd v s],s^^m.testBit t,?_⟩
    ·rw[Nat.testBit_xor,Nat.testBit_two_pow]at hk
     by_cases e:t=k
     ·rw[<-e];exact htr
     ·rw[c7 e,Bool.xor_false]at hk;exact sub k hk
    ·have e:r^^^(left^^^2^t)=r^^^left^^^2^t:=by rw[Nat.xor_assoc]
     have hs:lsum L (fun k=>(r^^^left^^^2^t).testBit k) N.n=lsum L (fun k=>(r^^^left).testBit k) N.n+L t:=by
      rw[pC (g:=fun j=>(r^^^left).testBit j^^(2^t).testBit j) fun j _=>Nat.testBit_xor ..,vm,vn NF]
      intro k _ hk;rw[Nat.testBit_two_pow];refine c7 fun e=>?_
      subst e;rw[Nat.testBit_xor,htr,hm2.2.1]at hk;cases hk
     rw[e,hs];exact wl.go NF (Bb hm2.2.2)
 obtain⟨_,pre,s,wl⟩:=key w;rw[Nat.xor_zero]at wl;have f:=qw hL (N.al t0 TZ) wl;have hv:N.a t0=v:=by
  have:=f.2.2.1 v;rw[hr.2.1 v f.1,cD (rfl:v=v)]at this;cases h:decide (N.a t0=v) with
  | true=>exact i8 h
  | false=>rw[h]at this;cases this
 refine⟨N.a t0,N.al t0 TZ,pre,r,?_⟩;have hs:=f.2.2.2.1;rw[hs];rw[<-hv]at wl;exact wl
theorem Dq{m:Nat}:∀(c e:Nat),cnt (fun k=>e.testBit k) N.n=c->e<2^N.n->N.cF e->N.par e m=true->∃ r,N.Ring r/\(∀ k,r.testBit k=true->e.testBit k=true)/\N.par r m=true:=by
 intro c
 induction c using Nat.strongRecOn with
 | _ c ih =>
   intro e hc he ev hp
   by_cases hr:N.Ring e
   ·exact⟨e,hr,fun _ h=>h,hp⟩
   have h0:e≠0:=fun z=>by rw[z,jC]at hp;cases hp
   obtain⟨q,hq,Qv,q0,qe⟩:∃ q,(∀ k,q.testBit k=true->e.testBit k=true)/\N.cF q/\q≠0/\q≠e:=by
    apply Classical.byContradiction;intro h;refine hr ⟨h0,ev,fun q hq Qv=>?_⟩
    apply Classical.byContradiction;intro h2;exact h ⟨q,hq,Qv,fun z=>h2 (.inl z),fun z=>h2 (.inr z)⟩
   have small:∀ q,(∀ k,q.testBit k=true->e.testBit k=true)->q≠e->cnt (fun k=>q.testBit k) N.n<c:=by
    intro q hq qe;have h1:=yX (f:=fun k=>q.testBit k) (g:=fun k=>e.testBit k) (n:=N.n) fun k _ h=>hq k h
    have h2:cnt (fun k=>q.testBit k) N.n≠cnt (fun k=>e.testBit k) N.n:=fun h=>qe (Nat.eq_of_testBit_eq fun k=>by
     by_cases hk:k<N.n
     ·have:=AX (f:=fun k=>q.testBit k) (g:=fun k=>e.testBit k) (fun k _ h=>hq k h) h k hk
      cases h3:e.testBit k with
      | true=>exact this h3
      | false=>cases h4:q.testBit k with
        | false=>rfl
        | true=>rw[hq k h4]at h3;cases h3
     ·cases h3:e.testBit k with
      | true=>exact absurd (pD he h3) hk
      | false=>cases h4:q.testBit k with
        | false=>rfl
        | true=>rw[hq k h4]at h3;cases h3)
    lia
   have lt:∀ q,(∀ k,q.testBit k=true->e.testBit k=true)->q<2^N.n:=fun q hq=>cu fun k hk=>pD he (hq k hk)
   have hq2:∀ k,(e^^^q).testBit k=true->e.testBit k=true:=fun k hk=>by
    rw[Nat.testBit_xor]at hk;cases h3:e.testBit k with
    | true=>rfl
    | false =>
      cases h4:q.testBit k with
      | false=>rw[h3,h4]at hk;cases hk
      | true=>rw[hq k h4]at h3;cases h3
   have fin:∀ q,(∀ k,q.testBit k=true->e.testBit k=true)->q≠e->N.cF q->N.par q m=true->∃ r,N.Ring r/\(∀ k,r.testBit k=true->e.testBit k=true)/\N.par r m=true:=by
    intro q hq qe Qv hpq;obtain⟨r,h1,h2,h3⟩:=ih _ (small q hq qe) q rfl (lt q hq) Qv hpq;exact⟨r,h1,fun k hk=>hq k (h2 k hk),h3⟩
   cases hpq:N.par q m with
   | true=>exact fin q hq qe Qv hpq
   | false =>
     refine fin (e^^^q) hq2 (fun z=>q0 ?_) (cF.xor ev Qv) (by rw[j8,hp,hpq];rfl)
     have:e^^^(e^^^q)=e^^^e:=by rw[z]
     rwa [<-Nat.xor_assoc,Nat.xor_self,Nat.zero_xor]at this
end
end RM
namespace Ring
open PySem L2
def bx(ts:List c6)(k:Nat):Int:=(bU ts k).2.2
theorem ym(ts:List c6)(f:Nat->Bool):∀ n,Ga ts f n=RM.lsum (bx ts) f n
 | 0=>rfl
 | n+1=>by
   show Ga ts f n+_=RM.lsum (bx ts) f n+_;rw[ym ts f n];rfl
theorem lK{ts:List c6}{m:Nat}(hm:m<2^ts.length):lenOf ts m=RM.lsum (bx ts) (fun k=>m.testBit k) ts.length:=by
 rw[Gb hm,ym]
theorem yn{p:Nat}{ts:List c6}(g:aC p ts):∀ k,k<g.N.n->0<=bx ts k:=fun k hk=>by
 have:=(g.yU _ (gv hk)).l0;unfold bx
 lia
structure Dr(H0:Hp)(D:Addr)(es:List Addr)(F:Nat->Bool->Option Int)(H:Hp):Prop where
 same:aq H0 H
 nd:es.Nodup
 ne:D∉es
 fr:∀ b∈es,H0 b=none
 Dn:H0 D=none
 lst:H D=some (.lst (es.map V.ref))
 at_:∀ i b,es[i]?=some b->H b=some (.lst [oV (F i false),oV (F i true)])
theorem Dr.go{H0 H H' : Hp}{D:Addr}{es:List Addr}{F:Nat->Bool->Option Int}(h:Dr H0 D es F H)(s:aq H H'):Dr H0 D es F H' :=
 ⟨h.same.trans s,h.nd,h.ne,h.fr,h.Dn,s _ _ h.lst,fun i b e=>s _ _ (h.at_ i b e)⟩
theorem Dr.off{H0 H:Hp}{D L:Addr}{es:List Addr}{F:Nat->Bool->Option Int}(h:Dr H0 D es F H)(hL:H L=none):L∉es:=fun z=>by
 obtain⟨j,hj⟩:=List.getElem?_of_mem z;have:=h.at_ j L hj;rw[hL]at this;cases this
def Bf(H0:Hp)(D:Addr)(i:Nat)(acc:List V)(H:Hp):Prop:=∃ es,acc=es.map V.ref/\es.length=i/\Dr H0 D es (fun _ _=>none) H
theorem Bf.start{H0:Hp}{D:Addr}(hD:H0 D=none):Bf H0 D 0 [] (upd H0 D (.lst [])) :=
 ⟨[],rfl,rfl,aq.new hD,List.nodup_nil,List.not_mem_nil,fun _ h=>(List.not_mem_nil h).elim,hD,ae,fun i b e=>by cases e⟩
theorem Bf.len{H0 H:Hp}{D:Addr}{i:Nat}{acc:List V}(h:Bf H0 D i acc H):H D=some (.lst acc)/\acc.length<=i:=by
 obtain⟨es,rfl,e,r⟩:=h;exact⟨r.lst,by rw[List.length_map];lia⟩
theorem Bf.next{H0 H:Hp}{D b:Addr}{i:Nat}{acc:List V}(h:Bf H0 D i acc H)(hb:H b=none):upd H b (.lst [.fD,.fD]) D=some (.lst acc)/\Bf H0 D (i+1) (acc++[.ref b]) (upd (upd H b (.lst [.fD,.fD])) D (.lst (acc++[.ref b]))):=by
 obtain⟨es,rfl,e,r⟩:=h;have O5:D≠b:=fun z=>by
  have:=r.lst;rw[z,hb]at this;cases this
 have hbn:b∉es:=r.off hb;have hb0:H0 b=none:=r.same.free hb;refine⟨by rw[ao O5];exact r.lst,es++[b],by simp,by simp[e],(r.same.put hb0).put r.Dn,?_,?_,fun c hc=>?_,r.Dn,by rw[ae];simp,fun j c hc=>?_⟩
 ·exact List.nodup_append.mpr ⟨r.nd,by simp,fun x hx y hy=>by rw[List.mem_singleton.mp hy];exact fun z=>hbn (z▸hx)⟩
 ·intro hm;rcases List.mem_append.mp hm with z|z
  ·exact r.ne z
  ·exact O5 (List.mem_singleton.mp z)
 ·rcases List.mem_append.mp hc with z|z
  ·exact r.fr c z
  ·rw[List.mem_singleton.mp z];exact hb0
 ·have VA:c≠D:=fun z=>by
   subst z;rcases List.mem_append.mp (iT hc) with z|z
   ·exact r.ne z
   ·exact O5 (List.mem_singleton.mp z)
  rw[ao VA]
  by_cases ec:c=b
  ·rw[ec,ae];rfl
  ·rw[ao ec]
   by_cases hj:j<es.length
   ·rw[List.getElem?_append_left hj]at hc;exact r.at_ j c hc
   ·rw[List.getElem?_append_right (by lia)]at hc
    have:=iT hc;exact absurd (List.mem_singleton.mp this) ec
def k7(F:Nat->Bool->Option Int)(p:Nat):List Pr:=(List.range p).map fun i=>(F i false,F i true)
theorem JJ{F:Nat->Bool->Option Int}{p x:Nat}(h:x<p)(s:Bool):sel (Jx (k7 F p) x) s=F x s:=by
 unfold Jx k7;rw[List.getD_eq_getElem?_getD,List.getElem?_map,List.getElem?_range h];cases s<;>rfl
theorem JK(F:Nat->Bool->Option Int)(i:Nat):k7 F (i+1)=k7 F i++[(F i false,F i true)]:=by
 unfold k7;rw[List.range_succ,List.map_append];rfl
theorem zd(F:Nat->Bool->Option Int)(i:Nat):(k7 F i).length=i:=by
 unfold k7;rw[List.length_map,List.length_range]
end Ring
namespace RM
variable {N:Net}{L:Nat->Int}{m u:Nat}
end RM
namespace Ring
open PySem L2
variable {p:Nat}{ts:List c6}{g:aC p ts}{m:Nat}{W:List (List Pr)}
def Fe(p:Nat)(ts:List c6)(g:aC p ts)(m:Nat)(W:List (List Pr)):Prop:=∀ i,i<p->∀ x s,x<p->RM.Gy g.N (bx ts) m i x s (sel (Jx (W.getD i []) x) s)
end Ring
namespace RM
open Ring (maskOf mask_bit mask_lt)
theorem gw{a b:Nat}(h:a^^^b=0):a=b:=by
 have:=congrArg (fun y=>y^^^b) h
 simp only[Nat.zero_xor]at this
 rwa [Nat.xor_assoc,Nat.xor_self,Nat.xor_zero]at this
def comb:List Nat->Nat->Nat
 | [],_=>0
 | b::B,z=>(if z.testBit 0=true then b else 0)^^^comb B (z/2)
theorem JL(a b c d:Nat):(a^^^b)^^^(c^^^d)=(a^^^c)^^^(b^^^d):=Nat.eq_of_testBit_eq fun i=>by
 simp only[Nat.testBit_xor];cases a.testBit i<;>cases b.testBit i<;>cases c.testBit i<;>cases d.testBit i<;>rfl
theorem JM(z y:Nat):(z^^^y)/2=z/2^^^y/2:=Nat.eq_of_testBit_eq fun i=>by
 rw[Nat.testBit_xor,<-Nat.testBit_succ,<-Nat.testBit_succ,<-Nat.testBit_succ,Nat.testBit_xor]
theorem jH:∀(B:List Nat) (z y:Nat),comb B (z^^^y)=comb B z^^^comb B y
 | [],_,_=>by simp[comb]
 | b::B,z,y=>by
   unfold comb;rw[JM,jH B,Nat.testBit_xor,JL]
   congr 1
   cases z.testBit 0<;>cases y.testBit 0<;>simp
theorem jo:∀(B:List Nat),comb B 0=0
 | []=>rfl
 | b::B=>by
   unfold comb;rw[Nat.zero_testBit,show 0/2=0 from rfl,jo B]
   simp
theorem JN(i:Nat):2^(i+1)/2=2^i:=by
 rw[Nat.pow_succ,Nat.mul_div_cancel _ (by decide)]
theorem vo:∀{B:List Nat} {i b:Nat},B[i]?=some b->comb B (2^i)=b
 | [],i,b,h=>by simp at h
 | b'::B,0,b,h=>by
   have:b' = b:=by simpa using h
   subst this;unfold comb;rw[show(2^0:Nat).testBit 0=true from rfl,if_pos rfl,show(2^0:Nat)/2=0 from rfl,jo,Nat.xor_zero]
 | b'::B,i+1,b,h=>by
   unfold comb;have h0:(2^(i+1)).testBit 0=false:=by rw[Nat.testBit_two_pow];simp
   rw[h0,if_neg (by decide),Nat.zero_xor,JN]
   exact vo (B:=B) h
theorem gx:∀(B:List Nat) (b z:Nat),comb (B++[b]) z=comb B z^^^(if z.testBit B.length=true then b else 0)
 | [],b,z=>by
   show(if z.testBit 0=true then b else 0)^^^0=0^^^_
   rw[Nat.xor_zero,Nat.zero_xor];rfl
 | b'::B,b,z=>by
   show(if z.testBit 0=true then b' else 0)^^^comb (B++[b]) (z/2)=((if z.testBit 0=true then b' else 0)^^^comb B (z/2))^^^_
   rw[gx B b (z/2),Nat.xor_assoc,<-Nat.testBit_succ];rfl
theorem rF:∀(B:List Nat) {z:Nat},(∀ i,i<B.length->z.testBit i=false)->comb B z=0
 | [],_,_=>rfl
 | b::B,z,h=>by
   unfold comb;rw[h 0 (by simp),if_neg (by decide),Nat.zero_xor]
   exact rF B fun i hi=>by rw[<-Nat.testBit_succ];exact h (i+1) (by simp;lia)
theorem qy(B:List Nat):∀ z,Sp B (comb B z):=by
 induction B with
 | nil=>intro z;exact .zero
 | cons b B ih =>
   intro z;have h:Sp (b::B) (comb B (z/2)):=(ih (z/2)).mono fun c hc=>.mem (kU _ hc)
   unfold comb;rw[Nat.xor_comm]
   by_cases e:z.testBit 0=true
   ·rw[if_pos e];exact h.add List.mem_cons_self
   ·rw[if_neg e,Nat.xor_zero];exact h
theorem ze{B:List Nat}{x:Nat}(h:Sp B x):∃ z,z<2^B.length/\comb B z=x:=by
 induction h with
 | zero=>exact⟨0,Nat.two_pow_pos _,jo B⟩
 | add h hb ih =>
   obtain⟨z,hz,e⟩:=ih;obtain⟨i,hi⟩:=List.getElem?_of_mem hb;have A5:=(jQ.mp hi).1;exact⟨z^^^2^i,Nat.xor_lt_two_pow hz (Nat.pow_lt_pow_right (by decide) A5),by rw[jH,e,vo hi]⟩
def Gz(B:List Nat):Prop:=∀ z,z<2^B.length->comb B z=0->z=0
def O6(B:List Nat):Prop:=∀ i b,B[i]?=some b->¬ Sp (B.take i) b
theorem vp{B:List Nat}{b:Nat}:Gz (B++[b])↔Gz B/\¬ Sp B b:=by
 have hl:(B++[b]).length=B.length+1:=by simp
 constructor
 ·intro h;refine⟨fun z hz e=>h z ?_ ?_,fun hs=>?_⟩
  ·rw[hl,Nat.pow_succ];lia
  ·rw[gx,e,Nat.testBit_lt_two_pow hz];simp
  ·obtain⟨y,hy,e⟩:=ze hs;have hlt:2^B.length<2^(B.length+1):=Nat.pow_lt_pow_right (by decide) (by lia)
   have:=h (y^^^2^B.length) (by rw[hl];exact Nat.xor_lt_two_pow (by lia) hlt) (by
    have h1:(y^^^2^B.length).testBit B.length=true:=by
     rw[Nat.testBit_xor,Nat.testBit_lt_two_pow hy,Nat.testBit_two_pow_self];rfl
    have h2:comb B (2^B.length)=0:=rF B fun i hi=>by
     rw[Nat.testBit_two_pow];exact c7 (by lia)
    rw[gx,h1,if_pos rfl,jH,h2,e,Nat.xor_zero,Nat.xor_self])
   have h3:(y^^^2^B.length).testBit B.length=false:=by rw[this,Nat.zero_testBit]
   rw[Nat.testBit_xor,Nat.testBit_lt_two_pow hy,Nat.testBit_two_pow_self]at h3;cases h3
 ·rintro⟨h,hs⟩ z hz e;rw[gx]at e
  by_cases hb:z.testBit B.length=true
  ·rw[if_pos hb]at e;have e2:comb B z=b:=by
    have:=congrArg (fun y=>y^^^b) e
    simp only[ic,Nat.zero_xor]at this;exact this
   exact absurd (e2▸qy B z) hs
  ·rw[if_neg hb,Nat.xor_zero]at e;refine h z ?_ e;refine cu fun k hk=>?_
   have:=bB hz hk;rw[hl]at this;have:k≠B.length:=fun e=>hb (e▸hk)
   lia
theorem yo{B:List Nat}{b:Nat}:O6 (B++[b])↔O6 B/\¬ Sp B b:=by
 constructor
 ·intro h;refine⟨fun i c hc=>?_,?_⟩
  ·have hi:=(jQ.mp hc).1;have:=h i c (by rw[List.getElem?_append_left hi];exact hc)
   rwa [List.take_append_of_le_length (Nat.le_of_lt hi)]at this
  ·have:=h B.length b (by simp)
   rwa [List.take_left' rfl]at this
 ·rintro⟨h,hs⟩ i c hc
  by_cases hi:i<B.length
  ·rw[List.getElem?_append_left hi]at hc;rw[List.take_append_of_le_length (Nat.le_of_lt hi)];exact h i c hc
  ·have hl:=(jQ.mp hc).1;have e:i=B.length:=by simp at hl;lia
   subst e;rw[List.getElem?_append_right (Nat.le_refl _),Nat.sub_self]at hc;have:b=c:=by simpa using hc
   subst this;rw[List.take_left' rfl];exact hs
theorem Bg(B:List Nat)(h:Gz B){z y:Nat}(hz:z<2^B.length)(hy:y<2^B.length)(e:comb B z=comb B y):z=y:=by
 have:=h (z^^^y) (Nat.xor_lt_two_pow hz hy) (by rw[jH,e,Nat.xor_self])
 exact gw this
section
variable {N:Net}
theorem yp{B:List Nat}(h:∀ b∈B,N.cF b/\b<2^N.n)(z:Nat):N.cF (comb B z)/\comb B z<2^N.n:=by
 have hs:=qy B z;refine⟨?_,hs.lt fun b hb=>(h b hb).2⟩
 generalize comb B z=x at hs
 induction hs with
 | zero=>exact cF.zero
 | add _ hb ih=>exact cF.xor ih (h _ hb).1
theorem Ff{f:Nat->Nat}{a b:Nat}(hf:∀ z,z<2^a->f z<2^b)(inj:∀ z y,z<2^a->y<2^a->f z=f y->z=y):a<=b:=by
 have nd:((List.range (2^a)).map f).Nodup:=by
  refine List.pairwise_map.mpr ?_;refine List.Pairwise.imp_of_mem (fun {z y} hz hy hne e=>?_) List.nodup_range
  exact hne (inj z y (List.mem_range.mp hz) (List.mem_range.mp hy) e)
 have:=Jh nd fun x hx=>by
  obtain⟨z,hz,rfl⟩:=List.mem_map.mp hx;exact hf z (List.mem_range.mp hz)
 rw[List.length_map,List.length_range]at this;exact(Nat.pow_le_pow_iff_right (by decide)).mp this
def meets(ks:List Nat)(m:Nat):Nat:=maskOf (fun i=>m.testBit (ks.getD i 0)) ks.length
theorem Bh(ks:List Nat)(m:Nat):meets ks m<2^ks.length:=mask_lt _ _
theorem yq{ks:List Nat}{m i k:Nat}(h:ks[i]?=some k):(meets ks m).testBit i=m.testBit k:=by
 unfold meets;rw[mask_bit,List.getD_eq_getElem?_getD,h,cD (jQ.mp h).1];rfl
theorem O7{B:List Nat}(hi:Gz B)(h:∀ b∈B,N.cF b/\b<2^N.n):B.length<=N.az.length:=by
 refine Ff (f:=fun z=>meets N.az (comb B z)) (fun z _=>Bh _ _) fun z y hz hy e=>Bg B hi hz hy ?_
 have h1:=yp h z;have h2:=yp h y;refine gw (gG (N:=N) (fun k hk=>?_) (cF.xor h1.1 h2.1))
 have hkn:=bB (Nat.xor_lt_two_pow h1.2 h2.2) hk;refine⟨hkn,?_⟩;cases hf:N.kF k with
 | true=>rfl
 | false =>
   obtain⟨j,hj⟩:=List.getElem?_of_mem (br.mpr ⟨hkn,hf⟩);have e:meets N.az (comb B z)=meets N.az (comb B y):=e;have:=congrArg (fun x=>x.testBit j) e
   simp only[yq hj]at this;rw[Nat.testBit_xor,this,Bool.xor_self]at hk;cases hk
theorem MD{ks:List Nat}(h:∀ m,m<2^N.n->N.cF m->(∀ k∈ks,m.testBit k=false)->m=0):N.az.length<=ks.length:=by
 refine Ff (f:=fun z=>meets ks (N.eG z N.az 0)) (fun z _=>Bh _ _) fun z y hz hy e=>?_
 have h1:=n8 (N:=N) (number:=z) (l:=N.az) (i:=0) fun c hc=>(br.mp hc).1
 have h2:=n8 (N:=N) (number:=y) (l:=N.az) (i:=0) fun c hc=>(br.mp hc).1
 have e0:N.eG z N.az 0=N.eG y N.az 0:=gw (h _ (Nat.xor_lt_two_pow h1.2 h2.2) (cF.xor h1.1 h2.1) fun k hk=>by
  obtain⟨j,hj⟩:=List.getElem?_of_mem hk;have e:meets ks (N.eG z N.az 0)=meets ks (N.eG y N.az 0):=e;have:=congrArg (fun x=>x.testBit j) e
  simp only[yq hj]at this;rw[Nat.testBit_xor,this,Bool.xor_self])
 refine Nat.eq_of_testBit_eq fun j=>?_
 by_cases hj:j<N.az.length
 ·have hc:N.az[j]?=some N.az[j]:=List.getElem?_eq_getElem hj;rw[<-lJ hc,<-lJ hc,e0]
 ·rw[Nat.testBit_lt_two_pow (Nat.lt_of_lt_of_le hz (Nat.pow_le_pow_right (by decide) (by lia))),Nat.testBit_lt_two_pow (Nat.lt_of_lt_of_le hy (Nat.pow_le_pow_right (by decide) (by lia)))]
structure Base(N:Net)(rs:List Nat):Prop where
 len:rs.length=N.az.length
 ring:∀ r∈rs,N.Ring r/\r<2^N.n
 ind:Gz rs
open Classical in
end
abbrev Row3:=Nat×Nat×Nat
def two(q:Row3):Nat×Nat:=(q.1,q.2.1)
def bA(rows:List Row3)(x u:Nat):Nat×Nat:=rows.foldl (fun s q=>if s.1.testBit q.1=true then(s.1^^^q.2.1,s.2^^^q.2.2) else s) (x,u)
theorem rG(q:Row3)(rows:List Row3)(x u:Nat):bA (q::rows) x u=if x.testBit q.1=true then bA rows (x^^^q.2.1) (u^^^q.2.2) else bA rows x u:=by
 unfold bA;rw[List.foldl_cons]
 by_cases h:x.testBit q.1=true
 ·rw[if_pos h,if_pos h]
 ·rw[if_neg h,if_neg h]
theorem jI:∀(rows:List Row3) (x u:Nat),(bA rows x u).1=jG (rows.map two) x
 | [],_,_=>rfl
 | q::rows,x,u=>by
   rw[rG];show _=jG (rows.map two) (if x.testBit q.1=true then x^^^q.2.1 else x)
   by_cases h:x.testBit q.1=true
   ·rw[if_pos h,if_pos h];exact jI rows _ _
   ·rw[if_neg h,if_neg h];exact jI rows _ _
def wQ(rows:List Row3)(a:Row3):List Row3:=a::rows.map fun q=>if q.2.1.testBit a.1=true then(q.1,q.2.1^^^a.2.1,q.2.2^^^a.2.2) else q
structure Rw(B:List Nat)(rows:List Row3):Prop where
 own:∀ q∈rows,q.2.1.testBit q.1=true
 zf:rows.Pairwise fun q q'=>q'.2.1.testBit q.1=false/\q.2.1.testBit q'.1=false
 ME:∀ q∈rows,q.2.2<2^B.length/\comb B q.2.2=q.2.1
 span:∀ b∈B,Sp (rows.map fun q=>q.2.1) b
 le:rows.length<=B.length
 len:rows.length=B.length↔Gz B
section
variable {B:List Nat}{rows:List Row3}
theorem Rw.start:Rw [] []:=⟨(fun q hq=>nomatch hq),.nil,(fun q hq=>nomatch hq),(fun b hb=>nomatch hb),Nat.le_refl _,⟨fun _ z hz _=>by simp at hz;exact hz,fun _=>rfl⟩⟩
theorem O8(own:∀ q∈rows,q.2.1.testBit q.1=true)(zf:rows.Pairwise fun q q'=>q'.2.1.testBit q.1=false/\q.2.1.testBit q'.1=false):JG (rows.map two):=by
 induction rows with
 | nil=>exact .nil
 | cons q rows ih =>
   obtain⟨h1,h2⟩:=List.pairwise_cons.mp zf;refine .cons (ih (fun q' hq=>own q' (kU _ hq)) h2) (own q List.mem_cons_self) fun x hx=>?_
   obtain⟨q',MF,rfl⟩:=List.mem_map.mp hx;exact(h1 q' MF).1
theorem Rw.JO(h:Rw B rows):JG (rows.map two):=O8 h.own h.zf
theorem map_two(rows:List Row3):(rows.map two).map (fun q=>q.2)=rows.map fun q=>q.2.1:=by
 rw[List.map_map];rfl
theorem Rw.dZ(h:Rw B rows)(x u:Nat):(bA rows x u).1=0↔Sp B x:=by
 rw[jI,yk h.JO,map_two]
 constructor
 ·intro hs;refine hs.mono fun b hb=>?_
  obtain⟨q,hq,rfl⟩:=List.mem_map.mp hb;rw[<-(h.ME q hq).2];exact qy B _
 ·exact fun hs=>hs.mono h.span
theorem Rw.vq(h:Rw B rows)(x u:Nat):∀ q∈rows,(bA rows x u).1.testBit q.1=false:=fun q hq=>by
 rw[jI];exact rA h.JO x (two q) (List.mem_map.mpr ⟨q,hq,rfl⟩)
theorem rH(hc:∀ q∈rows,q.2.2<2^B.length/\comb B q.2.2=q.2.1):∀(x u:Nat),u<2^B.length->(bA rows x u).2<2^B.length/\comb B (bA rows x u).2=comb B u^^^(x^^^(bA rows x u).1):=by
 induction rows with
 | nil=>intro x u hu;exact⟨hu,by show _=_^^^(x^^^x);rw[Nat.xor_self,Nat.xor_zero];rfl⟩
 | cons q rows ih =>
   intro x u hu;have hq:=hc q List.mem_cons_self;have ih:=ih fun q' MF=>hc q' (kU _ MF)
   rw[rG]
   by_cases h:x.testBit q.1=true
   ·rw[if_pos h];obtain⟨i1,i2⟩:=ih (x^^^q.2.1) (u^^^q.2.2) (Nat.xor_lt_two_pow hu hq.1);refine⟨i1,?_⟩;rw[i2,jH,hq.2];refine Nat.eq_of_testBit_eq fun i=>?_
    simp only[Nat.testBit_xor];generalize (bA rows (x^^^q.2.1) (u^^^q.2.2)).1.testBit i=y;cases(comb B u).testBit i<;>cases q.2.1.testBit i<;>cases x.testBit i<;>cases y<;>rfl
   ·rw[if_neg h];exact ih x u hu
theorem zg(h:Rw B rows){x:Nat}(hx:∀ b∈B,b<2^x):∀ q∈rows,q.2.1<2^x:=fun q hq=>by
 rw[<-(h.ME q hq).2];exact(qy B _).lt hx
theorem vt{z:Nat}(b:Nat)(hz:z<2^B.length):comb (B++[b]) z=comb B z:=by
 rw[gx,Nat.testBit_lt_two_pow hz];simp
theorem Rw.skip{b:Nat}(h:Rw B rows)(hs:Sp B b):Rw (B++[b]) rows:=by
 have hl:(B++[b]).length=B.length+1:=by simp
 refine⟨h.own,h.zf,fun q hq=>⟨?_,?_⟩,fun c hc=>?_,?_,?_⟩
 ·have:=(h.ME q hq).1;rw[hl,Nat.pow_succ]
  lia
 ·rw[vt b (h.ME q hq).1];exact(h.ME q hq).2
 ·rcases List.mem_append.mp hc with hc|hc
  ·exact h.span c hc
  ·have e:c=b:=by simpa using hc
   rw[e];exact hs.mono h.span
 ·have:=h.le
  lia
 ·rw[vp];have:=h.le;exact⟨fun e=>by lia,fun z=>absurd hs z.2⟩
theorem Rw.put{b:Nat}(h:Rw B rows)(h0:(bA rows b 0).1≠0):Rw (B++[b]) (wQ rows ((bA rows b 0).1.log2,(bA rows b 0).1,(bA rows b 0).2^^^2^B.length)):=by
 have hl:(B++[b]).length=B.length+1:=by simp
 have hns : ¬ Sp B b:=fun z=>h0 ((h.dZ b 0).mpr z)
 have off:=h.vq b 0;obtain⟨c1,c2⟩:=rH h.ME b 0 (Nat.two_pow_pos _);rw[jo,Nat.zero_xor]at c2;have qO:Sp (rows.map fun q=>q.2.1) (b^^^(bA rows b 0).1):=by
  rw[jI];have:=qv (rows.map two) b
  rwa [map_two]at this
 generalize bA rows b 0=lu at *;obtain⟨l,u⟩:=lu;have h0:l≠0:=h0;have top:=zc h0;have c1:u<2^B.length:=c1;have c2:comb B u=b^^^l:=c2;have off:∀ q∈rows,l.testBit q.1=false:=off;have qO:Sp (rows.map fun q=>q.2.1) (b^^^l):=qO
 show Rw (B++[b]) (wQ rows (l.log2,l,u^^^2^B.length));generalize l.log2=t at top;have p2:2^B.length<2^(B++[b]).length:=by rw[hl];exact Nat.pow_lt_pow_right (by decide) (by lia)
 have hc:comb (B++[b]) (u^^^2^B.length)=l:=by
  have h1:(u^^^2^B.length).testBit B.length=true:=by
   rw[Nat.testBit_xor,Nat.testBit_lt_two_pow c1,Nat.testBit_two_pow_self];rfl
  have h2:comb B (2^B.length)=0:=rF B fun i hi=>by
   rw[Nat.testBit_two_pow];exact c7 (by lia)
  rw[gx,h1,if_pos rfl,jH,h2,c2,Nat.xor_zero];refine Nat.eq_of_testBit_eq fun i=>?_
  simp only[Nat.testBit_xor];cases b.testBit i<;>cases l.testBit i<;>rfl
 unfold wQ;refine⟨fun q hq=>?_,List.pairwise_cons.mpr ⟨fun q hq=>?_,?_⟩,fun q hq=>?_,fun c hc=>?_,?_,?_⟩
 ·rcases List.mem_cons.mp hq with e|hq
  ·rw[e];exact top
  ·obtain⟨q0,C8,rfl⟩:=List.mem_map.mp hq
   by_cases e:q0.2.1.testBit t=true
   ·rw[if_pos e];show(q0.2.1^^^l).testBit q0.1=true;rw[Nat.testBit_xor,h.own q0 C8,off q0 C8];rfl
   ·rw[if_neg e];exact h.own q0 C8
 ·obtain⟨q0,C8,rfl⟩:=List.mem_map.mp hq
  by_cases e:q0.2.1.testBit t=true
  ·rw[if_pos e];refine⟨?_,off q0 C8⟩;show(q0.2.1^^^l).testBit t=false;rw[Nat.testBit_xor,e,top];rfl
  ·rw[if_neg e];exact⟨N3.mpr e,off q0 C8⟩
 ·refine List.pairwise_map.mpr (List.Pairwise.imp_of_mem (fun {q q'} hq MF hz=>?_) h.zf)
  obtain⟨z1,z2⟩:=hz;have o1:=off q hq;have o2:=off q' MF;have fst:∀ q:Row3,(if q.2.1.testBit t=true then(q.1,q.2.1^^^l,q.2.2^^^(u^^^2^B.length)) else q).1=q.1:=fun q=>by
   split<;>rfl
  have snd:∀(q:Row3) (k:Nat),l.testBit k=false->(if q.2.1.testBit t=true then(q.1,q.2.1^^^l,q.2.2^^^(u^^^2^B.length)) else q).2.1.testBit k=q.2.1.testBit k:=fun q k hk=>by
   split
   ·show(q.2.1^^^l).testBit k=_;rw[Nat.testBit_xor,hk,Bool.xor_false]
   ·rfl
  refine⟨?_,?_⟩
  ·rw[snd q' _ (by rw[fst];exact o1),fst]
   exact z1
  ·rw[snd q _ (by rw[fst];exact o2),fst]
   exact z2
 ·rcases List.mem_cons.mp hq with e|hq
  ·rw[e];exact⟨Nat.xor_lt_two_pow (by lia) p2,hc⟩
  ·obtain⟨q0,C8,rfl⟩:=List.mem_map.mp hq;obtain⟨d1,d2⟩:=h.ME q0 C8
   by_cases e:q0.2.1.testBit t=true
   ·rw[if_pos e];refine⟨Nat.xor_lt_two_pow (by lia) (Nat.xor_lt_two_pow (by lia) p2),?_⟩
    show comb (B++[b]) (q0.2.2^^^(u^^^2^B.length))=q0.2.1^^^l;rw[jH,hc,vt b d1,d2]
   ·rw[if_neg e];exact⟨by lia,by rw[vt b d1,d2]⟩
 ·have W5:l∈(((t,l,u^^^2^B.length):Row3)::rows.map fun q=>if q.2.1.testBit t=true then(q.1,q.2.1^^^l,q.2.2^^^(u^^^2^B.length)) else q).map fun q=>q.2.1:=by
   rw[List.map_cons];exact List.mem_cons_self
  have old:∀ x∈rows.map (fun q=>q.2.1),Sp ((((t,l,u^^^2^B.length):Row3)::rows.map fun q=>if q.2.1.testBit t=true then(q.1,q.2.1^^^l,q.2.2^^^(u^^^2^B.length)) else q).map fun q=>q.2.1) x:=fun x hx=>by
   obtain⟨q0,C8,rfl⟩:=List.mem_map.mp hx;have hm:(if q0.2.1.testBit t=true then(q0.1,q0.2.1^^^l,q0.2.2^^^(u^^^2^B.length)) else q0).2.1∈(((t,l,u^^^2^B.length):Row3)::rows.map fun q=>if q.2.1.testBit t=true then(q.1,q.2.1^^^l,q.2.2^^^(u^^^2^B.length)) else q).map fun q=>q.2.1 :=
    List.mem_map.mpr ⟨_,kU _ (List.mem_map.mpr ⟨q0,C8,rfl⟩),rfl⟩
   by_cases e:q0.2.1.testBit t=true
   ·rw[if_pos e]at hm;have:=(Sp.mem hm).xor (Sp.mem W5)
    rwa [ic]at this
   ·rw[if_neg e]at hm;exact .mem hm
  rcases List.mem_append.mp hc with hc|hc
  ·exact(h.span c hc).mono old
  ·have e:c=b:=by simpa using hc
   rw[e];have:=(qO.mono old).xor (Sp.mem W5)
   rwa [ic]at this
 ·rw[List.length_cons,List.length_map,hl];have:=h.le
  lia
 ·rw[List.length_cons,List.length_map,hl,vp];have:=h.len
  constructor
  ·exact fun e=>⟨this.mp (by lia),hns⟩
  ·exact fun e=>by have:=this.mpr e.1;lia
def rx(f:Row3->Bool):List Row3->Bool
 | []=>false
 | q::rows=>f q^^rx f rows
theorem qz{f g:Row3->Bool}:∀{rows:List Row3},(∀ q∈rows,f q=g q)->rx f rows=rx g rows
 | [],_=>rfl
 | q::rows,h=>by
   unfold rx;rw[h q List.mem_cons_self,qz fun q' hq=>h q' (kU _ hq)]
theorem yr(i:Nat):∀{rows:List Row3},(rows.Pairwise fun q q'=>q'.2.1.testBit q.1=false/\q.2.1.testBit q'.1=false)->∀(x u:Nat),(bA rows x u).2.testBit i=(u.testBit i^^rx (fun q=>x.testBit q.1&&q.2.2.testBit i) rows)
 | [],_,x,u=>by show u.testBit i=(u.testBit i^^false);rw[Bool.xor_false]
 | q::rows,zf,x,u=>by
   obtain⟨h1,h2⟩:=List.pairwise_cons.mp zf;have ih:=yr i h2;rw[rG];unfold rx
   by_cases h:x.testBit q.1=true
   ·rw[if_pos h,ih,h,Bool.true_and,Nat.testBit_xor,Bool.xor_assoc]
    congr 2
    exact qz fun q' hq=>by rw[Nat.testBit_xor,(h1 q' hq).2,Bool.xor_false]
   ·rw[if_neg h,ih,N3.mpr h,Bool.false_and,Bool.false_xor]
def cG(rows:List Row3)(i:Nat):List Nat:=(rows.filter fun q=>q.2.2.testBit i).map fun q=>q.1
theorem Bj(own:∀ q∈rows,q.2.1.testBit q.1=true)(zf:rows.Pairwise fun q q'=>q'.2.1.testBit q.1=false/\q.2.1.testBit q'.1=false)(i:Nat):(cG rows i).Nodup:=by
 unfold cG;refine List.pairwise_map.mpr ((List.Pairwise.imp_of_mem (fun {q q'} hq MF hz e=>?_) zf).filter _)
 have:=own q' MF;rw[<-e,hz.1]at this;cases this
theorem rJ(f:Nat->Bool)(n:Nat):∀{l:List Nat},l.Nodup->(∀ k∈l,k<n)->bT (fun k=>f k&&decide (k∈l)) n=l.foldr (fun k acc=>f k^^acc) false
 | [],_,_=>jk fun k _=>by simp
 | a::l,nd,h=>by
   obtain⟨n1,n2⟩:=List.nodup_cons.mp nd;have ih:=rJ f n n2 fun k hk=>h k (kU _ hk)
   have:bT (fun k=>f k&&decide (k∈a::l)) n=bT (fun k=>(f k&&decide (a=k))^^(f k&&decide (k∈l))) n:=bR fun k _=>by
    by_cases e:a=k
    ·subst e;rw[cD List.mem_cons_self,cD rfl,c7 n1,Bool.and_false,Bool.xor_false]
    ·have:(k∈a::l)↔k∈l:=⟨fun z=>(List.mem_cons.mp z).resolve_left fun z=>e z.symm,kU _⟩
     rw[c7 e,Bool.and_false,Bool.false_xor,decide_eq_decide.mpr this]
   rw[this,jy,jz f (h a List.mem_cons_self),ih];rfl
theorem Bk(f:Nat->Bool)(i:Nat):∀ rows:List Row3,(cG rows i).foldr (fun k acc=>f k^^acc) false=rx (fun q=>f q.1&&q.2.2.testBit i) rows
 | []=>rfl
 | q::rows=>by
   have ih:=Bk f i rows;unfold cG at ih ⊢;unfold rx;cases h:q.2.2.testBit i with
   | true =>
     rw[List.filter_cons,if_pos h,List.map_cons,List.foldr_cons,ih,Bool.and_true]
   | false =>
     rw[List.filter_cons,if_neg (by rw[h];decide),ih,Bool.and_false,Bool.false_xor]
theorem Rw.marks{N:Net}(h:Rw B rows)(hi:Gz B)(hb:∀ b∈B,b<2^N.n){i j b:Nat}(hj:B[j]?=some b):N.par b (Ring.orM (cG rows i))=decide (i=j)/\∀ k∈cG rows i,k<N.n:=by
 have lt:∀ k∈cG rows i,k<N.n:=fun k hk=>by
  obtain⟨q,hq,rfl⟩:=List.mem_map.mp hk;have hq:=(List.mem_filter.mp hq).1;exact bB (zg h hb q hq) (h.own q hq)
 refine⟨?_,lt⟩;have e1:N.par b (Ring.orM (cG rows i))=rx (fun q=>b.testBit q.1&&q.2.2.testBit i) rows:=by
  rw[<-Bk (fun k=>b.testBit k),<-rJ (fun k=>b.testBit k) N.n (Bj h.own h.zf i) lt]
  exact bR fun k _=>by rw[Ring.iG]
 have hz:(bA rows b 0).1=0:=(h.dZ b 0).mpr (.mem (iT hj));obtain⟨c1,c2⟩:=rH h.ME b 0 (Nat.two_pow_pos _);rw[jo,Nat.zero_xor,hz,Nat.xor_zero]at c2
 replace c2:=c2.trans (vo hj).symm
 have NG:=(jQ.mp hj).1;have e2:=Bg B hi c1 (Nat.pow_lt_pow_right (by decide) NG) c2
 have e3:=yr i h.zf b 0;rw[e2,Nat.zero_testBit,Bool.false_xor,Nat.testBit_two_pow]at e3;rw[e1,<-e3];exact decide_eq_decide.mpr eq_comm
end
end RM
namespace Ring
open PySem L2
def tw(q:RM.Row3):List V:=[.int (q.1:Int),.int (q.2.1:Int),.int (q.2.2:Int)]
def vy(H:Hp)(x:V)(q:RM.Row3):Prop:=∃ b,x = .ref b/\H b=some (.tup (tw q))
theorem vy.tups{H H' : Hp}(s:dG H H'){x:V}{q:RM.Row3}(h:vy H x q):vy H' x q:=let⟨b,e,z⟩:=h;⟨b,e,s _ _ z⟩
def gH(H:Hp)(l:Addr)(rows:List RM.Row3):Prop:=∃ xs,H l=some (.lst xs)/\Paired (vy H) xs rows
theorem gH.same{H H' : Hp}(s:aq H H'){l:Addr}{rows:List RM.Row3}(h:gH H l rows):gH H' l rows:=let⟨xs,e,z⟩:=h;⟨xs,s _ _ e,Paired.imp' (fun _ _ z=>z.tups s.tups) z⟩
theorem GA(rows:List RM.Row3)(q:RM.Row3)(x u:Nat):RM.bA (rows++[q]) x u=if(RM.bA rows x u).1.testBit q.1=true then((RM.bA rows x u).1^^^q.2.1,(RM.bA rows x u).2^^^q.2.2) else RM.bA rows x u:=by
 unfold RM.bA;rw[List.foldl_append];rfl
theorem take3{α:Type}{l:List α}{i:Nat}{q:α}(h:l[i]?=some q):l.take (i+1)=l.take i++[q]:=by
 rw[List.take_add_one,h];rfl
theorem JP{m:Nat}(h:m≠0):((Builtin.Int.intBits (m:Int):Nat):Int)-1=((m.log2:Nat):Int):=by
 rw[uP,if_neg h]
 lia
end Ring
namespace L2
open PySem PySem.Spec PyProof.Rows
theorem Dt{K:bW}{a:Addr}{xs:List V}{g:TG}{tt:TT}{te:TE}{n:Nat}{fr:St}{D:Addr}{Q:Hp->Prop}{H1:Hp}(Pv:Nat->List V->Hp->Prop)(h0:Pv 0 [] H1)(hl:∀ i acc H,i<=xs.length->Pv i acc H->aM K H a xs/\H D=some (.lst acc)/\acc.length<=i)(hz:xs.length<=sizeLine)
 (hs:∀ i x T acc H,xs[i]?=some x->Pv i acc H->H T=none->g (.ref T) (List.replicate n none++fr) (upd H T (.tup [.int (i:Int),x])) fun σ2 H2=>σ2.drop n=fr/\tt σ2 H2 fun b H3 =>
  if b=true then te σ2 H3 fun v H4=>H4 D=some (.lst acc)/\Pv (i+1) (acc++[v]) (upd H4 D (.lst (acc++[v]))) else Pv (i+1) acc H3)
 (hd:∀ acc H,Pv xs.length acc H->Q H):iM (Qs K a) g tt te n fr D Q H1:=by
 refine⟨fun i m acc H=>m=xs.length-i/\i<=xs.length/\Pv i acc H,⟨xs.length,by simp,Nat.zero_le _,h0⟩,?_⟩
 rintro i m acc H ⟨rfl,hi,p⟩;obtain⟨q,hD,ha⟩:=hl i acc H hi p;refine⟨hD,?_⟩
 by_cases hlt:i<xs.length
 ·refine .inr ⟨⟨xs,xs[i],q,by simp[hlt]⟩,by lia,Pv (i+1),fun acc' H' p'=>⟨xs.length-(i+1),by lia,rfl,hlt,p'⟩,fun v H' y=>?_⟩
  obtain⟨T,x,rfl,hT,rfl,y⟩:=y;exact hs i x T acc _ (y xs q) p hT
 ·have e:i=xs.length:=by lia
  subst e;exact .inl ⟨⟨xs,q,Nat.le_refl _⟩,hd acc H p⟩
end L2
namespace RM
variable {N:Net}{S:Nat->Bool}
def vz(N:Net)(S:Nat->Bool)(L:Nat->Nat)(k:Nat):Prop:=∀ x y,x<N.p->y<N.p->(L x=L y↔N.aN S k x=N.aN S k y)
theorem vz.start:vz N S (fun x=>x) 0:=fun _ _ _ _=>Iff.rfl
theorem vz.skip{L:Nat->Nat}{k:Nat}(h:vz N S L k)(hs:S k=false):vz N S L (k+1):=by
 intro x y hx hy;rw[gr,if_neg (by rw[hs];decide)]
 exact h x y hx hy
theorem vz.put{L:Nat->Nat}{k:Nat}(h:vz N S L k)(hk:k<N.n)(hs:S k=true):vz N S (OR L (N.a k) (N.b k)) (k+1):=by
 intro x y hx hy;have ha:=N.al k hk;have hb:=N.bl k hk;rw[gr,if_pos hs,Mn,Ji,h x y hx hy,h x _ hx ha,h y _ hy hb,h x _ hx hb,h y _ hy ha]
open Classical in
theorem Fg(val:Nat->Int):∀ n,(PyProof.Rows.firstMet val n).length=cnt (fun i=>!decide (∃ j,j<i/\val j=val i)) n/\∀ z,z∈PyProof.Rows.firstMet val n↔∃ j,j<n/\val j=z
 | 0=>by
   rw[PyProof.Rows.firstMet_zero];exact⟨rfl,fun z=>⟨fun h=>(nomatch h),fun⟨j,hj,_⟩=>absurd hj (Nat.not_lt_zero _)⟩⟩
 | n+1=>by
   obtain⟨h1,h2⟩:=Fg val n;rw[PyProof.Rows.firstMet_succ];unfold PyProof.Rows.step_dedup;have hm:=h2 (val n);have ha:((PyProof.Rows.firstMet val n).any fun x=>x==val n)=true↔val n∈PyProof.Rows.firstMet val n:=by simp
   have mem:∀ z,(∃ j,j<n+1/\val j=z)↔(∃ j,j<n/\val j=z)\/val n=z:=fun z=>by
    constructor
    ·rintro⟨j,hj,e⟩
     by_cases ej:j=n
     ·subst ej;exact .inr e
     ·exact .inl ⟨j,by lia,e⟩
    ·rintro(⟨j,hj,e⟩|e)
     ·exact⟨j,by lia,e⟩
     ·exact⟨n,by lia,e⟩
   by_cases hin:val n∈PyProof.Rows.firstMet val n
   ·rw[if_pos (ha.mpr hin)];refine⟨?_,fun z=>?_⟩
    ·show _=cnt _ n+(if(!decide (∃ j,j<n/\val j=val n))=true then 1 else 0)
     rw[h1,cD (hm.mp hin)];rfl
    ·rw[mem,h2];exact⟨.inl,fun h=>h.elim id fun e=>e▸hm.mp hin⟩
   ·rw[if_neg (fun z=>hin (ha.mp z))]
    refine⟨?_,fun z=>?_⟩
    ·show _=cnt _ n+(if(!decide (∃ j,j<n/\val j=val n))=true then 1 else 0)
     rw[List.length_append,h1,c7 (fun z=>hin (hm.mpr z))]
     rfl
    ·rw[mem,List.mem_append,h2];exact⟨fun h=>h.elim .inl fun e=>.inr (List.mem_singleton.mp e).symm,fun h=>h.elim .inl fun e=>.inr (by simp[e])⟩
theorem MG{L:Nat->Nat}(h:vz N S L N.n):(PyProof.Rows.firstMet (fun i=>((L i:Nat):Int)) N.p).length=cnt (N.root S N.n) N.p:=by
 rw[(Fg _ N.p).1];refine eY fun x hx=>?_
 unfold Net.root;rw[Bool.eq_iff_iff,Bool.not_eq_true',decide_eq_false_iff_not,decide_eq_true_iff]
 constructor
 ·intro hn;apply Classical.byContradiction;intro hne;have hle:=qm (N:=N) (S:=S) N.n x;have hlt:N.aN S N.n x<x:=by lia
  exact hn ⟨N.aN S N.n x,hlt,by
   have:=(h (N.aN S N.n x) x (by lia) hx).mpr (bY N.n x)
   rw[this]⟩
 ·rintro hr ⟨j,hj,e⟩;have e:L j=L x:=by lia
  have e2:=(h j x (by lia) hx).mp e
  have:=qm (N:=N) (S:=S) N.n j
  lia
theorem JQ{m:Nat}(hm:m<2^N.n)(h0:m≠0)(d2:N.D2 m):N.Ring m↔cnt (N.root (fun k=>m.testBit k) N.n) N.p+cnt (fun x=>decide (N.dg m x=2)) N.p=N.p+1:=by
 have hR:∀ x,x<N.p->N.dg m x=0->N.root (fun k=>m.testBit k) N.n x=true:=fun x hx hd=>by
  unfold Net.root;rw[decide_eq_true_iff];exact alone hd (bM _ _ _ (bY N.n x).symm)
 have split:cnt (N.root (fun k=>m.testBit k) N.n) N.p=cnt (fun x=>!decide (N.dg m x=2)) N.p+cnt (fun x=>decide (N.dg m x=2)&&N.root (fun k=>m.testBit k) N.n x) N.p:=by
  rw[<-u6 (fun x hx=>by cases decide (N.dg m x=2)<;>simp)]
  refine eY fun x hx=>?_
  rcases d2 x hx with h|h
  ·rw[hR x hx h,c7 (by lia)]
   rfl
  ·rw[cD h];simp
 have cn:=jW (fun x=>decide (N.dg m x=2)) N.p
 obtain⟨k0,hk0⟩:∃ k,m.testBit k=true:=by
  apply Classical.byContradiction;intro h;exact h0 (Nat.eq_of_testBit_eq fun i=>by
   rw[Nat.zero_testBit];cases e:m.testBit i with
   | false=>rfl
   | true=>exact absurd ⟨i,e⟩ h)
 have hkn:=bB hm hk0;have Lv:=N.al k0 hkn;have hd0:N.dg m (N.a k0)=2:=by
  have:=u9 hkn hk0 (.inl rfl:N.a k0=N.a k0\/N.b k0=N.a k0);rcases d2 _ Lv with h|h<;>lia
 rw[O3 hm d2 Lv hd0];generalize hx:N.a k0=x0 at Lv hd0;have up:∀ x,x<N.p->N.dg m x=2->N.dg m (N.aN (fun k=>m.testBit k) N.n x)=2:=fun x hx hd=>by
  have hl:=jX (N:=N) (S:=fun k=>m.testBit k) (k:=N.n) hx
  rcases d2 _ hl with h|h
  ·have e:x=N.aN (fun k=>m.testBit k) N.n x:=alone h (bM _ _ _ (bY N.n x))
   rw[<-e]at h
   lia
  ·exact h
 have r0:N.aN (fun k=>m.testBit k) N.n x0<N.p:=jX Lv
 constructor
 ·intro h;have one:cnt (fun x=>decide (N.dg m x=2)&&N.root (fun k=>m.testBit k) N.n x) N.p=1:=by
   have:cnt (fun x=>decide (N.dg m x=2)&&N.root (fun k=>m.testBit k) N.n x) N.p=cnt (fun x=>decide (N.aN (fun k=>m.testBit k) N.n x0=x)) N.p:=eY fun x hx=>by
    rw[Bool.eq_iff_iff,Bool.and_eq_true,decide_eq_true_iff,decide_eq_true_iff];unfold Net.root;rw[decide_eq_true_iff]
    constructor
    ·rintro⟨h1,h2⟩;rw[<-(h x hx).mpr h1];exact h2
    ·rintro rfl;exact⟨up x0 Lv hd0,bY N.n x0⟩
   rw[this,u4,if_pos r0]
  lia
 ·intro h x hx;have one:cnt (fun x=>decide (N.dg m x=2)&&N.root (fun k=>m.testBit k) N.n x) N.p=1:=by lia
  have Z3:(decide (N.dg m (N.aN (fun k=>m.testBit k) N.n x0)=2)&&N.root (fun k=>m.testBit k) N.n (N.aN (fun k=>m.testBit k) N.n x0))=true:=by
   rw[Bool.and_eq_true,decide_eq_true_iff];unfold Net.root;rw[decide_eq_true_iff];exact⟨up x0 Lv hd0,bY N.n x0⟩
  constructor
  ·intro e;rcases d2 x hx with h|h
   ·have e2:x0=x:=alone h (bM _ _ _ e);rw[<-e2]at h
    lia
   ·exact h
  ·intro hd;have Z4:(decide (N.dg m (N.aN (fun k=>m.testBit k) N.n x)=2)&&N.root (fun k=>m.testBit k) N.n (N.aN (fun k=>m.testBit k) N.n x))=true:=by
    rw[Bool.and_eq_true,decide_eq_true_iff];unfold Net.root;rw[decide_eq_true_iff];exact⟨up x hx hd,bY N.n x⟩
   apply Classical.byContradiction;intro hne;have:=ug (f:=fun x=>decide (N.dg m x=2)&&N.root (fun k=>m.testBit k) N.n x) Z4 Z3 hne (jX hx) r0
   lia
variable {N:Net}{s u:Nat}
end RM
namespace Ring
open PySem L2
end Ring
namespace L2
open PySem PySem.Spec PySem.Calls PyProof.Rows PySem.W
end L2
namespace RM
theorem jJ{b:Nat}{B:List Nat}:Gz (b::B)↔Gz B/\¬ Sp B b:=by
 have dbl:∀ z,(2*z).testBit 0=false:=fun z=>by rw[Nat.testBit_zero];exact c7 (by lia)
 have VB:∀ z,(2*z+1).testBit 0=true:=fun z=>by rw[Nat.testBit_zero];exact cD (by lia)
 constructor
 ·intro h;refine⟨fun z hz e=>?_,fun hs=>?_⟩
  ·have:=h (2*z) (by rw[List.length_cons,Nat.pow_succ];lia) (by
    unfold comb;rw[dbl,if_neg (by decide),Nat.zero_xor,show 2*z/2=z by lia]
    exact e)
   lia
  ·obtain⟨y,hy,e⟩:=ze hs;have:=h (2*y+1) (by rw[List.length_cons,Nat.pow_succ];lia) (by
    unfold comb;rw[VB,if_pos rfl,show(2*y+1)/2=y by lia,e,Nat.xor_self])
   lia
 ·rintro⟨h,hs⟩ z hz e;unfold comb at e;rw[List.length_cons,Nat.pow_succ]at hz
  by_cases hb:z.testBit 0=true
  ·rw[if_pos hb]at e;have e2:=gw e;exact absurd (e2▸qy B (z/2)) hs
  ·rw[if_neg hb,Nat.zero_xor]at e;have h0:=h (z/2) (by lia) e
   rw[Nat.testBit_zero,decide_eq_true_iff]at hb
   lia
theorem MH{B C:List Nat}(h:B.Perm C)(x:Nat):Sp B x↔Sp C x :=
 ⟨fun z=>z.mono fun b hb=>.mem (h.mem_iff.mp hb),fun z=>z.mono fun b hb=>.mem (h.mem_iff.mpr hb)⟩
theorem Bl{B C:List Nat}(h:B.Perm C):Gz B↔Gz C:=by
 induction h with
 | nil=>exact Iff.rfl
 | cons x h ih=>rw[jJ,jJ,ih,MH h]
 | swap x y l =>
   rw[jJ,jJ,jJ,jJ,Sp.nk,Sp.nk,Nat.xor_comm y x]
   constructor
   ·rintro⟨⟨h1,h2⟩,h3⟩;exact⟨⟨h1,fun z=>h3 (.inl z)⟩,fun z=>z.elim h2 fun z=>h3 (.inr z)⟩
   ·rintro⟨⟨h1,h2⟩,h3⟩;exact⟨⟨h1,fun z=>h3 (.inl z)⟩,fun z=>z.elim h2 fun z=>h3 (.inr z)⟩
 | trans _ _ i1 i2=>exact i1.trans i2
theorem Base.perm{N:Net}{rs rs' : List Nat}(b:Base N rs)(h:rs'.Perm rs):Base N rs' :=
 ⟨by rw[h.length_eq];exact b.len,fun r hr=>b.ring r (h.mem_iff.mp hr),(Bl h).mpr b.ind⟩
end RM
namespace L2
open PySem PySem.Spec PyProof.Rows
def eI(q:Str)(pos:Pos):Array Value:=#[.str q 0,rawInt pos.line,rawInt pos.col]
def oO(pos:Pos)(c:Addr):Array Value:=#[rawInt pos.line,rawInt pos.col,.ref c]
def gp(H:Hp)(P c:Addr)(oc:Obj)(q:Str)(pos:Pos):Hp:=upd (upd H c (.mX oc (.own P))) P (.ju (eI q pos++oO pos c))
def given(H:Hp)(P c:Addr)(q:Str)(pos:Pos):Hp:=upd (upd H c (.own P)) P (.ju (eI q pos))
def CodeObj(oc:Obj)(q:Str):Prop:=∃ vs t,oc.data = .fields vs/\vs[1]?=some (.str q t)
theorem CodeObj.rec{h:Heap}{c:Addr}{oc:Obj}{q:Str}(x:CodeObj oc q)(e:h.get? c=some oc):h.CodeRec (.ref c) q :=
 let⟨vs,t,e1,e2⟩:=x
 ⟨c,oc,vs,t,rfl,e,e1,e2⟩
theorem O9{P:Program}{w:World}{H:Hp}{h:Heap}{a:Addr}{q:Str}{pos:Pos}(x:bJ P w H h a (.ju (eI q pos))):
 h.get? a=some (PySem.W.tabObj #[])\/∃ c oc,h.get? a=some (PySem.W.tabObj (oO pos c))/\H c=some (.own a)/\h.get? c=some oc/\CodeObj oc q:=by
 obtain⟨ps,e,f⟩:=x;rcases f with⟨_,f|⟨c,e1,e2,c',oc,vs,tq,hc,ho,hd,hv⟩⟩|⟨q',l,k,f,z⟩
 ·subst f;exact .inl e
 ·cases hc;subst e1;exact .inr ⟨c,oc,e,e2,ho,vs,tq,hd,hv⟩
 ·have:=congrArg Array.size f;rw[Array.size_append,z]at this;exact absurd this (by simp[eI])
theorem JR{P:Program}{w:World}{H:Hp}{h:Heap}{a c:Addr}{q:Str}{pos:Pos}(x:bJ P w H h a (.ju (eI q pos++oO pos c))):h.get? a=some (PySem.W.tabObj (oO pos c)):=by
 obtain⟨ps,e,f⟩:=x;rcases f with⟨f,_⟩|⟨q',l,k,f,z⟩
 ·rw[Array.size_append]at f;exact absurd f (by simp[eI,oO])
 ·have e2:=congrArg (fun a=>a.toList.drop 3) f
  simp only[Array.toList_append,eI,oO,List.cons_append,List.nil_append,List.drop_succ_cons,List.drop_zero]at e2;have e3:ps=oO pos c:=by
   apply Array.toList_inj.mp;exact e2.symm
  rw[<-e3];exact e
abbrev Bm(X:Cx)(params:Arguments)(body:Expr)(scope:Scope)(c:Addr)(ctv:Value):FuncData :=
 PySem.W.kla_fn "<lambda>" (X.env.qual ++ "<lambda>") params body scope (dh X.env.cells scope.names []) ((X.mg "__name__").getD .none) (.ref c) ctv
abbrev eJ(X:Cx)(params:Arguments)(body:Expr)(scope:Scope)(c:Addr)(ctv:Value):Obj :=
 { cls:=.type "function",data:=.func (Bm X params body scope c ctv)}
section
variable {X:Cx}{pq:aR}{σ:St}{H H2:Hp}{s:Shared}{params:Arguments}{body:Expr}{scope:Scope}{pos:Pos}{own fq:List Str}{js:List Nat}{c P:Addr}
theorem Bo{Q:eK}{E:eK}
 (I:Inv X pq σ H s) (T:dS X scope own fq js) (hcode:X.env.code = .ref c) (hK:PySem.W.codeHdIn X.K c P=true) (hP:H P=some (.ju (eI (X.env.qual ++ "<lambda>") pos)))
 (hdef:defaultsOf params X.env=([],[]))
 (h:∀ f c' oc ctv s',(H c' = none\/H c' = some (.own P))->c'≠P->CodeObj oc (X.env.qual ++ "<lambda>")->Inv X ((f,eJ X params body scope c' ctv)::pq) σ (gp H P c' oc (X.env.qual ++ "<lambda>") pos) s'->Q (.ref f) s') :
 wpAny (model X.prog X.w) X.A (eval (.Lambda params body scope pos) X.env) Q E s:=by
 have Lv:=O9 (show bJ X.prog X.w H s.heap P (.ju (eI (X.env.qual ++ "<lambda>") pos)) from I.hok P _ hP)
 have C:PySem.W.CodeHd s.heap c P:=PySem.W.codeHd_of_K I.Ob hK;have hg:=I.mod.glob.keeps I.bk;have W6:∀ b o,X.base.get? b=some o->b≠P:=fun b o q z=>by
  have:=(I.bs b o q).2;rw[z,hP]at this;cases this
 have hgP:mainGlobals≠P:=by
  obtain⟨o,es,ep,q,_⟩:=I.mod.glob;exact W6 _ o q
 have hb:s.heap.BuiltinsAt X.mg P:=by
  obtain⟨bm,ob,b1,b2,b3,b4,b5,b6⟩:=I.mod.bmain;refine⟨bm,ob,b1,b2,fun z=>?_,W6 _ _ b3,I.bk _ _ b3,b4,b5,b6⟩
  obtain⟨o,es,ep,q,hd,_⟩:=I.mod.glob;rw[z,q]at b3;cases b3;rw[hd]at b6;cases b6
 have hcl:=pe (g9 I T);have fin:∀(f c' : Addr) (oc:Obj) (ctv:Value) (h2:Heap) (tk:Nat),(H c' = none\/H c' = some (.own P))->c'≠P->(H c' = none->s.heap.objs.size<=c')->CodeObj oc (X.env.qual ++ "<lambda>")->(∀ b o,b≠P->s.heap.get? b=some o->h2.get? b=some o)->
  h2.get? P=some (PySem.W.tabObj (oO pos c'))->h2.get? c' = some oc->s.heap.objs.size<=f->f≠c'->h2.get? f=some (eJ X params body scope c' ctv)->
  Inv X ((f,eJ X params body scope c' ctv)::pq) σ (gp H P c' oc (X.env.qual ++ "<lambda>") pos) { s with heap:=h2,toks:=tk}:=by
  intro f c' oc ctv h2 tk hc Bp hnew hoc hx T3 hct hf hfc Z5;have nP:∀ b,H b=none->b≠P:=fun b n z=>by rw[z,hP]at n;cases n
  have MI:∀ b u,H b=some u->(∀ y,u≠.own y)->(∀ qs,u≠.ju qs)->gp H P c' oc (X.env.qual ++ "<lambda>") pos b=some u:=fun b u e n1 n2=>by
   unfold gp;rw[ao (fun z=>by rw[z,hP]at e;exact n2 _ (Option.some.inj e).symm),ao (fun z=>by
    rw[z]at e;rcases hc with q|q
    ·rw[q]at e;cases e
    ·rw[q]at e;exact n1 _ (Option.some.inj e).symm)]
   exact e
  have Pa:∀ b,H b=none->(b<s.heap.objs.size\/b≠c')->gp H P c' oc (X.env.qual ++ "<lambda>") pos b=none:=fun b n hb=>by
   unfold gp;rw[ao (nP b n),ao (fun z=>by
    rcases hb with q|q
    ·rw[z]at q n;exact absurd (hnew n) (Nat.not_le.mpr q)
    ·exact q z)]
   exact n
  have un:Un X.fs [] H (gp H P c' oc (X.env.qual ++ "<lambda>") pos) s.heap h2:=by
   refine⟨fun b o q n _ _=>hx b o (nP b n) q,fun b o q n _ _=>⟨o.slots,hx b o (nP b n) q⟩,fun b o q n _=>Pa b n (.inl (Heap.lt_size q)),fun b o q _=>?_,fun b xs q=>MI b _ q (by intro y z;cases z) (by intro y z;cases z),fun b o u q=>MI b _ q (by intro y z;cases z) (by intro y z;cases z),fun b ps q=>?_⟩
   ·by_cases hb:b=P
    ·exact⟨_,by rw[hb];exact T3⟩
    ·exact⟨o,hx b o hb q⟩
   ·by_cases hb:b=P
    ·subst hb;rw[hP]at q;cases q;exact⟨oO pos c',ae⟩
    ·refine⟨#[],?_⟩;unfold gp;rw[ao hb,ao (fun z=>by
      rw[z]at q;rcases hc with r|r<;>(rw[r]at q;cases q)),q]
     simp
  have hok:nV X.prog X.w (gp H P c' oc (X.env.qual ++ "<lambda>") pos) h2:=fun b u q=>by
   by_cases GB:b=P
   ·subst GB;unfold gp at q;rw[ae]at q;cases q;exact⟨_,T3,.inr ⟨_,_,_,rfl,rfl⟩⟩
   ·by_cases hbc:b=c'
    ·subst hbc;unfold gp at q;rw[ao GB,ae]at q;cases q;exact⟨hct,oc,hct⟩
    ·have q' : H b=some u:=by
      unfold gp at q;rw[ao GB,ao hbc]at q;exact q
     have ow:∀ d,H d=some (.own b)->d≠P/\d≠c':=fun d qd=>⟨aS qd hP (by intro z;cases z),fun z=>by
      rw[z]at qd;rcases hc with r|r
      ·rw[r]at qd;cases qd
      ·rw[r]at qd;cases qd;exact GB rfl⟩
     refine(I.hok b u q').stay (fun d v hd qd=>hx d v ?_ qd) (fun d qd=>?_) fun d xs qd=>MI d _ qd (by intro y z;cases z) (by intro y z;cases z)
     ·rcases hd with rfl|hd
      ·exact GB
      ·exact(ow d hd).1
     ·unfold gp;rw[ao (ow d qd).1,ao (ow d qd).2];exact qd
  have J:=I.un (t':=tk) un hok;have Z6:H f=none:=I.hok.fresh hf;refine J.gD fun p hp=>?_
  rcases List.mem_cons.mp hp with rfl|hp
  ·exact⟨Z5,Pa _ Z6 (.inr hfc),Nat.ne_of_gt (Nat.lt_of_lt_of_le I.lt hf),I.QS hf,fun v z=>by cases z⟩
  ·exact J.pin p (i9 _ hp)
 refine PySem.W.kla_eval hdef ?_;rcases Lv with e|⟨c',oc,e,ho,hct,hoc⟩
 ·refine PySem.W.kla_makeFunction (mg:=X.mg) hcl I.ok.glob hg hcode C e trivial rfl hgP hb fun c' ctv h' tk hx hge hlt hrec htb=>?_
  obtain⟨c2,oc,vs,t,e2,hct,hd,hv⟩:=hrec;cases e2;have hf:s.heap.objs.size<=h'.objs.size:=Nat.le_trans hge (Nat.le_of_lt hlt);have Bp:c'≠P:=Nat.ne_of_gt (Nat.lt_of_lt_of_le (Heap.lt_size e) hge);exact h _ c' oc ctv _ (.inl (I.hok.fresh hge)) Bp ⟨vs,t,hd,hv⟩ (fin _ c' oc ctv _ tk (.inl (I.hok.fresh hge)) Bp (fun _=>hge) ⟨vs,t,hd,hv⟩ (fun b o hb q=>Heap.get?_push_of_some _ (hx b o hb q)) (Heap.get?_push_of_some _ htb) (Heap.get?_push_of_some _ hct) hf (Nat.ne_of_gt hlt) (Heap.get?_push_size _ rfl))
 ·have hf:codeAmong pos (oO pos c').toList=some (.ref c'):=codeAmong_snoc [] trivial rfl;have tr:TriplesOk (oO pos c').toList:=TriplesOk_snoc pos.line pos.col (.ref c') [] trivial;refine PySem.W.kla_makeFunctionHit (mg:=X.mg) hcl I.ok.glob hg hcode C e tr hf hb fun ctv h' tk hk hsz=>?_
  have Bp:c'≠P:=aS ho hP (by intro z;cases z)
  have hk' : ∀ b o,s.heap.get? b=some o->(h'.push (eJ X params body scope c' ctv)).get? b=some o:=fun b o q=>Heap.get?_push_of_some _ (hk b o q)
  exact h _ c' oc ctv _ (.inr ho) Bp hoc (fin _ c' oc ctv _ tk (.inr ho) Bp (fun z=>by rw[ho]at z;cases z) hoc (fun b o _ q=>hk' b o q) (hk' _ _ e) (hk' _ _ hct) hsz (Nat.ne_of_gt (Nat.lt_of_lt_of_le (Heap.lt_size hct) hsz)) (Heap.get?_push_size _ rfl))
theorem Bq{vA:aR}{σ0:St}{s0:Shared}{q:Str}{oc:Obj}(I0:Inv X vA σ0 H s0)(hP:H P=some (.ju (eI q pos)))(hc:H c=none\/H c=some (.own P))(Bp:c≠P)(hoc:CodeObj oc q)
 (I:Inv X pq σ H2 s) (e1:H2 P=some (.ju (eI q pos++oO pos c))) (e2:H2 c=some (.mX oc (.own P))):Inv X pq σ (given H2 P c q pos) s:=by
 have T3:=JR (show bJ X.prog X.w H2 s.heap P (.ju (eI q pos++oO pos c)) from I.hok P _ e1)
 obtain⟨hct,_⟩:=(show bJ X.prog X.w H2 s.heap c (.mX oc (.own P)) from I.hok c _ e2)
 have Pa:∀ b,H2 b=none->given H2 P c q pos b=none:=fun b n=>by
  unfold given;rw[ao (fun z=>by rw[z,e1]at n;cases n),ao (fun z=>by rw[z,e2]at n;cases n)]
  exact n
 have MI:∀ b u,b≠P->b≠c->H2 b=some u->given H2 P c q pos b=some u:=fun b u n1 n2 e=>by
  unfold given;rw[ao n1,ao n2];exact e
 refine⟨I.ok,I.os,I.bare,⟨I.base.keep,I.base.slot,fun b o z n hx=>Pa b (I.base.free b o z n hx),I.base.there,fun b xs z=>?_,fun b o u z=>?_,fun b ps z=>?_⟩,I.loc,I.cell,Pa _ I.free,fun x c' z=>Pa _ (I.fK x c' z),fun p hp=>?_,fun b u z=>?_,I.len⟩
 ·have r:=I.base.tups b xs z;exact MI b _ (aS r e1 (by intro z;cases z)) (aS r e2 (by intro z;cases z)) r
 ·have r:=I.base.lC b o u z;refine MI b _ (aS r e1 (by intro z;cases z)) (fun y=>?_) r
  have r0:=I0.base.lC b o u z;rw[y]at r0;rcases hc with hc|hc<;>(rw[hc]at r0;cases r0)
 ·by_cases hb:b=P
  ·subst hb;obtain⟨more,r0⟩:=I0.base.mY b ps z;rw[hP]at r0;exact⟨more,by unfold given;rw[ae];exact r0⟩
  ·obtain⟨more,r⟩:=I.base.mY b ps z;exact⟨more,MI b _ hb (aS r e2 (by intro z;cases z)) r⟩
 ·obtain⟨a1,a2,a3⟩:=I.pin p hp;exact⟨a1,Pa _ a2,a3⟩
 ·by_cases GB:b=P
  ·subst GB;unfold given at z;rw[ae]at z;cases z;refine⟨_,T3,.inl ⟨rfl,.inr ⟨c,rfl,?_,hoc.rec hct⟩⟩⟩;unfold given;rw[ao Bp,ae]
  ·by_cases hbc:b=c
   ·subst hbc;unfold given at z;rw[ao GB,ae]at z;cases z;exact⟨oc,hct⟩
   ·have z' : H2 b=some u:=by
     unfold given at z;rw[ao GB,ao hbc]at z;exact z
    refine(I.hok b u z').stay (fun _ _ _ r=>r) (fun d r=>MI d _ (aS r e1 (by intro z;cases z)) (aS r e2 (by intro z;cases z)) r) fun d xs r=>MI d _ (aS r e1 (by intro z;cases z)) (aS r e2 (by intro z;cases z)) r
theorem Br{q:Str}{oc:Obj}(hP:H P=some (.ju (eI q pos)))(hc:H c=none\/H c=some (.own P))(Bp:c≠P)(S:aq (gp H P c oc q pos) H2):aq H (given H2 P c q pos):=fun b u e=>by
 unfold given
 by_cases GB:b=P
 ·subst GB;rw[ae,<-hP];exact e
 ·rw[ao GB]
  by_cases hbc:b=c
  ·subst hbc;rw[ae];rcases hc with hc|hc
   ·rw[hc]at e;cases e
   ·rw[<-hc];exact e
  ·rw[ao hbc];refine S b u ?_;unfold gp;rw[ao GB,ao hbc];exact e
theorem ur{q:Str}{oc:Obj}{b:Addr}{u:HO}(hP:H P=some (.ju (eI q pos)))(hc:H c=none\/H c=some (.own P))(e:H b=some u)(n1:∀ y,u≠.own y)(n2:∀ qs,u≠.ju qs):gp H P c oc q pos b=some u:=by
 unfold gp;rw[ao (fun z=>by rw[z,hP]at e;exact n2 _ (Option.some.inj e).symm),ao (fun z=>by
  rw[z]at e;rcases hc with q|q
  ·rw[q]at e;cases e
  ·rw[q]at e;exact n1 _ (Option.some.inj e).symm)]
 exact e
def vB(X:Cx)(N:List Str)(scope:Scope)(f c:Addr)(A:Around)(s:Shared)(H:Hp):Cx where
 prog:=X.prog
 w:=X.w
 K:=X.K
 mg:=X.mg
 base:=X.base
 A:=A.deeper (PySem.W.envX (X.env.qual ++ "<lambda>") scope s.heap.objs.size f (.ref c) (dh X.env.cells scope.names []))
 N:=N
 s₀:=s
 H₀:=H
 env:=PySem.W.envX (X.env.qual ++ "<lambda>") scope s.heap.objs.size f (.ref c) (dh X.env.cells scope.names [])
 outer:=X.stack
 stack:=PySem.W.envX (X.env.qual ++ "<lambda>") scope s.heap.objs.size f (.ref c) (dh X.env.cells scope.names [])::X.stack
 ex:=[]
 fn:=fun _=>false
 calm:=X.calm
 pn:=[]
 xe:=fun _ _=>False
theorem MJ{f:Addr}{A:Around}{x:Str}{v:V}{u:Value}{h1:Heap}{t1:Nat}(I:Inv X pq σ H s)(T:dS X scope [x] fq js)(hx:scope.names.lookup x=some .local)
 (hfr:A.frames=some X.stack) (hh:A.handled=X.A.handled) (r:RelV v u) (old:∀ b o,s.heap.get? b=some o->h1.get? b=some o) (hn:h1.Ns s.heap.objs.size (fun y=>[(x,u)].reverse.lookup y)) :
 Inv (vB X ([x]++fq) scope f c A s H) [] (some v::fJ σ js) H { s with heap:=h1,toks:=t1}:=by
 have cells:∀ x c,(dh X.env.cells scope.names []).lookup x=some c->X.env.cells.lookup x=some c:=fun x c h=>by
  rcases jU h with q|⟨q1,q2⟩
  ·cases q
  ·obtain⟨c',hc'⟩:=g9 I T x .free q1 rfl;rw[hc']at q2;rw[hc'];exact congrArg some q2
 refine⟨⟨I.ok.mod,T.kind,rfl,rfl,Nat.le_refl _,fun x y c a b=>I.ok.inj x y c (cells x c a) (cells y c b),fun y hy=>?_,fun x c z _=>(nomatch z),fun hc=>hh.trans (I.ok.hd hc),Around.frames_deeper hfr,.inr ⟨rfl,rfl⟩,fun b hb=>absurd (show b∈([]:List Addr) from hb) (by simp),
  fun b o e=>I.bs b o e,Nat.le_trans I.ok.LK I.sz,fun b o _ hb=>absurd (show b∈([]:List Addr) from hb) (by simp),fun b hb=>absurd (show b∈([]:List Addr) from hb) (by simp),I.stack,I.yI⟩,
  rfl,I.bare,Un.kept old,⟨_,hn,fun i y v' e1 e2 e3=>?_⟩,fun y c e=>?_,I.hok.fresh (Nat.le_refl _),fun y c e=>I.fK y c (cells y c e),fun p hp=>absurd (show p∈([]:aR) from hp) (by simp),I.hok.kept old,?_⟩
 ·have hy:scope.names.lookup y=some .cell\/scope.names.lookup y=some .free:=hy;rcases hy with hy|hy
  ·exact absurd rfl (T.yO _ (PySem.mem_of_lookup hy))
  ·exact jx (.inl (PySem.mem_of_lookup hy))
 ·replace e1:([x]++fq)[i]?=some y:=e1
  cases i with
  | zero =>
    have e1:x=y:=by simpa using e1
    have e2:v=v':=by simpa using e2
    subst e1 e2;exact⟨u,r,.inl ⟨hx,by simp⟩⟩
  | succ i =>
    have e1:fq[i]?=some y:=by simpa using e1
    have e2:(fJ σ js)[i]?=some (some v'):=by simpa using e2
    obtain⟨j,hj,hσ⟩:=uL e2;have hN:X.N[j]?=some y:=by
     have q:=congrArg (fun l=>l[i]?) T.at_
     simp only[List.getElem?_map,hj,e1,Option.map_some]at q;exact Option.some.inj q
    have hfx:=T.fr y (iT e1);have hm:=PySem.mem_of_lookup hfx;have hk:=T.free (y,.free) hm rfl;obtain⟨m0,hn0,EK⟩:=I.loc;obtain⟨u',r',l⟩:=EK j y v' hN hσ (by rcases hk with k|k;exact .inr (.inl k);exact .inr (.inr k))
    refine⟨u',r',.inr ⟨.inr hfx,?_⟩⟩;rcases l with⟨nZ,_⟩|⟨_,c1,hc,hcell⟩
    ·have nZ:X.env.scope.names.lookup y=some .local:=nZ;rcases hk with k|k<;>(rw[nZ]at k;cases k)
    ·obtain⟨c',hc'⟩:=jx (cells:=X.env.cells) (names:=scope.names) (cs:=[]) (x:=y) (.inl hm);have q:=cells y c' hc';rw[hc]at q;cases q;exact⟨c1,hc',hcell.keeps old⟩
 ·obtain⟨v',q⟩:=I.cell y c (cells y c e);exact⟨v',q.keeps old⟩
 ·show _=([x]++fq).length;have q:=congrArg List.length T.at_;rw[List.length_map,List.length_map]at q;simp only[List.length_cons,List.length_append,List.length_nil];unfold fJ;rw[List.length_map]
  lia
theorem Bs{f:Addr}{ctv:Value}{A:Around}{te:TE}{x:Str}{v:V}{u:Value}{Q:VK}{E:eK}(I:Inv X pq σ H s)(T:dS X scope [x] fq js)(hx:scope.names.lookup x=some .local)
 (hfr:A.frames=some X.stack) (hh:A.handled=X.A.handled) (hroom:A.depth<recursionLimit) (hp:(f,eJ X params body scope c ctv)∈pq) (hcd:s.heap.CodeRec (.ref c) (X.env.qual ++ "<lambda>"))
 (hb:bindArgs (Bm X params body scope c ctv) ⟨[u],[]⟩=pure [(x,u)]) (hco:scope.isCoroutine=false) (hgen:scope.isGenerator=false)
 (he:PE (vB X ([x]++fq) scope f c A s H) body te) (r:RelV v u) (h:te (some v::fJ σ js) H Q) :
 wpAny (model X.prog X.w) A (call (.ref f) [u]) (fun u' s'=>∃ v' H',Inv X pq σ H' s'/\RelV v' u'/\Q v' H') E s:=by
 have hf:=I.pin _ (i9 _ hp);refine wpAny_call (PySem.W.kla_callFunE hroom hf.1 rfl hco hgen rfl hcd ?_);rw[hb];refine wpAny_pure (wpAny_newFunctionEnv (fun y hy=>T.yO y hy) (by intro y hy;have:=List.mem_singleton.mp hy;subst this;exact hx) (fun h₁ hns R3=>⟨I.nolimit.fresh _ R3,?_⟩) T.kind)
 show codeAny _ _ (.expr body (PySem.W.envX (X.env.qual ++ "<lambda>") scope s.heap.objs.size f (.ref c) (dh X.env.cells scope.names []))) _ _;have old:∀ b o,s.heap.get? b=some o->h₁.get? b=some o:=fun b o e=>R3.extBut b o (Nat.ne_of_lt (Heap.lt_size e)) (Heap.get?_push_of_some _ e)
 have J:=MJ (f:=f) (c:=c) (A:=A) (t1:=s.toks+[(x,u)].length) I T hx hfr hh r old hns;refine PySem.W.kla_codeExpr (wpAny_mono (he [] _ _ H Q J h) (fun u' s' hq=>?_) fun _ _ z=>z.elim)
 obtain⟨v',H',J',r',q'⟩:=hq;exact⟨v',H',I.Ii (ch:=[]) J'.os J'.base J'.hok J'.bare (fun b z=>absurd z (by simp)),r',q'⟩
end
end L2
namespace HT
theorem gJ:∀ a:List Int,lexLt a a=false
 | []=>rfl
 | x::xs=>by rw[g8,if_pos rfl];exact gJ xs
theorem tD:∀{a b c:List Int},lexLt a b=true->lexLt b c=true->lexLt a c=true
 | [],[],_,h,_=>by rw[oR]at h;cases h
 | [],_::_,[],_,h=>by rw[gF]at h;cases h
 | [],_::_,_::_,_,_=>rfl
 | _::_,[],_,h,_=>by rw[gF]at h;cases h
 | _::_,_::_,[],_,h=>by rw[gF]at h;cases h
 | x::xs,y::ys,z::zs,h1,h2=>by
   rw[g8]at h1 h2 ⊢
   by_cases e1:x=y
   ·rw[if_pos e1]at h1
    by_cases e2:y=z
    ·rw[if_pos e2]at h2;rw[if_pos (e1.trans e2)];exact tD h1 h2
    ·rw[if_neg e2]at h2;rw[if_neg (fun q=>e2 (e1.symm.trans q)),e1]
     exact h2
   ·rw[if_neg e1]at h1;have h1:=i8 h1
    by_cases e2:y=z
    ·subst e2;rw[if_neg e1];exact cD h1
    ·rw[if_neg e2]at h2;have h2:=i8 h2;rw[if_neg (by lia)]
     exact cD (by lia)
theorem vC{a b c:List Int}(h1:lexLt c b=false)(h2:lexLt a b=true):lexLt c a=false:=by
 cases q:lexLt c a with
 | false=>rfl
 | true=>rw[tD q h2]at h1;cases h1
end HT
namespace L2
open PySem PySem.Spec PyProof.Rows
def T4(h:Heap)(a:Addr)(es:Array DictEntry)(ep:Nat):Prop:=∃ o,h.get? a=some o/\o.ExactDict/\o.data = .dict es ep
def T5(o:Obj)(a:Addr)(i n ep:Nat):Prop:=o.cls = .type "dict_keyiterator"/\o.data = .fields #[.ref a,.int i 0,.int n 0,.int ep 0]
section
variable {P:Program}{w:World}{A:Around}{E:eK}{s:Shared}{a it:Addr}{es:Array DictEntry}{ep i:Nat}{oi:Obj}
theorem JS{Q:eK}(hs:(a==sysModules)=false)(g:T4 s.heap a es ep)
 (q:Q (.ref s.heap.objs.size) { s with heap:=s.heap.push { cls:=.type "dict_keyiterator",data:=.fields #[.ref a,.int 0 0,.int es.size 0,.int ep 0]}}):wpAny (model P w) A (pyIter (.ref a)) Q E s:=by
 obtain⟨o,ho,hc,hd⟩:=g;have hT:s.TypeIs (.ref a) "dict":=⟨o,ho,hc.1⟩;refine wpAny_pyIter_slot hT PySem.F.slot_dict_iter (wpAny_call_entry PySem.F.slot_dict_iter hT PySem.F.entry_dict_iter ?_ (PySem.F.args_dict_iter_1 _));unfold Builtin.«dict.__iter__» Builtin.Dict.dictSlotNone;refine aQ (aQ (wpAny_notOrdered_dict hT ?_));show wpAny _ _ (pure (Value.ref a)) _ _ s;refine wpAny_pure ?_;show wpAny _ _ (Builtin.Dict.showsAll a >>= _) _ _ s;unfold Builtin.Dict.showsAll;rw[hs];refine aQ (wpAny_pure (aQ (wpAny_dictEntries ho hd (aQ (wpAny_dictEpoch ho hd ?_)))));exact aQ (wpAny_newObj_type (wpAny_pure ⟨_,rfl,"dict_keyiterator",_,⟨_,Heap.get?_push_size _ rfl,rfl⟩,PySem.F.slot_dict_keyiterator_next.lookup,q⟩))
theorem vD{Q:Option Value->Shared->Prop}(hi:s.heap.get? it=some oi)(g:T5 oi a i es.size ep)(gd:T4 s.heap a es ep)
 (q:match (es[i]?:Option DictEntry) with
  | some e=>∀ h' oi',h'.get? it=some oi'->T5 oi' a (i+1) es.size ep->Heap.SameBut it s.heap h'->Q (some e.key) { s with heap:=h'}
  | none=>A.handled=none/\∀ h',Heap.ExtBut it s.heap h'->Q none { s with heap:=h'}):wpAny (model P w) A (pyNext (.ref it)) Q E s:=by
 obtain⟨hc,hd⟩:=g;obtain⟨o,ho,hx,W9⟩:=gd;have hT:s.TypeIs (.ref it) "dict_keyiterator":=⟨oi,hi,hc⟩;unfold pyNext;refine aQ (wpAny_attempt (wpAny_callSpecial?_slot (name:=Str.ofString "__next__") hT PySem.F.slot_dict_keyiterator_next (wpAny_call_entry PySem.F.slot_dict_keyiterator_next hT PySem.F.entry_dict_keyiterator_next ?_ (PySem.F.args_dict_keyiterator_next_1 _))));refine aQ (wpAny_pure (aQ (aQ ?_)))
 first | refine aQ (wpAny_typeNameOfWhole_keyiter hT (wpAny_pure ?_)) | refine aQ (wpAny_typeNameOf_keyiter hT (wpAny_pure ?_))
 refine aQ (wpAny_fieldsOf hi hd ?_);have hown:Builtin.Dict_items.ownsTuple "dict_keyiterator"=false:=by decide
 simp only[hown,Bool.false_eq_true,if_false];show wpAny _ _ (if(Value.ref a==Value.none)=true then _ else _) _ _ s
 rw[if_neg (show ¬((Value.ref a==Value.none)=true) from Bool.false_ne_true)]
 refine aQ (wpAny_pure (aQ (wpAny_dictEntries ho W9 ?_)));rw[if_neg (by simp)]
 refine aQ (wpAny_pure (aQ (wpAny_dictEpoch ho W9 ?_)));rw[if_neg (by simp)]
 refine wpAny_pure ?_;simp only[show ¬((i:Int)<0) from by lia,if_false,Int.toNat_natCast]
 cases hei:(es[i]?:Option DictEntry) with
 | some e =>
   rw[hei]at q;refine aQ ?_
   first | refine aQ (wpAny_typeNameOfWhole_keyiter hT (wpAny_pure ?_)) | refine aQ (wpAny_typeNameOf_keyiter hT (wpAny_pure ?_))
   refine aQ (wpAny_isOneOf_keyiter hT ?_);show wpAny _ _ (setField (.ref it) 1 (rawInt ((i:Int)+1)) >>= _) _ _ s;refine aQ (wpAny_setField hi hd (by simp) ?_)
   have d1:=Obj.data_mapFields hd (·.setIfInBounds 1 (rawInt ((i:Int)+1)));have g1:=Heap.get?_update_self (Obj.mapFields (·.setIfInBounds 1 (rawInt ((i:Int)+1)))) hi (Obj.isFreed_of_fields d1);have c1:(Obj.mapFields (·.setIfInBounds 1 (rawInt ((i:Int)+1))) oi).cls = .type "dict_keyiterator":=(Obj.cls_mapFields ..).trans hc;refine aQ (wpAny_holding ?_);refine aQ (wpAny_isOneOf_keyiter (s:={ s with heap:=s.heap.update it (Obj.mapFields (·.setIfInBounds 1 (rawInt ((i:Int)+1))))}) ⟨_,g1,c1⟩ ?_)
   show wpAny _ _ (pure e.key) _ _ _;exact wpAny_pure (wpAny_pure ⟨_,rfl,wpAny_pure (q _ _ g1 ⟨c1,by rw[d1];simp[rawInt]⟩ (Heap.SameBut.update ..))⟩)
 | none =>
   rw[hei]at q;obtain⟨hh,q⟩:=q;refine aQ ?_
   first | refine aQ (wpAny_typeNameOfWhole_keyiter hT (wpAny_pure ?_)) | refine aQ (wpAny_typeNameOf_keyiter hT (wpAny_pure ?_))
   show wpAny _ _ (setField (.ref it) 0 .none >>= _) _ _ s;refine aQ (wpAny_setField hi hd (by simp) ?_)
   show wpAny _ _ (newExc (.type "StopIteration") [] >>= _) _ _ _;refine aQ ?_;simp only[newExc,newTuple];refine aQ (wpAny_newObj_type (aQ (m:=firstArgMember _ _) (wpAny_of_eq (a:=Value.none) (by first | rfl | (simp only[firstArgMember];rfl)) (wpAny_newObj_type ?_ (by size_fits)))) (by size_fits))
   simp only[raiseNew];refine aQ (wpAny_handled ?_);rw[show A.in1.handled=none from hh]
   refine aQ (wpAny_pure (wpAny_throw ?_));refine aQ (wpAny_isInstance (T:="StopIteration") (b:=true) ⟨_,Heap.get?_push_size _ rfl,rfl⟩ isSubtype_stop (wpAny_pure ?_));exact q _ (((Heap.SameBut.update ..).extBut.push _).push _)
end
section
variable {X:Cx}{pq:aR}{σ:St}{H H2:Hp}{s:Shared}
theorem Inv.MK{a:Addr}{kvs:List (List Key×V)}{ob:Obj}(I:Inv X pq σ H s)(e:H a=some (.dT kvs))(ho:s.heap.get? a=some ob):Inv X pq σ (upd H a (.mX ob (.dT kvs))) s:=by
 have ne:∀ b,H b=none->b≠a:=fun b h z=>by rw[z,e]at h;cases h
 refine⟨I.ok,I.os,I.bare,⟨I.base.keep,I.base.slot,fun b o q n hx=>?_,I.base.there,fun b xs q=>?_,fun b o u q=>?_,fun b ps q=>?_⟩,I.loc,I.cell,?_,fun x c q=>?_,fun p hp=>?_,fun b u q=>?_,I.len⟩
 ·have z:=I.base.free b o q n hx;rw[ao (ne b z)];exact z
 ·have z:=I.base.tups b xs q;rw[ao (aS z e (by intro z;cases z))]
  exact z
 ·have z:=I.base.lC b o u q;rw[ao (aS z e (by intro z;cases z))]
  exact z
 ·obtain⟨more,z⟩:=I.base.mY b ps q;exact⟨more,by rw[ao (aS z e (by intro z;cases z))];exact z⟩
 ·rw[ao (ne _ I.free)];exact I.free
 ·rw[ao (ne _ (I.fK x c q))];exact I.fK x c q
 ·obtain⟨a1,a2,a3⟩:=I.pin p hp;exact⟨a1,by rw[ao (ne _ a2)];exact a2,a3⟩
 ·by_cases hb:b=a
  ·subst hb;rw[ae]at q;cases q;exact⟨ho,(I.hok b _ e).stay (fun _ _ _ q=>q) (fun c q=>by rw[ao (aS q e (by intro z;cases z))];exact q) fun c xs q=>by rw[ao (aS q e (by intro z;cases z))];exact q⟩
  ·rw[ao hb]at q;exact(I.hok b u q).stay (fun _ _ _ q=>q) (fun c q=>by rw[ao (aS q e (by intro z;cases z))];exact q) fun c xs q=>by rw[ao (aS q e (by intro z;cases z))];exact q
theorem Inv.R4{vA:aR}{σ0:St}{s0:Shared}{a:Addr}{kvs:List (List Key×V)}{ob:Obj}(I0:Inv X vA σ0 H s0)(e0:H a=some (.dT kvs))(I:Inv X pq σ H2 s)(e:H2 a=some (.mX ob (.dT kvs))):
 Inv X pq σ (upd H2 a (.dT kvs)) s:=by
 have ne:∀ b,H2 b=none->b≠a:=fun b h z=>by rw[z,e]at h;cases h
 obtain⟨ho,hd⟩:=(show bJ X.prog X.w H2 s.heap a (.mX ob (.dT kvs)) from I.hok a _ e)
 refine⟨I.ok,I.os,I.bare,⟨I.base.keep,I.base.slot,fun b o q n hx=>?_,I.base.there,fun b xs q=>?_,fun b o u q=>?_,fun b ps q=>?_⟩,I.loc,I.cell,?_,fun x c q=>?_,fun p hp=>?_,fun b u q=>?_,I.len⟩
 ·have z:=I.base.free b o q n hx;rw[ao (ne b z)];exact z
 ·have z:=I.base.tups b xs q;rw[ao (aS z e (by intro z;cases z))]
  exact z
 ·have z:=I.base.lC b o u q;rw[ao (fun y=>by
   have z0:=I0.base.lC b o u q;rw[y,e0]at z0;cases z0)]
  exact z
 ·obtain⟨more,z⟩:=I.base.mY b ps q;exact⟨more,by rw[ao (aS z e (by intro z;cases z))];exact z⟩
 ·rw[ao (ne _ I.free)];exact I.free
 ·rw[ao (ne _ (I.fK x c q))];exact I.fK x c q
 ·obtain⟨a1,a2,a3⟩:=I.pin p hp;exact⟨a1,by rw[ao (ne _ a2)];exact a2,a3⟩
 ·by_cases hb:b=a
  ·subst hb;rw[ae]at q;cases q;exact hd.stay (fun _ _ _ q=>q) (fun c q=>by rw[ao (aS q e (by intro z;cases z))];exact q) fun c xs q=>by rw[ao (aS q e (by intro z;cases z))];exact q
  ·rw[ao hb]at q;exact(I.hok b u q).stay (fun _ _ _ q=>q) (fun c q=>by rw[ao (aS q e (by intro z;cases z))];exact q) fun c xs q=>by rw[ao (aS q e (by intro z;cases z))];exact q
def Du(X:Cx)(b:Addr):Prop:=X.s₀.heap.objs.size<=b/\b≠X.env.locals/\b∉X.fs/\(∀ x c,X.env.cells.lookup x=some c->c≠b)/\∀ p∈X.pn,p.1≠b
theorem Inv.JT(I:Inv X pq σ H s){b:Addr}(hb:s.heap.objs.size<=b):Du X b :=
 let⟨_,f1,f2,_,f4,f5⟩:=I.CI hb (I.hok.fresh hb)
 ⟨Nat.le_trans I.sz hb,f1,f2,f4,fun p hp=>f5 p (Ni _ hp)⟩
theorem Inv.j9{pa pb:aR}{b:Addr}{o:Obj}{h' : Heap}{t' : Nat}(I:Inv X pa σ H s)(hb:Du X b)(hin:(b,o)∈pa)(k:∀ c u,c≠b->s.heap.get? c=some u->h'.get? c=some u)
 (hp:∀ p∈pb,(p.1=b/\h'.get? b=some p.2/\∀ v,p.2.data≠.cell v)\/(p∈pa/\p.1≠b)):Inv X pb σ H { s with heap:=h',toks:=t'}:=by
 obtain⟨b1,b2,b3,b4,b5⟩:=hb;have n:=(I.pin (b,o) (i9 _ hin)).2.1;have J:=(I.gD (TJ:=pa.filter fun p=>decide (p.1≠b)) fun p hp=>I.pin p (i9 _ (List.mem_filter.mp hp).1)).turned (t':=t') k n b2 (.inr b1) b4 (fun p hp=>by
  rcases List.mem_append.mp hp with hp|hp
  ·exact b5 p hp
  ·exact i8 (List.mem_filter.mp hp).2)
 refine J.gD fun p h=>?_
 rcases hp p h with⟨e,g,d⟩|⟨m,ne⟩
 ·refine⟨by rw[e];exact g,by rw[e];exact n,by rw[e];exact b2,by rw[e];exact b3,d⟩
 ·exact J.pin p (i9 _ (List.mem_filter.mpr ⟨m,cD ne⟩))
end
section
variable {X:Cx}{pq:aR}{σ:St}{H2:Hp}{params:Arguments}{body:Expr}{scope:Scope}{fq:List Str}{js:List Nat}{x:Str}{te:TE}{f c a It S:Addr}{oc ob:Obj}{ctv:Value}{q:Str}{kvs:List (List Key×V)}
 {es:Array DictEntry} {ep:Nat} {ka:Nat->Addr} {ks:Nat->List Int} {PZ:Addr} {R:Result->Shared->Prop}
structure Dv(X:Cx)(σ:St)(H2:Hp)(params:Arguments)(body:Expr)(scope:Scope)(fq:List Str)(js:List Nat)(x:Str)(te:TE)(f c a It S:Addr)(oc ob:Obj)(ctv:Value)(kvs:List (List Key×V))(es:Array DictEntry)(ep:Nat)(ka:Nat->Addr)(ks:Nat->List Int)(PZ:Addr):Prop where
 T:dS X scope [x] fq js
 hx:scope.names.lookup x=some .local
 hh:X.A.handled=none
 dp:X.A.in1.depth<recursionLimit
 un:X.A.in1.units<cLine
 hb:∀ u,bindArgs (Bm X params body scope c ctv) ⟨[u],[]⟩=pure [(x,u)]
 co:scope.isCoroutine=false
 gen:scope.isGenerator=false
 he:∀ s H,PE (vB X ([x]++fq) scope f c X.A.in1 s H) body te
 code:CodeObj oc (X.env.qual ++ "<lambda>")
 hc:H2 c=some (.mX oc (.own PZ))
 ha:H2 a=some (.mX ob (.dT kvs))
 hob:ob.ExactDict/\ob.data = .dict es ep
 key:∀(i:Nat) (e:DictEntry),(es[i]?:Option DictEntry)=some e->e.key = .ref (ka i)
 turn:∀ i H3,i<es.size->aq H2 H3->te (some (.ref (ka i))::fJ σ js) H3 fun v H4=>aq H3 H4/\∃ d,v = .ref d/\aV X.K H4 d ((ks i).map V.int)
 oS:Du X S
 oI:Du X It
 SI:S≠It
 fS:f≠S
 fI:f≠It
theorem Bt{pa:aR}{s:Shared}{H3:Hp}{i:Nat}{E:eK}(F:Dv X σ H2 params body scope fq js x te f c a It S oc ob ctv kvs es ep ka ks PZ)(hi:i<es.size)(hs:aq H2 H3)(I:Inv X pa σ H3 s)
 (hf:(f,eJ X params body scope c ctv)∈pa) :
 wpAny (model X.prog X.w) X.A.in1 (call (.ref f) [.ref (ka i)]) (fun u s'=>∃ d H4,u = .ref d/\Inv X pa σ H4 s'/\aq H2 H4/\aq H3 H4/\aV X.K H4 d ((ks i).map V.int)) E s:=by
 obtain⟨hct,_⟩:=(show bJ X.prog X.w H3 s.heap c (.mX oc (.own PZ)) from I.hok c _ (hs _ _ F.hc))
 refine wpAny_mono (Bs (v:=.ref (ka i)) I F.T F.hx I.ok.frames rfl F.dp hf (F.code.rec hct) (F.hb _) F.co F.gen (F.he s H3) rfl (F.turn i H3 hi hs)) (fun u s' ⟨v,H4,J,r,q1,d,e,q2⟩=>?_) fun _ _ z=>z
 subst e;cases r;exact⟨d,H4,rfl,J,fun b o z=>q1 _ _ (hs _ _ z),q1,q2⟩
theorem JU{pa:aR}{s:Shared}{H3:Hp}{d d' : Addr}{ns ms:List Int}{A:Around}{E:eK}{Q:eK}(I:Inv X pa σ H3 s)(h1:aV X.K H3 d (ns.map V.int))(h2:aV X.K H3 d' (ms.map V.int))(hu:A.units<cLine)
 (q:Q (.bool (HT.lexLt ns ms)) s):wpAny (model X.prog X.w) A (richCompare .Lt (.ref d) (.ref d')) Q E s:=by
 obtain⟨its,r1,p1,_⟩:=I.tuple h1;obtain⟨its2,r2,p2,_⟩:=I.tuple h2;exact(HT.CU p1 p2 (intsAre_of r1) (intsAre_of r2) hu q:wpAny (model X.prog X.w) A (compareOp .Lt (.ref d) (.ref d')) Q E s)
abbrev oq(pq:aR)(S It f:Addr)(oS oI lo:Obj):aR:=(S,oS)::(It,oI)::(f,lo)::pq
theorem JV(F:Dv X σ H2 params body scope fq js x te f c a It S oc ob ctv kvs es ep ka ks PZ)(pI:∀ p∈pq,p.1≠It)(pS:∀ p∈pq,p.1≠S)
 (hR:∀ i s' H3,i<es.size->(∀ j,j<es.size->HT.lexLt (ks j) (ks i)=false)->aq H2 H3->Inv X pq σ H3 s'->R (.ok (.ret (.ref (ka i)))) s') :
 ∀(r j i:Nat) (s:Shared) (H3:Hp) (d:Addr) (n:Nat) (oI:Obj),es.size-j=r->j<=es.size->i<j->aq H2 H3->Inv X (oq pq S It f (seqObj "list" #[.ref (ka i),.ref d] n) oI (eJ X params body scope c ctv)) σ H3 s->T5 oI a j es.size ep->
  aV X.K H3 d ((ks i).map V.int)->(∀ j',j'<j->HT.lexLt (ks j') (ks i)=false)->codeAny (model X.prog X.w) X.A (.builtin "min.loop" ⟨[.ref It,.ref f,.ref S],[]⟩) R s:=by
 have hname:(toString "min" ++ toString ".loop":String)="min.loop":=by decide
 intro r
 induction r with
 | zero =>
   intro j i s H3 d n oI hr hj hij hs I hk hd qA;have Cz:j=es.size:=by lia
   have vE:=I.pin (S,_) (i9 _ (.head _));have JW:=I.pin (It,oI) (i9 _ (.tail _ (.head _)));obtain⟨hob,_⟩:=(show bJ X.prog X.w H3 s.heap a (.mX ob (.dT kvs)) from I.hok a _ (hs _ _ F.ha))
   refine codeAny_builtin PySem.F.entry_min_loop ?_;rw[Around.under_plainId PySem.F.plain_min_loop _];show wpAny _ X.A.in1 (seqItems? (.ref S) >>= _) _ _ _;refine aQ (wpAny_seqItems vE.1 rfl ?_);show wpAny _ X.A.in1 (tryCatch (pyNext (.ref It)) _ >>= _) _ _ _;refine aQ (wpAny_tryCatch (vD JW.1 hk ⟨ob,hob,F.hob⟩ ?_));rw[Cz,Array.getElem?_eq_none (Nat.le_refl _)];refine⟨F.hh,fun h' eb=>?_⟩
   have I1:=I.j9 (t':=s.toks) (h':=h') (pb:=(S,seqObj "list" #[.ref (ka i),.ref d] n)::pq) F.oI (List.Mem.tail _ (.head _)) (fun b u hb e=>eb b u hb e) (fun p hp=>by
    rcases List.mem_cons.mp hp with rfl|hp
    ·exact .inr ⟨.head _,F.SI⟩
    ·exact .inr ⟨.tail _ (.tail _ (.tail _ hp)),pI p hp⟩)
   have JX:=I1.pin (S,_) (i9 _ (.head _));show wpAny _ X.A.in1 (updateSeq S (fun _=>#[]) >>= _) _ _ _
   refine aQ (wpAny_updateSeq JX.1 rfl (aQ (wpAny_letGo (wpAny_pure ?_))));have s1:=Heap.SameBut.update h' S (Obj.mapSeq fun _=>(#[]:Array Value))
   exact hR i _ H3 (by lia) (fun j' hj'=>qA j' (by lia)) hs (I1.j9 (t':=s.toks) (pb:=pq) F.oS (.head _) (fun b u hb e=>(s1.2 b hb).trans e) fun p hp=>.inr ⟨.tail _ hp,pS p hp⟩)
 | succ r ih =>
   intro j i s H3 d n oI hr hj hij hs I hk hd qA;have Cz:j<es.size:=by lia
   have vE:=I.pin (S,_) (i9 _ (.head _));have JW:=I.pin (It,oI) (i9 _ (.tail _ (.head _)));obtain⟨hob,_⟩:=(show bJ X.prog X.w H3 s.heap a (.mX ob (.dT kvs)) from I.hok a _ (hs _ _ F.ha))
   refine codeAny_builtin PySem.F.entry_min_loop ?_;rw[Around.under_plainId PySem.F.plain_min_loop _];show wpAny _ X.A.in1 (seqItems? (.ref S) >>= _) _ _ _;refine aQ (wpAny_seqItems vE.1 rfl ?_);show wpAny _ X.A.in1 (tryCatch (pyNext (.ref It)) _ >>= _) _ _ _;refine aQ (wpAny_tryCatch (vD JW.1 hk ⟨ob,hob,F.hob⟩ ?_));have hget:(es[j]?:Option DictEntry)=some es[j]:=Array.getElem?_eq_getElem Cz;rw[hget];intro h' HZ VC hk' sb;have I1:=I.j9 (t':=s.toks) (h':=h') (pb:=oq pq S It f (seqObj "list" #[.ref (ka i),.ref d] n) HZ (eJ X params body scope c ctv)) F.oI (List.Mem.tail _ (.head _)) (fun b u hb e=>(sb.2 b hb).trans e) (fun p hp=>by
    rcases List.mem_cons.mp hp with rfl|hp
    ·exact .inr ⟨.head _,F.SI⟩
    ·rcases List.mem_cons.mp hp with rfl|hp
     ·exact .inl ⟨rfl,VC,fun v z=>by rw[hk'.2]at z;cases z⟩
     ·rcases List.mem_cons.mp hp with rfl|hp
      ·exact .inr ⟨.tail _ (.tail _ (.head _)),F.fI⟩
      ·exact .inr ⟨.tail _ (.tail _ (.tail _ hp)),pI p hp⟩)
   rw[F.key j _ hget];show wpAny _ X.A.in1 (tryCatch (holding [.ref (ka j)] (call (.ref f) [.ref (ka j)])) _ >>= _) _ _ _;refine aQ (wpAny_tryCatch (wpAny_holding (wpAny_mono (Bt F Cz hs I1 (List.Mem.tail _ (.tail _ (.head _)))) (fun u s2 hu=>?_) fun _ _ z=>z)))
   obtain⟨d2,H4,rfl,I2,IU,Z7,hd2⟩:=hu;have hdo:aV X.K H4 d ((ks i).map V.int):=Z7.ZE hd;show wpAny _ X.A.in1 (tryCatch (holding [.ref (ka j),.ref d2] (richCompare .Lt (.ref d2) (.ref d) >>= _)) _ >>= _) _ _ _;refine aQ (wpAny_tryCatch (wpAny_holding (aQ (JU I2 hd2 hdo F.un ?_))));refine aQ (wpAny_holding (wpAny_truthy_bool (aQ (wpAny_letGo (wpAny_pure ?_)))));have nq:=I2.pin (S,_) (i9 _ (.head _));cases hl:HT.lexLt (ks j) (ks i) with
   | true =>
     have s1:=Heap.SameBut.update s2.heap S (Obj.mapSeq fun _=>(#[.ref (ka j),.ref d2]:Array Value))
     obtain⟨n2,hn2⟩:∃ n2,(s2.heap.update S (Obj.mapSeq fun _=>(#[.ref (ka j),.ref d2]:Array Value))).get? S=some (seqObj "list" #[.ref (ka j),.ref d2] n2):=⟨_,get?_update_seq nq.1 fun _=>#[.ref (ka j),.ref d2]⟩
     simp only[if_true];refine aQ (wpAny_updateSeq nq.1 rfl (aQ (wpAny_letGo ?_)));rw[hname];have I3:=I2.j9 (t':=s2.toks) (pb:=oq pq S It f (seqObj "list" #[.ref (ka j),.ref d2] n2) HZ (eJ X params body scope c ctv)) F.oS (.head _) (fun b u hb e=>(s1.2 b hb).trans e) (fun p hp=>by
      rcases List.mem_cons.mp hp with rfl|hp
      ·exact .inl ⟨rfl,hn2,fun v z=>by cases z⟩
      ·rcases List.mem_cons.mp hp with rfl|hp
       ·exact .inr ⟨.tail _ (.head _),F.SI.symm⟩
       ·rcases List.mem_cons.mp hp with rfl|hp
        ·exact .inr ⟨.tail _ (.tail _ (.head _)),F.fS⟩
        ·exact .inr ⟨.tail _ (.tail _ (.tail _ hp)),pS p hp⟩)
     refine wpAny_pure ⟨plainId_quiet PySem.F.plain_min_loop _,ih (j+1) j _ H4 d2 n2 HZ (by lia) (by lia) (by lia) IU I3 hk' hd2 fun j' hj'=>?_⟩
     by_cases e:j' = j
     ·rw[e];exact HT.gJ _
     ·exact HT.vC (qA j' (by lia)) hl
   | false =>
     simp only[Bool.false_eq_true,if_false];refine aQ (wpAny_letGo ?_);rw[hname];refine wpAny_pure ⟨plainId_quiet PySem.F.plain_min_loop _,ih (j+1) i _ H4 d n HZ (by lia) (by lia) (by lia) IU I2 hk' hdo fun j' hj'=>?_⟩
     by_cases e:j' = j
     ·rw[e];exact hl
     ·exact qA j' (by lia)
end
theorem boot_min:bootBuiltins "min"=some (.builtin "min"):=by kernel_rfl
def R5(K:bW)(P:Addr)(q:Str)(lp:Pos)(ta:TA)(te:TE)(js:List Nat):TE:=fun σ H Q=>ta σ H fun vs H1=>∃ a kvs,∃ ks:Nat->List Int,vs=[.ref a]/\H1 a=some (.dT kvs)/\0<kvs.length/\H1 P=some (.ju (eI q lp))/\
 (∀ ob H3,(∀ b u,H1 b=some u->b≠a->(∀ y,u≠.own y)->(∀ qs,u≠.ju qs)->H3 b=some u)->H3 a=some (.mX ob (.dT kvs))->
  ∀(i:Nat) kv b,kvs[i]?=some kv->H3 b=some (.tup (kv.1.map kV))->te (some (.ref b)::fJ σ js) H3 fun v H4=>aq H3 H4/\∃ d,v = .ref d/\aV K H4 d ((ks i).map V.int))/\
 ∀(i:Nat) kv b H4,kvs[i]?=some kv->(∀ j,j<kvs.length->HT.lexLt (ks j) (ks i)=false)->aq H1 H4->H4 b=some (.tup (kv.1.map kV))->Q (.ref b) H4
theorem rK{α β:Type}{R:α->β->Prop}:∀{l₁:List α} {l₂:List β},Paired R l₁ l₂->∀{i:Nat} {a:α} {b:β},l₁[i]?=some a->l₂[i]?=some b->R a b
 | _,_,.nil,i,_,_,h,_=>by simp at h
 | _,_,.cons r t,0,_,_,h1,h2=>by
   simp at h1 h2;subst h1 h2;exact r
 | _,_,.cons r t,i+1,_,_,h1,h2=>rK t (by simpa using h1) (by simpa using h2)
section
variable {X:Cx}{params:Arguments}{body e:Expr}{scope:Scope}{lp p pos kp:Pos}{fq:List Str}{js:List Nat}{x:Str}{ta:TA}{te:TE}{c0 P:Addr}{k:Nat}
theorem ML(hr:fH (k+2) X.A)(T:dS X scope [x] fq js)(hx:scope.names.lookup x=some .local)(hg:Gl X "min")(hm:X.mg "min"=none)(hcode:X.env.code = .ref c0)(hK:PySem.W.codeHdIn X.K c0 P=true)(ha:PA X [e] ta)
 (he:∀ f c s H,fH k (vB X ([x]++fq) scope f c X.A.in1 s H).A->PE (vB X ([x]++fq) scope f c X.A.in1 s H) body te)
 (hb:∀ c ctv u,bindArgs (Bm X params body scope c ctv) ⟨[u],[]⟩=pure [(x,u)]:=by intro _ _ _;rfl) (hco:scope.isCoroutine=false:=by rfl) (hgen:scope.isGenerator=false:=by rfl)
 (hdef:defaultsOf params X.env=([],[]):=by rfl)
 (hs:backTo pos (starEach [e] X.env)=(false,eval e X.env)::backTo pos (starEach [] X.env):=by rfl) (hs2:(backTo pos (starEach [e] X.env)).any (·.1)=false:=by rfl) :
 PE X (.Call (.Name "min" p) [e] [⟨some (Str.ofString "key"),.Lambda params body scope lp,kp⟩] pos) (R5 X.K P (X.env.qual ++ "<lambda>") lp ta te js):=by
 intro pq s σ H Q I h;refine wpAny_Call_Name_kw (lD I hg hm boot_min (callWith_kw (dH (ha pos pq s σ H _ I h) fun us s1 hq=>?_) hs hs2 rfl rfl))
 obtain⟨vs,H1,I1,r1,a,kvs,ks,rfl,hda,hne,hP,hturn,Pb⟩:=hq;obtain⟨u,rfl,rx⟩:=vals1 r1;cases rx;refine kws_cons (Bo I1 T hcode hK hP hdef fun f c oc ctv s2 hc Bp hoc J=>kws_nil ?_)
 show wpAny _ X.A (call (.builtin "min") [.ref a] [(Str.ofString "key",.ref f)]) _ _ s2;have hname:(toString "min" ++ toString ".loop":String)="min.loop":=by decide
 have hla:=ur (oc:=oc) hP hc hda (by intro y z;cases z) (by intro y z;cases z)
 obtain⟨hz,hsys,xs,pr,ob,es,ep,hgo,hex,hdat,hes,hnd⟩:=(show bJ X.prog X.w (gp H1 P c oc (X.env.qual ++ "<lambda>") lp) s2.heap a (.dT kvs) from J.hok a _ hla)
 have J2:=J.MK hla hgo;have hsz:es.size=kvs.length:=by
  have:=congrArg List.length hes;rw[List.length_map,<-pr.length]at this
  simpa using this
 have hxs:xs.length=kvs.length:=pr.length.symm;have hka:∀ i,i<kvs.length->∃ kv y,kvs[i]?=some kv/\xs[i]?=some y/\gp H1 P c oc (X.env.qual ++ "<lambda>") lp y.2.1=some (.tup (kv.1.map kV)):=fun i hi=>by
  have e1:kvs[i]?=some kvs[i]:=List.getElem?_eq_getElem hi;have e2:xs[i]?=some (xs[i]'(by lia)):=List.getElem?_eq_getElem _
  exact⟨_,_,e1,e2,(rK pr e1 e2).2.1⟩
 have Pc:gp H1 P c oc (X.env.qual ++ "<lambda>") lp P=some (.ju (eI (X.env.qual ++ "<lambda>") lp++oO lp c)):=ae;have MM:gp H1 P c oc (X.env.qual ++ "<lambda>") lp c=some (.mX oc (.own P)):=by unfold gp;rw[ao Bp,ae]
 have ca:c≠a:=aS MM hla (by intro z;cases z)
 have pa:P≠a:=aS Pc hla (by intro z;cases z)
 generalize L8:upd (gp H1 P c oc (X.env.qual ++ "<lambda>") lp) a (.mX ob (.dT kvs))=H2 at J2;have at2:∀ b u,b≠a->gp H1 P c oc (X.env.qual ++ "<lambda>") lp b=some u->H2 b=some u:=fun b u n e=>by rw[<-L8,ao n];exact e
 have a2:H2 a=some (.mX ob (.dT kvs)):=by rw[<-L8,ae]
 let ka:Nat->Addr:=fun i=>((xs[i]?).map (·.2.1)).getD 0
 have Pd:∀{i:Nat} {y:List Key×Addr×Value},xs[i]?=some y->ka i=y.2.1:=fun {i y} e=>by show((xs[i]?).map (·.2.1)).getD 0=_;rw[e];rfl
 refine kmk_tree PySem.F.kind_min PySem.F.plain_min PySem.F.entry_min (kmk_min_key _ _) ?_;show wpAny _ X.A.in1 (Builtin.Builtins.bindParams "min" ["key","default"] 0 ⟨[],[(Str.ofString "key",.ref f)]⟩ >>= _) _ _ s2;refine aQ (wpAny_of_eq (show Builtin.Builtins.bindParams "min" ["key","default"] 0 ⟨[],[(Str.ofString "key",.ref f)]⟩=pure [some (.ref f),none] from rfl) ?_)
 refine aQ (wpAny_pure (aQ (JS hsys ⟨ob,hgo,hex,hdat⟩ (aQ (wpAny_newList ?_ (Nat.zero_le _))))));rw[hname];refine wpAny_pure ⟨plainId_quiet PySem.F.plain_min_loop _,?_⟩;generalize Pe:({ cls:=.type "dict_keyiterator",data:=.fields #[.ref a,.int 0 0,.int es.size 0,.int ep 0]}:Obj)=oI;have Xa:T5 oI a 0 es.size ep:=by rw[<-Pe];exact⟨rfl,rfl⟩
 have hS:(s2.heap.push oI).objs.size=s2.heap.objs.size+1:=size_push' ..;have hk2:∀ b o,s2.heap.get? b=some o->((s2.heap.push oI).push (seqObj "list" #[] 0)).get? b=some o:=fun b o e=>Heap.get?_push_of_some _ (Heap.get?_push_of_some _ e)
 have gI:((s2.heap.push oI).push (seqObj "list" #[] 0)).get? s2.heap.objs.size=some oI:=Heap.get?_push_of_some _ (Heap.get?_push_size _ (by rw[<-Pe];rfl))
 have gS:((s2.heap.push oI).push (seqObj "list" #[] 0)).get? (s2.heap.push oI).objs.size=some (seqObj "list" #[] 0):=Heap.get?_push_size _ rfl;have MN:∀ p∈(f,eJ X params body scope c ctv)::pq,p.1<s2.heap.objs.size:=fun p hp=>Heap.lt_size (J2.pin p (i9 _ hp)).1
 have NH:=J2.JT (Nat.le_refl s2.heap.objs.size);have oS:=J2.JT (b:=(s2.heap.push oI).objs.size) (by rw[hS];exact Nat.le_succ _)
 have F:Dv X σ H2 params body scope fq js x te f c a s2.heap.objs.size (s2.heap.push oI).objs.size oc ob ctv kvs es ep ka ks P:=by
  refine⟨T,hx,hr.hd,(hr.in1).depth,(hr.in1).CS,fun u=>hb c ctv u,hco,hgen,fun s H=>he f c s H ((hr.in1).deeper _),hoc,at2 c _ ca MM,a2,⟨hex,hdat⟩,fun i e hi=>?_,fun i H3 hi CA=>?_,oS,NH,by rw[hS];exact Nat.succ_ne_self _,?_,Nat.ne_of_lt (MN _ (.head _))⟩
  ·have hi' : i<kvs.length:=by rw[<-hsz];exact(Array.getElem?_eq_some_iff.mp hi).1
   obtain⟨kv,y,e1,e2,_⟩:=hka i hi';have e3:=congrArg (fun l=>l[i]?) hes
   simp only[List.getElem?_map,e2,Option.map_some,Array.getElem?_toList]at e3;rw[hi]at e3;have e4:=Option.some.inj e3;rw[e4,Pd e2];rfl
  ·obtain⟨kv,y,e1,e2,e3⟩:=hka i (by lia)
   refine hturn ob H3 (fun b u eb nb n1 n2=>CA _ _ (at2 b u nb (ur hP hc eb n1 n2))) (CA _ _ a2) i kv (ka i) e1 ?_
   rw[Pd e2];exact CA _ _ (at2 _ _ (aS e3 hla (by intro z;cases z)) e3)
  ·rw[hS];exact Nat.ne_of_lt (Nat.lt_succ_of_lt (MN _ (.head _)))
 have pI:∀ p∈pq,p.1≠s2.heap.objs.size:=fun p hp=>Nat.ne_of_lt (MN p (.tail _ hp))
 have pS:∀ p∈pq,p.1≠(s2.heap.push oI).objs.size:=fun p hp=>by rw[hS];exact Nat.ne_of_lt (Nat.lt_succ_of_lt (MN p (.tail _ hp)))
 have J3:Inv X (oq pq (s2.heap.push oI).objs.size s2.heap.objs.size f (seqObj "list" #[] 0) oI (eJ X params body scope c ctv)) σ H2 { s2 with heap:=(s2.heap.push oI).push (seqObj "list" #[] 0)}:=by
  have K:=J2.kept (t':=s2.toks) hk2;refine K.gD fun p hp=>?_
  rcases List.mem_cons.mp hp with rfl|hp
  ·exact⟨gS,J2.hok.fresh (by rw[hS];exact Nat.le_succ _),oS.2.1,oS.2.2.1,fun v z=>by cases z⟩
  ·rcases List.mem_cons.mp hp with rfl|hp
   ·exact⟨gI,J2.hok.fresh (Nat.le_refl _),NH.2.1,NH.2.2.1,fun v z=>by rw[Xa.2]at z;cases z⟩
   ·exact K.pin p (i9 _ hp)
 have h0:0<es.size:=by lia
 have hget:(es[0]?:Option DictEntry)=some es[0]:=Array.getElem?_eq_getElem h0;have vE:=J3.pin ((s2.heap.push oI).objs.size,seqObj "list" #[] 0) (i9 _ (.head _));have JW:=J3.pin (s2.heap.objs.size,oI) (i9 _ (.tail _ (.head _)));refine codeAny_builtin PySem.F.entry_min_loop ?_;rw[Around.under_plainId PySem.F.plain_min_loop _];show wpAny _ X.A.in1 (seqItems? (.ref _) >>= _) _ _ _;refine aQ (wpAny_seqItems vE.1 rfl ?_);show wpAny _ X.A.in1 (tryCatch (pyNext (.ref s2.heap.objs.size)) _ >>= _) _ _ _;refine aQ (wpAny_tryCatch (vD JW.1 Xa ⟨ob,hk2 _ _ hgo,hex,hdat⟩ ?_));rw[hget];intro h' HZ VC hk' sb;have I4:=J3.j9 (t':=s2.toks) (h':=h') (pb:=oq pq (s2.heap.push oI).objs.size s2.heap.objs.size f (seqObj "list" #[] 0) HZ (eJ X params body scope c ctv)) F.oI (List.Mem.tail _ (.head _)) (fun b u hb e=>(sb.2 b hb).trans e) (fun p hp=>by
  rcases List.mem_cons.mp hp with rfl|hp
  ·exact .inr ⟨.head _,F.SI⟩
  ·rcases List.mem_cons.mp hp with rfl|hp
   ·exact .inl ⟨rfl,VC,fun v z=>by rw[hk'.2]at z;cases z⟩
   ·rcases List.mem_cons.mp hp with rfl|hp
    ·exact .inr ⟨.tail _ (.tail _ (.head _)),F.fI⟩
    ·exact .inr ⟨.tail _ (.tail _ (.tail _ hp)),pI p hp⟩)
 rw[F.key 0 _ hget];show wpAny _ X.A.in1 (tryCatch (holding [.ref (ka 0)] (call (.ref f) [.ref (ka 0)])) _ >>= _) _ _ _;refine aQ (wpAny_tryCatch (wpAny_holding (wpAny_mono (Bt F h0 (aq.refl _) I4 (List.Mem.tail _ (.tail _ (.head _)))) (fun u s3 hu=>?_) fun _ _ z=>z)))
 obtain⟨d2,H4,rfl,I5,IU,_,hd2⟩:=hu;have nq:=I5.pin ((s2.heap.push oI).objs.size,_) (i9 _ (.head _));have s1':=Heap.SameBut.update s3.heap (s2.heap.push oI).objs.size (Obj.mapSeq fun _=>(#[.ref (ka 0),.ref d2]:Array Value))
 obtain⟨n2,hn2⟩:∃ n2,(s3.heap.update (s2.heap.push oI).objs.size (Obj.mapSeq fun _=>(#[.ref (ka 0),.ref d2]:Array Value))).get? (s2.heap.push oI).objs.size=some (seqObj "list" #[.ref (ka 0),.ref d2] n2):=⟨_,get?_update_seq nq.1 fun _=>#[.ref (ka 0),.ref d2]⟩
 show wpAny _ X.A.in1 (updateSeq (s2.heap.push oI).objs.size (fun _=>#[.ref (ka 0),.ref d2]) >>= _) _ _ _
 refine aQ (wpAny_updateSeq nq.1 rfl ?_);rw[hname];have I6:=I5.j9 (t':=s3.toks) (pb:=oq pq (s2.heap.push oI).objs.size s2.heap.objs.size f (seqObj "list" #[.ref (ka 0),.ref d2] n2) HZ (eJ X params body scope c ctv)) F.oS (.head _) (fun b u hb e=>(s1'.2 b hb).trans e) (fun p hp=>by
  rcases List.mem_cons.mp hp with rfl|hp
  ·exact .inl ⟨rfl,hn2,fun v z=>by cases z⟩
  ·rcases List.mem_cons.mp hp with rfl|hp
   ·exact .inr ⟨.tail _ (.head _),F.SI.symm⟩
   ·rcases List.mem_cons.mp hp with rfl|hp
    ·exact .inr ⟨.tail _ (.tail _ (.head _)),F.fS⟩
    ·exact .inr ⟨.tail _ (.tail _ (.tail _ hp)),pS p hp⟩)
 refine wpAny_pure ⟨plainId_quiet PySem.F.plain_min_loop _,JV F pI pS (fun i s' H3 hi best CA I7=>?_) _ 1 0 _ H4 d2 n2 HZ rfl h0 (Nat.lt_succ_self _) IU I6 hk' hd2 fun j hj=>?_⟩
 ·obtain⟨kv,y,e1,e2,e3⟩:=hka i (by lia)
  have i3:=CA _ _ a2;have I8:=Inv.R4 J hla I7 i3;have p3:upd H3 a (.dT kvs) P=some (.ju (eI (X.env.qual ++ "<lambda>") lp++oO lp c)):=by rw[ao pa];exact CA _ _ (at2 _ _ pa Pc)
  have c3:upd H3 a (.dT kvs) c=some (.mX oc (.own P)):=by rw[ao ca];exact CA _ _ (at2 _ _ ca MM)
  have I9:=Bq I1 hP hc Bp hoc I8 p3 c3;have ya:y.2.1≠a:=aS e3 hla (by intro z;cases z)
  have y3:upd H3 a (.dT kvs) y.2.1=some (.tup (kv.1.map kV)):=by rw[ao ya];exact CA _ _ (at2 _ _ ya e3)
  refine⟨.ref (ka i),_,I9,rfl,Pb i kv (ka i) _ e1 (fun j hj=>best j (by lia)) (Br hP hc Bp (oc:=oc) fun b u eb=>?_) ?_⟩
  ·by_cases hb:b=a
   ·subst hb;rw[hla]at eb;rw[ae];exact eb
   ·rw[ao hb];exact CA _ _ (at2 _ _ hb eb)
  ·rw[Pd e2];unfold given;rw[ao (aS y3 p3 (by intro z;cases z)),ao (aS y3 c3 (by intro z;cases z))]
   exact y3
 ·have e:j=0:=by lia
  rw[e];exact HT.gJ _
end
section
variable {P:Program}{w:World}{A:Around}{E:eK}{s:Shared}{a:Addr}{es:Array DictEntry}{ep:Nat}
theorem Pf(hd:(a==sysModules)=false):MeetsIn P w (Builtin.«dict.__len__» ⟨[.ref a],[]⟩) (fun _ R s=>∃ es ep,T4 s.heap a es ep/\R (.ok (.ret (.int es.size s.toks))) { s with toks:=s.toks+1}) :=
 .of_wp fun A R s ⟨es,ep,⟨o,ho,_,hdat⟩,h⟩=>by
  show wpAny _ _ (dictSize a >>= _) _ _ s;unfold dictSize;refine aQ (aQ (wpAny_dictEntries ho hdat (wpAny_pure ?_)));show wpAny _ _ (Builtin.Dict.pendingCount a >>= _) _ _ s;refine aQ (wpAny_pendingCount_other hd (wpAny_ret_mkInt ?_));rw[Nat.add_zero];exact h
theorem GC{Q:eK}(hd:(a==sysModules)=false)(g:T4 s.heap a es ep)(hfit:(es.size:Int)<2^63)(h:Q (.int es.size (s.toks+1)) { s with toks:=s.toks+1+1}):
 wpAny (model P w) A (call (.builtin "len") [.ref a]) Q E s:=by
 have hT:s.TypeIs (.ref a) "dict":=let⟨o,ho,hc,_⟩:=g;⟨o,ho,hc.1⟩;refine Calls.call_function_entry kind_len plain_len entry_len (args_len1 _) ?_;unfold Builtin.«len»;refine aQ (m:=oneArg "len" _) (wpAny_pure ?_);refine aQ (m:=callSpecial? (.ref a) (Str.ofString "__len__")) (wpAny_callSpecial?_slot (name:=Str.ofString "__len__") hT PySem.F.slot_dict_len
  (call_meetsIn PySem.F.slot_dict_len hT PySem.F.entry_dict_len (PySem.F.args_dict_len_1 _) (Pf hd) ⟨es,ep,g,?_⟩))
 show wpAny _ _ _ _ _ { s with toks:=s.toks+1}
 refine aQ (wpAny_holding (wpAny_pure (aQ (wpAny_letGo ?_))));show wpAny _ _ (if((es.size:Nat):Int)<0 then _ else _) _ _ _
 rw[if_neg (by lia)]
 show wpAny _ _ (if((es.size:Nat):Int) ≥ 2^63 then _ else _) _ _ _
 rw[if_neg (by lia)]
 exact aQ (wpAny_mkInt (wpAny_pure ⟨_,rfl,h⟩))
end
theorem erase_filter{K α:Type}[DecidableEq K]{k:K}{p:α}:∀{xs:List (K×α)} {j:Nat},(xs.map (·.1)).Nodup->xs[j]?=some (k,p)->xs.eraseIdx j=xs.filter fun x=>decide (x.1≠k)
 | [],j,_,h=>by simp at h
 | x::r,0,nd,h=>by
   simp at h;subst h;rw[List.map_cons,List.nodup_cons]at nd;rw[List.eraseIdx_cons_zero,List.filter_cons,if_neg (by simp)]
   refine(List.filter_eq_self.mpr fun y hy=>?_).symm
   have z:y.1≠k:=fun z=>nd.1 (List.mem_map.mpr ⟨y,hy,z⟩)
   simp[z]
 | x::r,j+1,nd,h=>by
   rw[List.map_cons,List.nodup_cons]at nd;have h:r[j]?=some (k,p):=by simpa using h
   have hx:x.1≠k:=fun z=>nd.1 (by rw[z];exact List.mem_map_of_mem (f:=(·.1)) (iT h))
   rw[List.eraseIdx_cons_succ,List.filter_cons,if_pos (cD hx),erase_filter nd.2 h]
theorem oY{α β:Type}(f:α->β):∀(l:List α) (i:Nat),(l.map f).eraseIdx i=(l.eraseIdx i).map f
 | [],_=>rfl
 | _::_,0=>rfl
 | x::r,i+1=>by rw[List.map_cons,List.eraseIdx_cons_succ,List.eraseIdx_cons_succ,List.map_cons,oY f r i]
theorem KT.drop{H:Hp}{kvs:List (List Key×V)}{xs:List (List Key×Addr×Value)}(r:KT H kvs xs)(k:List Key):KT H (dW kvs k) (xs.filter fun x=>decide (x.1≠k)):=by
 unfold dW
 induction r with
 | nil=>exact .nil
 | @cons p q ps qs h t ih =>
   rw[List.filter_cons,List.filter_cons]
   by_cases e:p.1=k
   ·rw[if_neg (by simp[e]),if_neg (by simp[h.1.symm.trans e])];exact ih
   ·have e' : ¬ q.1=k:=fun z=>e (h.1.trans z)
    rw[if_pos (by simp[e]),if_pos (by simp[e'])];exact .cons h ih
section
variable {P:Program}{w:World}{A:Around}{E:eK}{s:Shared}{K:Type}[DecidableEq K]{knd:HeapKind P w K}{d b:Addr}{xs:List (K×Addr×Value)}{k:K}{j:Nat}{p:Addr×Value}
theorem Pg{Q:Option DictEntry->Shared->Prop}(hu:knd.room A)(hkey:knd.is s.heap k b)(hm:s.heap.DictOfH knd d xs)(hj:xs[j]?=some (k,p))(hsz:xs.length<=sizeLine)
 (h:∀ e h' o' es' Ex,e.val=p.2->h'.get? d=some o'->o'.ExactDict->o'.data = .dict es' Ex->es'.toList=(xs.eraseIdx j).map (entryOfKey knd)->Heap.SameBut d s.heap h'->Q (some e) { s with heap:=h',toks:=s.toks+knd.draws k}) :
 wpAny (model P w) A (Builtin.Dict.takeOut d (.ref b)) Q E s:=by
 obtain⟨o,es,ep,ho,hc,hd,he,his,hn⟩:=hm;unfold Builtin.Dict.takeOut
 try with_reducible refine wpAny_holding ?_
 refine aQ (knd.pyHash hu hkey (aQ (wpAny_dictFind_heap (s:={ s with toks:=s.toks+knd.draws k}) hu hkey ho hd he his hn (fun hno=>absurd hj (hno j p)) fun j' p' hj'=>?_)))
 have Z8:j' = j:=idxH_unique hn hj' hj;subst Z8;refine aQ (wpAny_dictEntries (s:={ s with toks:=s.toks+knd.draws k}) ho hd ?_)
 rw[entry_at he j',hj];refine aQ (wpAny_updateDictKeys (hz:=by have e:=size_of_entries he;lia) (s:={ s with toks:=s.toks+knd.draws k}) ho hd (wpAny_pure (h _ _ _ _ (ep+1) rfl (Heap.get?_update_self _ ho (Obj.isFreed_of_dict (Obj.data_mapDictKeys hd _))) (hc.mapDictKeys _) (Obj.data_mapDictKeys hd _) ?_ (Heap.SameBut.update ..))))
 rw[<-oY,<-he];obtain⟨l⟩:=es;simp
theorem R6{Q:eK}(hu:knd.room A.in1)(hkey:knd.is s.heap k b)(hm:s.heap.DictOfH knd d xs)(hj:xs[j]?=some (k,p))(hsz:xs.length<=sizeLine)
 (h:∀ h' o' es' Ex,h'.get? d=some o'->o'.ExactDict->o'.data = .dict es' Ex->es'.toList=(xs.eraseIdx j).map (entryOfKey knd)->Heap.SameBut d s.heap h'->Q p.2 { s with heap:=h',toks:=s.toks+knd.draws k}) :
 wpAny (model P w) A (call (.builtin "dict.pop") [.ref d,.ref b]) Q E s:=by
 have hT:=hm.typeIs;refine wpAny_call_entry PySem.F.slot_dict_pop hT PySem.F.entry_dict_pop ?_ (PySem.F.args_dict_pop_2 _ _);unfold Builtin.«dict.pop» Builtin.Dict.keyAndDefault;refine aQ (aQ (wpAny_notOrdered_dict hT ?_));show wpAny _ _ (pure (d,Value.ref b,(none:Option Value))) _ _ s;refine wpAny_pure ?_;obtain⟨o,es,ep,ho,hc,hd,he,his,hn⟩:=id hm;have hne:es.isEmpty=false:=by
  have e:=size_of_entries he;have hl:=(jQ.mp hj).1;rw[Array.isEmpty_eq_false_iff_exists_mem];exact⟨es[j]'(by lia),Array.getElem_mem _⟩
 have hkp:(keyPart (Value.ref b)).isSome=false:=rfl;simp only[hkp,Bool.false_eq_true,if_false];refine aQ (wpAny_dictEntries ho hd (aQ (wpAny_pure ?_)));rw[hne];simp only[Bool.false_eq_true,if_false];refine aQ (Pg hu hkey hm hj hsz fun e h' o' es' Ex e1 e2 e3 e4 e5 e6=>?_)
 simp only[Option.isNone_some,Bool.false_eq_true,if_false];refine aQ (wpAny_letGo (wpAny_pure ⟨e.val,rfl,?_⟩));rw[e1];exact h h' o' es' Ex e2 e3 e4 e5 e6
end
section
variable {X:Cx}{pq:aR}{σ:St}{H:Hp}{s:Shared}
theorem VD:gE X (.builtin "len") (fun xs H Q=>∃ a kvs,xs=[.ref a]/\Rd H a (.dT kvs)/\Q (.int kvs.length) H):=by
 intro pq s σ H xs us Q I r h;obtain⟨a,kvs,rfl,e,q⟩:=h;obtain⟨u,rfl,rx⟩:=vals1 r;cases rx;obtain⟨z,hsys,ys,pr,ob,es,ep,hgo,hex,hdat,hes,hnd⟩:=(show bJ X.prog X.w H s.heap a (.dT kvs) from e.ok I.hok)
 have hsz:es.size=kvs.length:=by
  have:=congrArg List.length hes;rw[List.length_map,<-pr.length]at this
  simpa using this
 refine GC hsys ⟨ob,hgo,hex,hdat⟩ (by rw[hsz];rw[sizeLine_eq]at z;lia) ?_
 rw[hsz];exact⟨.int kvs.length,H,I.tok _,⟨_,rfl⟩,q⟩
def Ph(td ty:TE):TE:=fun σ H Q=>td σ H fun x H1=>∃ a,x = .ref a/\Vv H1 a/\ty σ H1 fun y H2=>∃ kvs k b v,H2 a=some (.dT kvs)/\y = .ref b/\H2 b=some (.tup (k.map kV))/\eR kvs k=some v/\Q v (upd H2 a (.dT (dW kvs k)))
theorem Pj{A:Around}{E:eK}{a b:Addr}{kvs:List (List Key×V)}{k:List Key}{v:V}{Q:eK}(hu:A.units+1<cLine)(I:Inv X pq σ H s)(e:H a=some (.dT kvs))(eb:H b=some (.tup (k.map kV)))(l:eR kvs k=some v)
 (h:∀ w' s',Inv X pq σ (upd H a (.dT (dW kvs k))) s'->RelV v w'->Q w' s'):wpAny (model X.prog X.w) A (call (.builtin "dict.pop") [.ref a,.ref b]) Q E s:=by
 obtain⟨z,hd,xs,rel,dd⟩:=Jq I.hok e;have hv:=rel.val k;rw[l]at hv;obtain⟨w',hw,rw'⟩:=qP.some_of hv;obtain⟨p,Xb,Qp⟩:=wH.mp hw;obtain⟨j,hj⟩:∃ j,xs[j]?=some (k,p):=by
  unfold atKey at Xb;obtain⟨y,Xc,Z9⟩:=wH.mp Xb;have hk:=List.find?_some Xc;have hm:=List.mem_of_find?_eq_some Xc;obtain⟨j,hj⟩:=List.getElem?_of_mem hm;have hk' : y.1=k:=i8 hk;exact⟨j,by rw[hj,<-hk',<-Z9]⟩
 have hnd:(xs.map (·.1)).Nodup:=let⟨_,_,_,_,_,_,_,_,hn⟩:=dd;hn;refine R6 (tupleKind_room_in1 hu) (rg I.hok eb) dd hj (by rw[<-rel.length];exact z) fun h' o' es' Ex g1 g2 g3 g4 sb=>?_
 rw[Qp];refine h w' _ ?_ rw';have hne:∀ b ys,H b=some (.tup ys)->upd H a (.dT (dW kvs k)) b=some (.tup ys):=fun b ys q=>by rw[ao (aS q e (by intro z;cases z))];exact q
 rw[erase_filter hnd hj]at g4;refine uo I (by rw[e];exact True.intro) sb ⟨o',g1⟩ ⟨Nat.le_trans (Jp kvs k) z,hd,_,(rel.drop k).keeps hne,o',es',Ex,g1,g2,g3,g4,?_⟩
 exact hnd.sublist (List.filter_sublist.map _)
variable {o e:Expr}{apos cpos:Pos}{td ty:TE}
theorem JY(hu:X.A.units+1<cLine)(ho:PE X o td)(he:PE X e ty)(m:M1 X o "pop" apos e cpos):PE X (.Call (.Attribute o "pop" apos) [e] [] cpos) (Ph td ty):=by
 intro pq s σ H Q I h;refine wpAny_Call_method m.base m.few m.line PySem.F.plainAttrs_dict PySem.F.slot_dict_pop PySem.F.type_dict_pop (dH (ho pq s σ H _ I h) fun u s1 ⟨x,H1,I1,rx,a,ex,d,q1⟩=>?_)
 subst ex;obtain rfl:u=Value.ref a:=rx;obtain⟨t1,t2,_⟩:=Ju I1 d;refine⟨t1,t2,?_⟩;rw[m.trees];refine Calls.callWith_builtin rfl (Calls.evalArgs_plain (Calls.spliced_cons (dH (he pq s1 σ H1 _ I1 q1) fun iv s2 ⟨y,H2,I2,ry,kvs,k,b,v,ea,ey,eb,l,q2⟩=>Calls.spliced_nil ?_)))
 subst ey;obtain rfl:iv=Value.ref b:=ry;exact Pj hu I2 ea eb l fun w' s3 I3 rw'=>⟨v,_,I3,rw',q2⟩
def Pk(tk tv:TE):TE:=fun σ H Q=>∀ p,H p=none->tk σ (upd H p (.dT [])) fun y H1=>tv σ H1 fun v H2=>∃ b k,y = .ref b/\H2 b=some (.tup (k.map kV))/\H2 p=some (.dT [])/\Q (.ref p) (upd H2 p (.dT [(k,v)]))
end
section
variable {X:Cx}{k v:Expr}{pos:Pos}{tk tv:TE}
theorem JZ(hu:X.A.units+1<cLine)(hk:PE X k tk)(hv:PE X v tv):PE X (.Dict [some k] [v] pos) (Pk tk tv):=by
 intro pq s σ H Q I q;have hn:=I.hok.fresh (Nat.le_refl s.heap.objs.size);have I1:=I.laid (a:=s.heap.objs.size) (o:=.dT []) (h':=s.heap.push { cls:=.type "dict",data:=.dict #[]}) (t':=s.toks) (fun _ _ q=>Heap.get?_push_of_some _ q) (Nat.le_refl _) (Jt s.heap I.big)
 rw[arm_eval_Dict,zip_pairTrees [some k] [v] X.env pos rfl rfl,dictDisplay_pairs (pairTrees [some k] [v] X.env pos) (by intro z;cases z) (show 1<17 by decide)]
 refine aQ (wpAny_standAt (aQ ?_));unfold subDict;refine aQ (wpAny_alloc (aQ (wpAny_holding ?_)));rw[if_pos (show(pairTrees [some k] [v] X.env pos).length<=15 from(show 1<=15 by decide))]
 refine aQ (pairTrees_cons_walk (dH (hk pq _ σ _ _ I1 (q _ hn)) fun u s1 ⟨y,H1,I2,ry,q1⟩=>dH (hv pq s1 σ H1 _ I2 q1) fun u2 s2 ⟨vv,H2,I3,rv,b,ks,ey,eb,ep,q2⟩=>pairTrees_nil_walk ?_))
 subst ey;obtain rfl:u=Value.ref b:=ry;obtain⟨z,hd,xs,rel,dd⟩:=Jq I3.hok ep;cases rel;refine wpAny_holding (aQ ?_);rw[List.forIn_cons];refine aQ (aQ (wpAny_dictSet_heap (hsz:=Nat.zero_le _) (show X.A.units<cLine from Nat.lt_of_succ_lt hu) (rg I3.hok eb) dd fun h' Qu hs=>wpAny_pure ?_))
 show wpAny _ _ (forIn [] PUnit.unit _) _ _ _;rw[List.forIn_nil];refine wpAny_pure (wpAny_pure (wpAny_pure (wpAny_pure ?_)));obtain⟨o',es',Ex,g1,g2,g3,g4,g5,g6⟩:=Qu;have hb:upd H2 s.heap.objs.size (.dT [(ks,vv)]) b=some (.tup (ks.map kV)):=by
  rw[ao (aS eb ep (by intro z;cases z))]
  exact eb
 have new:bJ X.prog X.w (upd H2 s.heap.objs.size (.dT [(ks,vv)])) h' s.heap.objs.size (.dT [(ks,vv)]):=⟨(show 1<=sizeLine by decide),hd,[(ks,b,u2)],.cons ⟨rfl,hb,rv⟩ .nil,o',es',Ex,g1,g2,g3,g4,g6⟩
 exact⟨.ref s.heap.objs.size,_,uo I3 (by rw[ep];exact True.intro) hs ⟨o',g1⟩ new,rfl,q2⟩
end
end L2
namespace HT
open PySem PyProof.Rows
def MO(a b c d:Int):Bool:=if a=c then(if b=d then true else decide (b<=d)) else decide (a<=c)
theorem zh(a b c d:Int):MO a b c d=true↔a<c\/(a=c/\b<=d):=by
 unfold MO
 by_cases h:a=c
 ·rw[if_pos h]
  by_cases h2:b=d
  ·rw[if_pos h2];simp[h,h2]
  ·rw[if_neg h2];simp only[decide_eq_true_eq];lia
 ·rw[if_neg h];simp only[decide_eq_true_eq];lia
theorem J0(A:Around)(s:Shared)(a:Int)(t:Tok)(c:Int)(u:Tok)(prog:Program)(w:World)(E:eK)(Q:eK)(h:Q (.bool (decide (a<=c))) s):
 wpAny (model prog w) A (richCompare .LtE (.int a t) (.int c u)) Q E s :=
 (PyProof.Rows.le_int h:wpAny (model prog w) A (compareOp .LtE (.int a t) (.int c u)) Q E s)
section
open PySem.SeqAt
open PySem.AutoSeq1 (wpAny_loadPart')
open PySem.MeetsSeq PySem.MeetsSeq2 PySem.MeetsSeq3
theorem GD(l b:Addr)(items items2:Array Value)(n n2:Nat)(dd dd2:Option Addr)(sl sl2:Array (Option Value))(x1 y1 x2 y2:Int)(t1 u1 t2 u2:Tok)(hi:items.toList=[.int x1 t1,.int y1 u1])(hj:items2.toList=[.int x2 t2,.int y2 u2]):
 Meets (Builtin.«tuple.__le__» ⟨[.ref l,.ref b],[]⟩)
  (fun _ R s=>s.heap.get? l=some { cls:=.type "tuple",dict:=dd,data:=.seq items n,slots:=sl}/\s.heap.get? b=some { cls:=.type "tuple",dict:=dd2,data:=.seq items2 n2,slots:=sl2}/\
   R (.ok (.ret (.bool (MO x1 y1 x2 y2)))) s) :=
 .of_wp fun prog w A R s h=>by
  obtain⟨hp,g,d,tk,os⟩:=s;obtain⟨hl,hb,h⟩:=h;have f2:=AutoSeq1.sub_tuple_tuple;have z1:items.size=2:=by rw[<-Array.length_toList,hi];rfl
  have z2:items2.size=2:=by rw[<-Array.length_toList,hj];rfl
  wp_walk using wpAny_loadPart' hl,wpAny_loadPart' hb,wpAny_forIn_list _ (fun rest b s'=>b.1=none/\s' = ⟨hp,g,d,tk,os⟩/\
   ((rest=[((Value.int x1 t1:Value),(Value.int x2 t2:Value)),(.int y1 u1,.int y2 u2)]/\R (.ok (.ret (.bool (MO x1 y1 x2 y2)))) ⟨hp,g,d,tk,os⟩)\/
    (rest=[((Value.int y1 u1:Value),(Value.int y2 u2:Value))]/\R (.ok (.ret (.bool (if y1=y2 then true else decide (y1<=y2))))) ⟨hp,g,d,tk,os⟩)\/(rest=[]/\R (.ok (.ret (.bool true))) ⟨hp,g,d,tk,os⟩))) _
  case turn =>
   rintro⟨y,x⟩ rest b s' ⟨hb',rfl,hh⟩;obtain⟨a,c,t,u,vv,hy,hx,hR,hN⟩:∃(a c:Int) (t u:Tok) (vv:Bool),y = .int a t/\x = .int c u/\R (.ok (.ret (.bool (if a=c then vv else decide (a<=c))))) ⟨hp,g,d,tk,os⟩/\
    (R (.ok (.ret (.bool vv))) ⟨hp,g,d,tk,os⟩->(rest=[((Value.int y1 u1:Value),(Value.int y2 u2:Value))]/\R (.ok (.ret (.bool (if y1=y2 then true else decide (y1<=y2))))) ⟨hp,g,d,tk,os⟩)\/(rest=[]/\R (.ok (.ret (.bool true))) ⟨hp,g,d,tk,os⟩)):=by
    rcases hh with⟨hz,hR⟩|⟨hz,hR⟩|⟨hz,_⟩
    ·injection hz with ha hr
     obtain⟨hy,hx⟩:=Prod.mk.inj ha;exact⟨x1,x2,t1,t2,_,hy,hx,hR,fun VE=>.inl ⟨hr,VE⟩⟩
    ·injection hz with ha hr
     obtain⟨hy,hx⟩:=Prod.mk.inj ha;exact⟨y1,y2,u1,u2,true,hy,hx,hR,fun VE=>.inr ⟨hr,VE⟩⟩
    ·cases hz
   subst hy hx;obtain⟨e,he,Iz⟩:=Ax A.in1 ⟨hp,g,d,tk,os⟩ a t c u;refine wpAny_bind (he prog w _ _ ?_);cases e with
   | true =>
     rw[if_pos (Iz.mp rfl)]at hR
     wp_walk
     exact⟨rfl,rfl,.inr (hN hR)⟩
   | false =>
     rw[if_neg (fun q=>absurd (Iz.mpr q) Bool.false_ne_true)]at hR
     have Ou:=J0 A.in1 ⟨hp,g,d,tk,os⟩ a t c u prog w
     wp_walk using Ou
     exact⟨_,rfl,by simpa using hR⟩
  case fin =>
   rintro⟨b1,b2⟩ s' ⟨hb',rfl,hh⟩;simp only at hb';subst hb';rcases hh with⟨hz,_⟩|⟨hz,_⟩|⟨_,hR⟩
   ·cases hz
   ·cases hz
   ·wp_walk
    refine⟨_,rfl,?_⟩
    simpa[Builtin.Tuple.tupleCompareSizes,z1,z2]using hR
  case h =>
   refine⟨rfl,rfl,.inl ⟨?_,h⟩⟩;rw[hi,hj];rfl
end
section
variable {prog:Program}{w:World}{A:Around}{E:eK}{s:Shared}
theorem J7{l b:Addr}{items items2:Array Value}{x1 y1 x2 y2:Int}{Q:eK}(hl:IsTup s.heap l items)(hb:IsTup s.heap b items2)(hi:IntsAre items.toList [x1,y1])(hj:IntsAre items2.toList [x2,y2])
 (hu:A.units<cLine) (h:Q (.bool (MO x1 y1 x2 y2)) s):wpAny (model prog w) A (compareOp .LtE (.ref l) (.ref b)) Q E s:=by
 obtain⟨⟨cls,dd,data,sl⟩,ho,hc,n,hd⟩:=id hl;obtain⟨⟨Ri,dd2,data2,sl2⟩,ho2,hc2,n2,hd2⟩:=id hb;simp only at hc hd hc2 hd2;subst hc hd hc2 hd2;have two:∀{vs:List Value} {a c:Int},IntsAre vs [a,c]->∃ t u,vs=[.int a t,.int c u]:=fun {vs a c} q=>by
  cases q with
  | cons n t r=>cases r with
    | cons n' t' r'=>cases r';exact⟨t,t',rfl⟩
 obtain⟨t1,u1,e1⟩:=two hi;obtain⟨t2,u2,e2⟩:=two hj;exact richCompare_meets_room (op:=.LtE) ⟨_,ho,rfl⟩ ⟨_,ho2,rfl⟩ PySem.F.slot_tuple_le PySem.F.entry_tuple_le (PySem.F.args_tuple_le_2 _ _) (GD l b items items2 n n2 dd dd2 sl sl2 x1 y1 x2 y2 t1 u1 t2 u2 e1 e2)
  ⟨ho,ho2,show Value.bool (MO x1 y1 x2 y2)≠Value.notImplemented/\Q (.bool (MO x1 y1 x2 y2)) s from⟨(fun x=>nomatch x),h⟩⟩ hu
end
end HT
namespace L2
open PySem PySem.Spec PyProof.Rows
section
variable {X:Cx}
def VF(K:bW):R2:=fun x y H Q=>∃ a b x1 y1 x2 y2,x = .ref a/\y = .ref b/\aV K H a [.int x1,.int y1]/\aV K H b [.int x2,.int y2]/\Q (.bl (HT.MO x1 y1 x2 y2)) H
theorem Pn(hu:X.A.units<cLine):mU X (compareOp .LtE) (VF X.K):=by
 intro pq s σ H x y v u Q I rx ry h;obtain⟨a,b,x1,y1,x2,y2,rfl,rfl,ha,hb,q⟩:=h;cases rx;cases ry;obtain⟨its,r1,p1,_⟩:=I.tuple ha;obtain⟨its2,r2,p2,_⟩:=I.tuple hb;exact HT.J7 p1 p2 (intsAre_of (ns:=[x1,y1]) r1) (intsAre_of (ns:=[x2,y2]) r2) hu ⟨.bl (HT.MO x1 y1 x2 y2),H,I,rfl,q⟩
end
abbrev tN:=List (Addr×Str×Pos)
structure TabsOk(K:bW)(h:Heap)(tb:tN):Prop where
 nd:(tb.map (·.1)).Nodup
 mt:∀ p∈tb,h.get? p.1=some (PySem.W.tabObj #[])
 code:∀ p∈tb,∃ c,PySem.W.CodeHd h c p.1
 out:∀ p∈tb,K.lookup p.1=none
def TabsAt(tb:tN)(H:Hp):Prop:=∀ p∈tb,H p.1=some (.ju (eI p.2.1 p.2.2))
def Bu(tb:tN):Hp:=fun b=>(tb.find? fun p=>p.1==b).map fun p=>.ju (eI p.2.1 p.2.2)
theorem ou{tb:tN}{b:Addr}{u:HO}(e:Bu tb b=some u):∃ p∈tb,p.1=b/\u = .ju (eI p.2.1 p.2.2):=by
 unfold Bu at e;obtain⟨p,h1,h2⟩:=wH.mp e;have h3:(p.1==b)=true:=List.find?_some (p:=fun p:Addr×Str×Pos=>p.1==b) h1
 exact⟨p,List.mem_of_find?_eq_some h1,eq_of_beq h3,h2.symm⟩
theorem zj:∀{tb:tN},(tb.map (·.1)).Nodup->TabsAt tb (Bu tb)
 | [],_=>fun p hp=>nomatch hp
 | q::r,nd=>fun p hp=>by
   rw[List.map_cons,List.nodup_cons]at nd;rcases List.mem_cons.mp hp with rfl|hp
   ·unfold Bu;rw[List.find?_cons_of_pos (by simp)];rfl
   ·have ne:(q.1==p.1)=false:=beq_eq_false_iff_ne.mpr fun z=>nd.1 (by rw[z];exact List.mem_map_of_mem hp)
    unfold Bu;rw[List.find?_cons_of_neg (by rw[ne];exact Bool.false_ne_true)]
    exact zj nd.2 p hp
theorem GF{P:Program}{w:World}{K:bW}{mg mb:oQ}{CX:HV}{k:Nat}{fa a:Addr}{fd:FuncData}{x:Str}{sp:Sp}{s₁:Shared}{vs:List Value}{ns:List Int}{tb:tN}
 (KX:K.In s₁.heap) (TB:TabsOk K s₁.heap tb) (hns:s₁.heap.Ns mainGlobals mg) (hb:s₁.heap.Ns builtinsNs mb) (T6:∀ x:Str,x≠"__name__"->mb x=bootBuiltins x) (hlim:s₁.heap.NoLimit)
 (hbm:∃ bm ob,mg "__builtins__"=some (.ref bm)/\bm≠builtinsNs/\s₁.heap.get? bm=some ob/\ob.cls = .type "module"/\ob.dict=some builtinsNs/\ob.data = .plain) (hg:s₁.gens = #[])
 (ha:s₁.heap.get? a=some { cls:=.type "list",data:=.seq vs.toArray}) (hi:IntsAre vs ns) (hl:ns.length<=sizeLine) (hr:fH k callerA)
 (F:∀ base:Heap,K.In base->base.Ns mainGlobals mg->m5 P w K mg base CX k fa fd [x] sp) (hbind:∀(s:Shared) (u:Value),BindsTo s fd ⟨[u],[]⟩ [(x,u)])
 (qO:∀ H:Hp,TabsAt tb H->aM K H a (ns.map V.int)->sp [.ref a] H (fun v _=>v = .bl true) fun _ _ _=>False)
 (VG:∀ H e s',CX [] H s₁ (fun _ _ _=>False) e s'->False) :
 codeAny (model P w) callerA (.call (.ref fa) ⟨[.ref a],[]⟩) (fun r s'=>r = .ok (.ret (.bool true))/\OldK s₁.heap s'.heap/\s'.os=s₁.os/\AllBare s'.gens) s₁:=by
 have rv:=xT hi;have VH:=hi.length;have aT:∀ p∈tb,p.1≠a:=fun p hp z=>by
  have:=TB.mt p hp;rw[z,ha]at this;cases this
 let fz:HO:=.mX { cls:=.type "list",data:=.seq vs.toArray} (.lst (ns.map V.int))
 have core:∀ H:Hp,aM K H a (ns.map V.int)->TabsAt tb H->nV P w H s₁.heap->(∀ b u,H b=some u->(b=a/\K.lookup a=none/\u=fz)\/∃ p∈tb,p.1=b/\u = .ju (eI p.2.1 p.2.2))->
  codeAny (model P w) callerA (.call (.ref fa) ⟨[.ref a],[]⟩) (fun r s'=>r = .ok (.ret (.bool true))/\OldK s₁.heap s'.heap/\s'.os=s₁.os/\AllBare s'.gens) s₁:=by
  intro H hS hT hok hA;have free:∀{b:Addr} {o:Obj},s₁.heap.get? b=some o->(∀ xs n,o.data≠.seq xs n)->(∀ xs,o.data≠.fields xs)->H b=none:=fun {b o} e n1 n2=>by
   cases q:H b with
   | none=>rfl
   | some u =>
     rcases hA b u q with⟨z,_⟩|⟨p,hp,z,_⟩
     ·rw[z,ha]at e;cases e;exact absurd rfl (n1 _ _)
     ·rw[<-z,TB.mt p hp]at e;cases e;exact absurd rfl (n2 _)
  have T7:∀{b:Addr} {m:oQ},s₁.heap.Ns b m->(Aq s₁.heap H).Ns b m:=fun {b m} ⟨o,es,ep,e,d,r⟩=>⟨o,es,ep,ux e (free e (by intro _ _ z;rw[d]at z;cases z) (by intro _ z;rw[d]at z;cases z)),d,r⟩
  have Xd:K.In (Aq s₁.heap H):=fun b o e=>ux (KX b o e) (by
   cases q:H b with
   | none=>rfl
   | some u =>
     rcases hA b u q with⟨z,n,_⟩|⟨p,hp,z,_⟩
     ·rw[z,n]at e;cases e
     ·rw[<-z,TB.out p hp]at e;cases e)
  have hM:Mod K mg (Aq s₁.heap H):=⟨Xd,T7 hns,⟨mb,T7 hb,T6⟩,(let⟨mc,h1,h2⟩:=hlim;⟨mc,T7 h1,h2⟩),
   let⟨bm,ob,b1,b2,b3,b4,b5,b6⟩:=hbm;⟨bm,ob,b1,b2,ux b3 (free b3 (by intro _ _ z;rw[b6]at z;cases z) (by intro _ z;rw[b6]at z;cases z)),b4,b5,b6⟩⟩
  have e0:LU P w K mg (Aq s₁.heap H) callerA [] s₁ H:=⟨rfl,hM,fun b o e=>LI e,Nat.le_of_eq (FI _ _),trivial,fun b hb=>absurd (show b∈([]:List Addr) from hb) (by simp),hok,.of_eq hg⟩
  refine codeAny_mono ((F _ Xd (T7 hns)).run callerA [] s₁ H ⟨[.ref a],[]⟩ [.ref a] [.ref a] _ _ hr e0 (hbind s₁ (.ref a)) (.cons rfl .nil) (qO H hT hS)) fun r s' h=>?_
  cases r with
  | error e=>exact(VG H e s' h).elim
  | ok fl =>
    cases fl with
    | next=>exact False.elim h
    | brk=>exact False.elim h
    | cont=>exact False.elim h
    | ret u =>
      obtain⟨v,H',os,bare,un,R7,r',q⟩:=h;have q' : v = .bl true:=q;subst q';obtain rfl:u=Value.bool true:=r';have all:∀ b o,s₁.heap.get? b=some o->s'.heap.get? b=some o\/∃ p∈tb,p.1=b/\∃ ps,s'.heap.get? b=some (PySem.W.tabObj ps):=fun b o e=>by
       cases q:H b with
       | none=>exact .inl (un.keep b o e q (by intro z;exact absurd (show b∈([]:List Addr) from z) (by simp)) (by simp))
       | some u =>
         rcases hA b u q with⟨z,_,z2⟩|⟨p,hp,z,z2⟩
         ·rw[z2]at q;obtain⟨e1,_⟩:=hok b _ q;obtain⟨e2,_⟩:=R7 b _ (un.lC b _ _ q);rw[e]at e1;cases e1;exact .inl e2
         ·rw[z2]at q;obtain⟨more,q2⟩:=un.mY b _ q;obtain⟨ps,e2,_⟩:=R7 b _ q2;exact .inr ⟨p,hp,z,ps,e2⟩
      refine⟨rfl,⟨fun b o e=>?_,fun b o e=>?_⟩,os,bare⟩
      ·rcases all b o e with z|⟨p,hp,z,ps,e2⟩
       ·exact .inl z
       ·obtain⟨c,hc⟩:=TB.code p hp;have e1:=TB.mt p hp;subst z;rw[e]at e1;cases e1;exact .inr (.inl ⟨(hc.tab e).isCodeTable,rfl,#[],ps,rfl,by rw[e2,Array.empty_append]⟩)
      ·rcases all b o e with z|⟨p,hp,z,ps,e2⟩
       ·exact⟨o,z⟩
       ·exact⟨_,e2⟩
 have tok:∀{H:Hp} {b:Addr} {p},p∈tb->p.1=b->bJ P w H s₁.heap b (.ju (eI p.2.1 p.2.2)):=fun {H b p} hp z=>⟨#[],by rw[<-z];exact TB.mt p hp,.inl ⟨rfl,.inl rfl⟩⟩
 cases hk:K.lookup a with
 | some o =>
   have e:=KX a o hk;rw[ha]at e;cases e;refine core (Bu tb) (.inr ⟨_,vs.toArray,_,hk,rfl,rfl,rfl,by rw[List.size_toArray,VH];exact hl,by simpa using rv⟩) (zj TB.nd) (fun b u e=>?_) fun b u e=>.inr (ou e)
   obtain⟨p,hp,z,rfl⟩:=ou e;exact tok hp z
 | none =>
   refine core (fun b=>if b=a then some fz else Bu tb b) (.inl (.inr ⟨{ cls:=.type "list",data:=.seq vs.toArray},if_pos rfl⟩)) (fun p hp=>?_) (fun b u e=>?_) fun b u e=>?_
   ·show(if p.1=a then some fz else Bu tb p.1)=_
    rw[if_neg (aT p hp)];exact zj TB.nd p hp
   ·by_cases hb:b=a
    ·have z:=(if_pos hb).symm.trans e;cases z;subst hb;exact⟨ha,by rw[List.length_map];exact hl,vs,_,rv,ha⟩
    ·have z:=(if_neg hb).symm.trans e;obtain⟨p,hp,z2,rfl⟩:=ou z;exact tok hp z2
   ·by_cases hb:b=a
    ·have z:=(if_pos hb).symm.trans e;exact .inl ⟨hb,hk,(Option.some.inj z).symm⟩
    ·exact .inr (ou ((if_neg hb).symm.trans e))
theorem J8{l:PySem.W.OpenLaw}{n k:Nat}{q:Program}{loose:List Str}{XP:(Str->Option Value)->Heap->Prop}{YP:World->Heap->Prop}{d:DefRec}{K:Params->bW}{CX:World->HV}{sp:World->tN->Sp}{x:Str}{ts:List Addr}
 (hn:l.most=some n) (hn2:n<=sizeLine) (Rr:d.params.defaults=[]) (hr:fH k callerA)
 (hY:∀(w:World) (h:Heap),YP w h->(K w.params).In h/\∀ P∈ts,h.get? P=some (PySem.W.tabObj #[]))
 (F:∀(w:World) (mg:oQ) (fa:Addr) (h:Heap),(K w.params).In h->h.Ns mainGlobals mg->mg d.name=some (.ref fa)->
  ∃(fd:FuncData) (tb:tN),((tb.map (·.1)).Nodup/\PySem.W.noTabs (K w.params)=true/\∀ p∈tb,p.1∈ts/\∃ c,PySem.W.codeHdIn (K w.params) c p.1=true)/\(∀(s:Shared) (u:Value),BindsTo s fd ⟨[u],[]⟩ [(x,u)])/\
   ∀ base:Heap,(K w.params).In base->base.Ns mainGlobals mg->m5 l.prog w (K w.params) mg base (CX w) k fa fd [x] (sp w tb))
 (qO:∀(w:World) (H:Hp) (a:Addr) (ns:List Int) (tb:tN),ns.length<=n->TabsAt tb H->aM (K w.params) H a (ns.map V.int)->sp w tb [.ref a] H (fun v _=>v = .bl true) fun _ _ _=>False)
 (VG:∀(w:World) (H:Hp) (s:Shared) (e:Value) (s' : Shared),CX w [] H s (fun _ _ _=>False) e s'->False) :
 PySem.W.WalkO q loose XP YP l.row.toRowW d [] (fun f vs=>PySem.call f vs):=by
 refine Att.AA hn Rr fun w s₀ s₁ mg mb fa o pm cd doc a vs ns G Y ho hd hcd hmg hobj hints hlen hg=>?_
 obtain⟨KX,hts⟩:=hY w _ Y;obtain⟨fd,tb,⟨nd,nt,ht⟩,hb,hF⟩:=F w mg fa _ KX G.T.g hmg;have TB:TabsOk (K w.params) s₁.heap tb:=⟨nd,fun p hp=>hts _ (ht p hp).1,fun p hp=>let⟨_,c,e⟩:=ht p hp;⟨c,PySem.W.codeHd_of_K KX e⟩,fun p hp=>by
  cases e:(K w.params).lookup p.1 with
  | none=>rfl
  | some ob =>
    have e1:=KX _ _ e;rw[hts _ (ht p hp).1]at e1;cases e1;have z:=List.all_eq_true.mp nt (p.1,PySem.W.tabObj #[]) (PySem.W.mem_of_lookupK e);exact absurd (show false=true from z) Bool.false_ne_true⟩
 exact GF KX TB G.T.g G.T.b G.T.builtins G.T.nolimit G.T.bmain hg hobj hints (Nat.le_trans hlen hn2) hr hF hb (fun H hT hS=>qO w H a ns tb hlen hT hS) fun H e s'=>VG w H s₁ e s'
def nu(f:Str):Str:=f ++ ".<locals>." ++ "<lambda>"
structure Dw(K:bW)(x qual:Str)(st:Stmt)(f:Addr)(fd:FuncData)(c0 P:Addr):Prop where
 ex:∃(oc:Value) (od:Option Addr) (kV doc pm:Value) (an:Option Addr) (ct:Value) (osl:Array (Option Value)),
  fd=PySem.W.fnOf x qual (eM st) (b9 st) (ai st) .none kV doc pm an (.ref c0) ct/\K.lookup f=some ⟨oc,od,.func fd,osl⟩/\PySem.W.codeIn K (.ref c0) qual=true
 kp:PySem.W.keepIn K (.ref f)=true
 hd:PySem.W.codeHdIn K c0 P=true
section
variable {P:Program}{w:World}{K:bW}{mg:oQ}{base:Heap}{x qual:Str}{st:Stmt}{f c0 p0:Addr}{fd:FuncData}
theorem Dw.ok{N ps:List Str}{k:Nat}{sp:Sp}(F:Dw K x qual st f fd c0 p0)(S:aD N ps (ai st))(len:∀ vs H Q E,sp vs H Q E->vs.length=ps.length)
 (hbody:∀(A:Around) (outer:List Env) (s:Shared) (H:Hp) (vs:List V) (Q:VK) (E:XK),fH k (A.deeper (envOfC qual (ai st) s.heap.objs.size f (.ref c0)))->sp vs H Q E->
  ∃ t,xJ (tI EJ P w K mg base N qual (ai st) f (.ref c0) A outer s H E).Cy (b9 st) t/\t { nx:=fun _ H'=>Q .fD H',rt:=Q} (start N vs) H):m5 P w K mg base EJ (k+1) f fd ps sp:=by
 obtain⟨oc,od,kV,doc,pm,an,ct,osl,rfl,lk,hcd⟩:=F.ex;refine Iv lk hcd S len fun A outer s H vs Q E hr qO=>?_
 obtain⟨t,h,q⟩:=hbody A outer s H vs Q E hr qO;exact⟨t,h.Cy,q⟩
theorem Dw.binds{ps:List Str}(F:Dw K x qual st f fd c0 p0)
 (h:∀(kV doc pm:Value) (an:Option Addr) (cdv ct:Value) (us:List Value),us.length=ps.length->bindArgs (PySem.W.fnOf x qual (eM st) (b9 st) (ai st) .none kV doc pm an cdv ct) ⟨us,[]⟩=pure (ps.zip us)):Binds K fd ps []:=by
 obtain⟨oc,od,kV,doc,pm,an,ct,osl,rfl,lk,hcd⟩:=F.ex;exact .all (h kV doc pm an (.ref c0) ct)
theorem MP{oc:Value}{od an:Option Addr}{osl:Array (Option Value)}{kV doc pm ct:Value}(l:K.lookup f=some ⟨oc,od,.func (PySem.W.fnOf x qual (eM st) (b9 st) (ai st) .none kV doc pm an (.ref c0) ct),osl⟩)
 (c:PySem.W.codeIn K (.ref c0) qual=true) (k:PySem.W.keepIn K (.ref f)=true) (hd:PySem.W.codeHdIn K c0 p0=true):Dw K x qual st f (PySem.W.fnOf x qual (eM st) (b9 st) (ai st) .none kV doc pm an (.ref c0) ct) c0 p0 :=
 ⟨⟨oc,od,kV,doc,pm,an,ct,osl,rfl,l,c⟩,k,hd⟩
end
end L2
namespace RM
abbrev OW:=Nat->Bool->Option (Int×Nat)
def jK(F:OW)(x:Nat)(s:Bool)(d:Int×Nat):OW:=fun y t=>if y=x/\t=s then some d else F y t
def zk(F:OW)(x:Nat)(s:Bool):OW:=fun y t=>if y=x/\t=s then none else F y t
theorem bV(F:OW)(x:Nat)(s:Bool)(d:Int×Nat):jK F x s d x s=some d:=if_pos ⟨rfl,rfl⟩
theorem bC{F:OW}{x y:Nat}{s t:Bool}{d:Int×Nat}(h : ¬(y=x/\t=s)):jK F x s d y t=F y t:=if_neg h
theorem uv(F:OW)(x:Nat)(s:Bool):zk F x s x s=none:=if_pos ⟨rfl,rfl⟩
theorem oz{F:OW}{x y:Nat}{s t:Bool}(h : ¬(y=x/\t=s)):zk F x s y t=F y t:=if_neg h
def Wz(N:Net)(L:Nat->Int)(m u v:Nat)(s:Bool)(z:Int)(e:Nat):Prop:=∃ pre,Wl N L m u pre v s z e
structure Dj(N:Net)(L:Nat->Int)(m u:Nat)(F W:OW)(now:Option (Nat×Bool))(done:Nat->Nat->Prop):Prop where
 fw:∀ x s d,F x s=some d->Wz N L m u x s d.1 d.2
 ww:∀ x s d,W x s=some d->Wz N L m u x s d.1 d.2
 dj:∀ x s d,W x s=some d->F x s=none
 le:∀ x s d y t d',F x s=some d->W y t=some d'->d.1<=d'.1
 mx:∀ x s d y t d',now=some (x,s)->F x s=some d->F y t=some d'->d'.1<=d.1
 cl:∀ x s d k y,F x s=some d->k<N.n->Jn N k x y->(now=some (x,s)->done k y)->∃ d',(F y (s^^m.testBit k)=some d'\/W y (s^^m.testBit k)=some d')/\d'.1<=d.1+L k
 st:∃ d,(F u false=some d\/W u false=some d)/\d.1<=0
section
variable {N:Net}{L:Nat->Int}{m u:Nat}{F W:OW}
theorem Dj.start:Dj N L m u (fun _ _=>none) (jK (fun _ _=>none) u false (0,0)) none (fun _ _=>False):=by
 refine⟨fun _ _ _ h=>(nomatch h),fun x s d h=>?_,fun _ _ _ _=>rfl,fun _ _ _ _ _ _ h=>(nomatch h),fun _ _ _ _ _ _ h=>(nomatch h),fun _ _ _ _ _ h=>(nomatch h),⟨(0,0),.inr (bV _ _ _ _),Int.le_refl _⟩⟩
 by_cases e:x=u/\s=false
 ·obtain⟨rfl,rfl⟩:=e;rw[bV]at h;cases h;exact⟨[],.nil⟩
 ·rw[bC e]at h;cases h
theorem Dj.pop(h:Dj N L m u F W none (fun _ _=>False)){x:Nat}{s:Bool}{d:Int×Nat}(e:W x s=some d)(hmin:∀ y t d',W y t=some d'->d.1<=d'.1):Dj N L m u (jK F x s d) (zk W x s) (some (x,s)) (fun _ _=>False):=by
 have hF:=h.dj x s d e;have of:∀ y t d',jK F x s d y t=some d'->(y=x/\t=s/\d' = d)\/F y t=some d':=fun y t d' q=>by
  by_cases z:y=x/\t=s
  ·obtain⟨rfl,rfl⟩:=z;rw[bV]at q;exact .inl ⟨rfl,rfl,(Option.some.inj q).symm⟩
  ·rw[bC z]at q;exact .inr q
 have ow:∀ y t d',zk W x s y t=some d'->¬(y=x/\t=s)/\W y t=some d':=fun y t d' q=>by
  by_cases z:y=x/\t=s
  ·obtain⟨rfl,rfl⟩:=z;rw[uv]at q;cases q
  ·rw[oz z]at q;exact⟨z,q⟩
 have moved:∀ y t d',F y t=some d'\/W y t=some d'->jK F x s d y t=some d'\/zk W x s y t=some d':=fun y t d' q=>by
  by_cases z:y=x/\t=s
  ·obtain⟨rfl,rfl⟩:=z;rcases q with q|q
   ·rw[hF]at q;cases q
   ·rw[e]at q;cases q;exact .inl (bV _ _ _ _)
  ·rw[bC z,oz z];exact q
 refine⟨fun y t d' q=>?_,fun y t d' q=>h.ww y t d' (ow y t d' q).2,fun y t d' q=>?_,fun y t d' y2 t2 d2 q q2=>?_,fun y t d' y2 t2 d2 hn q q2=>?_,fun y t d' k y2 q hk hj hd=>?_,?_⟩
 ·rcases of y t d' q with⟨rfl,rfl,rfl⟩|q
  ·exact h.ww _ _ _ e
  ·exact h.fw y t d' q
 ·obtain⟨z,q⟩:=ow y t d' q;rw[bC z];exact h.dj y t d' q
 ·obtain⟨_,q2⟩:=ow y2 t2 d2 q2;rcases of y t d' q with⟨_,_,rfl⟩|q
  ·exact hmin _ _ _ q2
  ·exact h.le _ _ _ _ _ _ q q2
 ·cases hn;rw[bV]at q;cases q;rcases of y2 t2 d2 q2 with⟨_,_,rfl⟩|q2
  ·exact Int.le_refl _
  ·exact h.le _ _ _ _ _ _ q2 e
 ·rcases of y t d' q with⟨rfl,rfl,rfl⟩|q
  ·exact(hd rfl).elim
  ·obtain⟨d2,q2,l2⟩:=h.cl y t d' k y2 q hk hj (fun z=>nomatch z)
   exact⟨d2,moved _ _ _ q2,l2⟩
 ·obtain⟨d2,q2,l2⟩:=h.st;exact⟨d2,moved _ _ _ q2,l2⟩
theorem Dj.put{done:Nat->Nat->Prop}{x:Nat}{s:Bool}(h:Dj N L m u F W (some (x,s)) done){d:Int×Nat}{k y:Nat}(e:F x s=some d)(hk:k<N.n)(hL:0<=L k)(hj:Jn N k x y)(hF:F y (s^^m.testBit k)=none)
 (hW:∀ d',W y (s^^m.testBit k)=some d'->d.1+L k<=d'.1):Dj N L m u F (jK W y (s^^m.testBit k) (d.1+L k,d.2^^^2^k)) (some (x,s)) (fun k' y'=>done k' y'\/(k' = k/\y' = y)):=by
 have ow:∀ v t d',jK W y (s^^m.testBit k) (d.1+L k,d.2^^^2^k) v t=some d'->(v=y/\t=(s^^m.testBit k)/\d' = (d.1+L k,d.2^^^2^k))\/W v t=some d':=fun v t d' q=>by
  by_cases z:v=y/\t=(s^^m.testBit k)
  ·obtain⟨rfl,rfl⟩:=z;rw[bV]at q;exact .inl ⟨rfl,rfl,(Option.some.inj q).symm⟩
  ·rw[bC z]at q;exact .inr q
 have moved:∀ v t d',F v t=some d'\/W v t=some d'->∃ d2,(F v t=some d2\/jK W y (s^^m.testBit k) (d.1+L k,d.2^^^2^k) v t=some d2)/\d2.1<=d'.1:=fun v t d' q=>by
  rcases q with q|q
  ·exact⟨d',.inl q,Int.le_refl _⟩
  ·by_cases z:v=y/\t=(s^^m.testBit k)
   ·obtain⟨rfl,rfl⟩:=z;exact⟨_,.inr (bV _ _ _ _),hW d' q⟩
   ·exact⟨d',.inr (by rw[bC z];exact q),Int.le_refl _⟩
 refine⟨h.fw,fun v t d' q=>?_,fun v t d' q=>?_,fun v t d' v2 t2 d2 q q2=>?_,h.mx,fun v t d' k2 y2 q hk2 Lw hd=>?_,?_⟩
 ·rcases ow v t d' q with⟨rfl,rfl,rfl⟩|q
  ·obtain⟨pre,w⟩:=h.fw x s d e;exact⟨_,w.go hk hj⟩
  ·exact h.ww v t d' q
 ·rcases ow v t d' q with⟨rfl,rfl,rfl⟩|q
  ·exact hF
  ·exact h.dj v t d' q
 ·rcases ow v2 t2 d2 q2 with⟨rfl,rfl,rfl⟩|q2
  ·have:=h.mx x s d v t d' rfl e q;show d'.1<=d.1+L k
   lia
  ·exact h.le _ _ _ _ _ _ q q2
 ·by_cases hd2:some (x,s)=some (v,t)->done k2 y2
  ·obtain⟨d2,q2,l2⟩:=h.cl v t d' k2 y2 q hk2 Lw hd2;obtain⟨d3,q3,l3⟩:=moved _ _ _ q2;exact⟨d3,q3,Int.le_trans l3 l2⟩
  ·have hn:some (x,s)=some (v,t):=Classical.byContradiction fun z=>hd2 fun z2=>absurd z2 z
   rcases hd hn with z|⟨rfl,rfl⟩
   ·exact absurd (fun _=>z) hd2
   ·cases hn;rw[e]at q;cases q;exact⟨_,.inr (bV _ _ _ _),Int.le_refl _⟩
 ·obtain⟨d2,q2,l2⟩:=h.st;obtain⟨d3,q3,l3⟩:=moved _ _ _ q2;exact⟨d3,q3,Int.le_trans l3 l2⟩
theorem Dj.skip{done:Nat->Nat->Prop}{x:Nat}{s:Bool}(h:Dj N L m u F W (some (x,s)) done){d d2:Int×Nat}{k y:Nat}(e:F x s=some d)(hL:0<=L k)(q2:F y (s^^m.testBit k)=some d2\/(W y (s^^m.testBit k)=some d2/\d2.1<=d.1+L k)):
 Dj N L m u F W (some (x,s)) (fun k' y'=>done k' y'\/(k' = k/\y' = y)):=by
 refine⟨h.fw,h.ww,h.dj,h.le,h.mx,fun v t d' k2 y2 q hk2 Lw hd=>?_,h.st⟩
 by_cases hd2:some (x,s)=some (v,t)->done k2 y2
 ·exact h.cl v t d' k2 y2 q hk2 Lw hd2
 ·have hn:some (x,s)=some (v,t):=Classical.byContradiction fun z=>hd2 fun z2=>absurd z2 z
  rcases hd hn with z|⟨rfl,rfl⟩
  ·exact absurd (fun _=>z) hd2
  ·cases hn;rw[e]at q;cases q;rcases q2 with q2|⟨q2,l2⟩
   ·have:=h.mx x s d _ _ d2 rfl e q2;exact⟨d2,.inl q2,by lia⟩
   ·exact⟨d2,.inr q2,l2⟩
theorem Dj.all{done:Nat->Nat->Prop}{x:Nat}{s:Bool}(h:Dj N L m u F W (some (x,s)) done)(ha:∀ k y,k<N.n->Jn N k x y->done k y):Dj N L m u F W none (fun _ _=>False) :=
 ⟨h.fw,h.ww,h.dj,h.le,fun _ _ _ _ _ _ z=>(nomatch z),fun v t d k y q hk hj _=>h.cl v t d k y q hk hj fun z=>by cases z;exact ha k y hk hj,h.st⟩
theorem Dj.best(h:Dj N L m u F W none (fun _ _=>False))(hW:∀ x s,W x s=none)(x:Nat)(s:Bool):Gy N L m u x s ((F x s).map (·.1)):=by
 have low:∀{pre:List Nat} {v e:Nat} {t:Bool} {z:Int},Wl N L m u pre v t z e->∃ d,F v t=some d/\d.1<=z:=fun {pre v e t z} w=>by
  induction w with
  | nil =>
    obtain⟨d,q,l⟩:=h.st;rcases q with q|q
    ·exact⟨d,q,l⟩
    ·rw[hW]at q;cases q
  | @go pre v w k e s z _ hk hj ih =>
    obtain⟨d,q,l⟩:=ih;obtain⟨d2,q2,l2⟩:=h.cl _ _ d k _ q hk hj (fun z=>nomatch z)
    rcases q2 with q2|q2
    ·exact⟨d2,q2,by lia⟩
    ·rw[hW]at q2;cases q2
 cases q:F x s with
 | none =>
   intro z ⟨_,_,w⟩;obtain⟨d,q2,_⟩:=low w;rw[q]at q2;cases q2
 | some d =>
   obtain⟨pre,w⟩:=h.fw x s d q;refine⟨⟨_,_,w⟩,fun z ⟨_,_,w2⟩=>?_⟩
   obtain⟨d2,q2,l2⟩:=low w2;rw[q]at q2;cases q2;exact l2
end
end RM
namespace L2
open PySem Ring
abbrev ky(x:Nat)(s:Bool):List Key:=[.inl (x:Int),.inl (s.toNat:Int)]
theorem Dy{x y:Nat}{s t:Bool}(h:ky x s=ky y t):x=y/\s=t:=by
 injection h with h1 h2
 injection h2 with h2 _
 injection h1 with h1
 injection h2 with h2
 refine⟨by lia,?_⟩
 cases s<;>cases t<;>first | rfl | (simp at h2)
def wV(H:Hp):Option (Int×Nat)->V->Prop
 | none,v=>v = .fD
 | some d,v=>∃ c,v = .ref c/\H c=some (.tup [.int d.1,.int (d.2:Int)])
theorem wV.tups{H H' : Hp}{o:Option (Int×Nat)}{v:V}(h:wV H o v)(s:dG H H'):wV H' o v:=by
 cases o with
 | none=>exact h
 | some d=>obtain⟨c,e,q⟩:=h;exact⟨c,e,s _ _ q⟩
structure vF(p:Nat)(H0:Hp)(D wd:Addr)(es:List Addr)(kvs:List (List Key×V))(F W:RM.OW)(H:Hp):Prop where
 same:aq H0 H
 nd:es.Nodup
 ne:D∉es
 fr:∀ b∈es,H0 b=none
 Dn:H0 D=none
 wn:H0 wd=none
 wD:wd≠D
 wE:wd∉es
 lst:H D=some (.lst (es.map V.ref))
 at_:∀ i b,es[i]?=some b->∃ v0 v1,H b=some (.lst [v0,v1])/\wV H (F i false) v0/\wV H (F i true) v1
 dt:H wd=some (.dT kvs)
 kn:(kvs.map (·.1)).Nodup
 keys:∀ kv∈kvs,∃ x s,x<p/\kv.1=ky x s
 out:∀ x s d,W x s=some d->x<p
 val:∀ x s,(W x s=none/\eR kvs (ky x s)=none)\/∃ d c,W x s=some d/\eR kvs (ky x s)=some (.ref c)/\H c=some (.tup [.int d.1,.int (d.2:Int)])
section
variable {p:Nat}{H0 H H' : Hp}{D wd:Addr}{es:List Addr}{kvs:List (List Key×V)}{F W:RM.OW}
theorem vF.go(h:vF p H0 D wd es kvs F W H)(s:aq H H'):vF p H0 D wd es kvs F W H' :=
 ⟨h.same.trans s,h.nd,h.ne,h.fr,h.Dn,h.wn,h.wD,h.wE,s _ _ h.lst,fun i b e=>let⟨v0,v1,a,b1,c⟩:=h.at_ i b e;⟨v0,v1,s _ _ a,b1.tups s.tups,c.tups s.tups⟩,s _ _ h.dt,h.kn,h.keys,h.out,
  fun x t=>(h.val x t).imp (fun z=>z) fun⟨d,c,a,b,e⟩=>⟨d,c,a,b,s _ _ e⟩⟩
theorem vF.len(h:vF p H0 D wd es kvs F W H):kvs.length<=2*p:=by
 have hn:=h.kn;have hk:=h.keys
 let code:List Key->Nat:=fun k=>match k with | [.inl x,.inl s]=>2*x.toNat+s.toNat | _=>0
 have inj:∀ a∈kvs.map (·.1),∀ b∈kvs.map (·.1),code a=code b->a=b:=fun a ha b hb e=>by
  obtain⟨u,hu,rfl⟩:=List.mem_map.mp ha;obtain⟨v,hv,rfl⟩:=List.mem_map.mp hb;obtain⟨x,s,_,ex⟩:=hk u hu;obtain⟨y,t,_,ey⟩:=hk v hv;rw[ex,ey]at e ⊢;have e:2*((x:Int)).toNat+((s.toNat:Int)).toNat=2*((y:Int)).toNat+((t.toNat:Int)).toNat:=e;rw[Int.toNat_natCast,Int.toNat_natCast,Int.toNat_natCast,Int.toNat_natCast]at e;have hs:s.toNat<2:=by cases s<;>decide
  have ht:t.toNat<2:=by cases t<;>decide
  have e1:x=y:=by lia
  have e2:s.toNat=t.toNat:=by lia
  have e3:s=t:=by cases s<;>cases t<;>first | rfl | (simp at e2)
  rw[e1,e3]
 have nd:((kvs.map (·.1)).map code).Nodup:=by
  revert inj
  generalize kvs.map (·.1)=l at hn;intro inj
  induction hn with
  | nil=>exact List.nodup_nil
  | @cons a l h1 h2 ih =>
    rw[List.map_cons,List.nodup_cons];refine⟨fun hm=>?_,ih fun a ha b hb e=>inj a (kU _ ha) b (kU _ hb) e⟩
    obtain⟨b,hb,e⟩:=List.mem_map.mp hm;exact h1 b hb (inj a List.mem_cons_self b (kU _ hb) e.symm)
 have sub:∀ c∈(kvs.map (·.1)).map code,c∈List.range (2*p):=fun c hc=>by
  obtain⟨a,ha,rfl⟩:=List.mem_map.mp hc;obtain⟨u,hu,rfl⟩:=List.mem_map.mp ha;obtain⟨x,s,hx,ex⟩:=hk u hu;rw[ex,List.mem_range];show 2*((x:Int)).toNat+((s.toNat:Int)).toNat<2*p;rw[Int.toNat_natCast,Int.toNat_natCast];have hs:s.toNat<2:=by cases s<;>decide
  lia
 have:=nd.length_le_of_subset sub
 simpa using this
theorem vF.row(h:vF p H0 D wd es kvs F W H){i:Nat}(hi:i<es.length):∃ b v0 v1,(es.map V.ref)[i]?=some (.ref b)/\es[i]?=some b/\H b=some (.lst [v0,v1])/\wV H (F i false) v0/\wV H (F i true) v1:=by
 have e:es[i]?=some es[i]:=List.getElem?_eq_getElem hi;obtain⟨v0,v1,a,b,c⟩:=h.at_ i _ e;exact⟨es[i],v0,v1,by rw[List.getElem?_map,e];rfl,e,a,b,c⟩
theorem rL{κ:Type}[DecidableEq κ](k j:κ):∀ kvs:List (κ×V),eR (dW kvs k) j=if j=k then none else eR kvs j
 | []=>by rw[show dW ([]:List (κ×V)) k=[] from rfl,ve];split<;>rfl
 | q::r=>by
   by_cases e:q.1=k
   ·rw[yf e,rL k j r]
    by_cases e2:j=k
    ·rw[if_pos e2,if_pos e2]
    ·rw[if_neg e2,if_neg e2,cB (fun z=>e2 (z.symm.trans e))]
   ·rw[yg e]
    by_cases e3:q.1=j
    ·rw[cQ e3,if_neg (fun z=>e (e3.trans z)),cQ e3]
    ·rw[cB e3,rL k j r,cB e3]
theorem vF.take(h:vF p H0 D wd es kvs F W H){x:Nat}{s:Bool}{d:Int×Nat}{b c:Addr}{v0 v1:V}(e:W x s=some d)(hc:H c=some (.tup [.int d.1,.int (d.2:Int)]))(hb:es[x]?=some b)(hv:H b=some (.lst [v0,v1])):
 vF p H0 D wd es (dW kvs (ky x s)) (RM.jK F x s d) (RM.zk W x s) (upd (upd H wd (.dT (dW kvs (ky x s)))) b (.lst (([v0,v1]:List V).set s.toNat (.ref c)))):=by
 have hm:=iT hb;have bw:b≠wd:=fun z=>h.wE (z▸hm)
 have bD:D≠b:=fun z=>h.ne (z▸hm)
 have tp:dG H (upd (upd H wd (.dT (dW kvs (ky x s)))) b (.lst (([v0,v1]:List V).set s.toNat (.ref c)))):=fun a ys q=>by
  rw[ao (aS q hv (by intro z;cases z)),ao (aS q h.dt (by intro z;cases z))]
  exact q
 refine⟨(h.same.put h.wn).put (h.fr b hm),h.nd,h.ne,h.fr,h.Dn,h.wn,h.wD,h.wE,by rw[ao bD,ao (Ne.symm h.wD)];exact h.lst,fun i b' hb'=>?_,by rw[ao (Ne.symm bw),ae],vf h.kn,fun kv hkv=>h.keys kv (yh hkv),fun y t d' q=>?_,fun y t=>?_⟩
 ·by_cases ei:i=x
  ·subst ei;rw[hb]at hb';cases hb';obtain⟨w0,w1,q1,q2,q3⟩:=h.at_ _ _ hb;rw[hv]at q1;cases q1;cases s with
   | false=>exact⟨.ref c,v1,ae,by rw[RM.bV];exact⟨c,rfl,tp _ _ hc⟩,by rw[RM.bC (fun z=>by cases z.2)];exact q3.tups tp⟩
   | true=>exact⟨v0,.ref c,ae,by rw[RM.bC (fun z=>by cases z.2)];exact q2.tups tp,by rw[RM.bV];exact⟨c,rfl,tp _ _ hc⟩⟩
  ·have bb:b'≠b:=fun z=>by
    subst z;obtain⟨h1,h2⟩:=jQ.mp hb';obtain⟨h3,h4⟩:=jQ.mp hb;exact ei ((List.getElem_inj h.nd).mp (h2.trans h4.symm))
   obtain⟨w0,w1,q1,q2,q3⟩:=h.at_ _ _ hb';exact⟨w0,w1,by rw[ao bb,ao (show b'≠wd from fun z=>h.wE (z▸iT hb'))];exact q1,by rw[RM.bC (fun z=>ei z.1)];exact q2.tups tp,by rw[RM.bC (fun z=>ei z.1)];exact q3.tups tp⟩
 ·by_cases z:y=x/\t=s
  ·obtain⟨rfl,rfl⟩:=z;rw[RM.uv]at q;cases q
  ·rw[RM.oz z]at q;exact h.out y t d' q
 ·rw[rL]
  by_cases z:y=x/\t=s
  ·obtain⟨rfl,rfl⟩:=z;exact .inl ⟨RM.uv _ _ _,if_pos rfl⟩
  ·rw[RM.oz z,if_neg (fun q=>z (Dy q))]
   rcases h.val y t with q|⟨d',c',q1,q2,q3⟩
   ·exact .inl q
   ·exact .inr ⟨d',c',q1,q2,tp _ _ q3⟩
theorem vF.wait(h:vF p H0 D wd es kvs F W H){x:Nat}{s:Bool}{d:Int×Nat}{c:Addr}(hx:x<p)(hc:H c=some (.tup [.int d.1,.int (d.2:Int)])):
 vF p H0 D wd es (putK kvs (ky x s) (.ref c)) F (RM.jK W x s d) (upd H wd (.dT (putK kvs (ky x s) (.ref c)))):=by
 have tp:dG H (upd H wd (.dT (putK kvs (ky x s) (.ref c)))):=fun a ys q=>by
  rw[ao (aS q h.dt (by intro z;cases z))]
  exact q
 have NI:(∀ kv∈putK kvs (ky x s) (.ref c),∃ x s,x<p/\kv.1=ky x s)/\((putK kvs (ky x s) (.ref c)).map (·.1)).Nodup:=by
  cases q:eR kvs (ky x s) with
  | none =>
    refine⟨fun kv hkv=>?_,Mw _ h.kn q⟩
    rw[A7 _ q]at hkv;rcases List.mem_append.mp hkv with z|z
    ·exact h.keys kv z
    ·rw[List.mem_singleton.mp z];exact⟨x,s,hx,rfl⟩
  | some v =>
    have hany:(kvs.any fun kv=>decide (kv.1=ky x s))=true:=by rw[iO,q];rfl
    have e:putK kvs (ky x s) (.ref c)=kvs.map fun kv=>if kv.1=ky x s then(kv.1,.ref c) else kv:=by unfold putK;rw[if_pos hany]
    have ek:(putK kvs (ky x s) (.ref c)).map (·.1)=kvs.map (·.1):=by
     rw[e,List.map_map];refine List.map_congr_left fun kv _=>?_
     show(if kv.1=ky x s then(kv.1,V.ref c) else kv).1=kv.1
     split<;>rfl
    refine⟨fun kv hkv=>?_,by rw[ek];exact h.kn⟩
    have hm:kv.1∈kvs.map (·.1):=by rw[<-ek];exact List.mem_map_of_mem hkv
    obtain⟨Xe,h1,h2⟩:=List.mem_map.mp hm;rw[<-h2];exact h.keys Xe h1
 refine⟨h.same.put h.wn,h.nd,h.ne,h.fr,h.Dn,h.wn,h.wD,h.wE,by rw[ao (Ne.symm h.wD)];exact h.lst,fun i b hb=>?_,ae,NI.2,NI.1,fun y t d' q=>?_,fun y t=>?_⟩
 ·obtain⟨w0,w1,q1,q2,q3⟩:=h.at_ _ _ hb;exact⟨w0,w1,by rw[ao (show b≠wd from fun z=>h.wE (z▸iT hb))];exact q1,q2.tups tp,q3.tups tp⟩
 ·by_cases z:y=x/\t=s
  ·rw[z.1];exact hx
  ·rw[RM.bC z]at q;exact h.out y t d' q
 ·rw[Jo]
  by_cases z:y=x/\t=s
  ·obtain⟨rfl,rfl⟩:=z;exact .inr ⟨d,c,RM.bV _ _ _ _,if_pos rfl,tp _ _ hc⟩
  ·rw[RM.bC z,if_neg (fun q=>z (Dy q))]
   rcases h.val y t with q|⟨d',c',q1,q2,q3⟩
   ·exact .inl q
   ·exact .inr ⟨d',c',q1,q2,tp _ _ q3⟩
end
abbrev jL(m:Nat)(H:Hp)(c:Addr)(kw:Nat×Nat):Prop:=H c=some (.tup [.int (kw.1:Int),.int (kw.2:Int),.int ((m.testBit kw.1).toNat:Int)])
structure GG(m:Nat)(H0:Hp)(D:Addr)(es:List Addr)(S:Nat->List (Nat×Nat))(H:Hp):Prop where
 same:aq H0 H
 nd:es.Nodup
 ne:D∉es
 fr:∀ b∈es,H0 b=none
 Dn:H0 D=none
 lst:H D=some (.lst (es.map V.ref))
 at_:∀ i b,es[i]?=some b->∃ cs,H b=some (.lst (cs.map V.ref))/\Paired (jL m H) cs (S i)
section
variable {m:Nat}{H0 H H' : Hp}{D b:Addr}{es:List Addr}{S:Nat->List (Nat×Nat)}{i:Nat}
theorem GG.go(h:GG m H0 D es S H)(s:aq H H'):GG m H0 D es S H' :=
 ⟨h.same.trans s,h.nd,h.ne,h.fr,h.Dn,s _ _ h.lst,fun i b e=>let⟨cs,a,q⟩:=h.at_ i b e;⟨cs,s _ _ a,Paired.yH q fun _ _ z=>s _ _ z⟩⟩
def vG(S:Nat->List (Nat×Nat))(x:Nat)(kw:Nat×Nat):Nat->List (Nat×Nat):=fun i=>if i=x then S i++[kw] else S i
theorem GG.get(h:GG m H0 D es S H)(hi:i<es.length):∃ b cs,(es.map V.ref)[i]?=some (.ref b)/\es[i]?=some b/\H b=some (.lst (cs.map V.ref))/\Paired (jL m H) cs (S i):=by
 have e:es[i]?=some es[i]:=List.getElem?_eq_getElem hi;obtain⟨cs,a,q⟩:=h.at_ i _ e;exact⟨es[i],cs,by rw[List.getElem?_map,e];rfl,e,a,q⟩
theorem GG.put(h:GG m H0 D es S H){cs:List Addr}{c:Addr}{kw:Nat×Nat}(hb:es[i]?=some b)(hcs:H b=some (.lst (cs.map V.ref)))(q:Paired (jL m H) cs (S i))(hc:jL m H c kw):
 GG m H0 D es (vG S i kw) (upd H b (.lst (cs.map V.ref++[.ref c]))):=by
 have hm:=iT hb;have hne:D≠b:=fun z=>h.ne (z▸hm)
 have tp:∀ c kw,jL m H c kw->jL m (upd H b (.lst (cs.map V.ref++[.ref c]))) c kw:=fun c kw z=>by
  show upd H b _ c=_;rw[ao (aS z hcs (by intro z;cases z))]
  exact z
 have tp' : ∀ x kw,jL m H x kw->jL m (upd H b (.lst (cs.map V.ref++[.ref c]))) x kw:=fun x kw z=>by
  show upd H b _ x=_;rw[ao (aS z hcs (by intro z;cases z))]
  exact z
 refine⟨h.same.put (h.fr b hm),h.nd,h.ne,h.fr,h.Dn,by rw[ao hne];exact h.lst,fun j b' hb'=>?_⟩
 by_cases e:j=i
 ·subst e;rw[hb]at hb';cases hb';refine⟨cs++[c],by rw[ae];simp,?_⟩
  unfold vG;rw[if_pos rfl];exact Paired.snoc (Paired.yH q fun _ _ z=>tp' _ _ z) (tp' _ _ hc)
 ·have bb:b'≠b:=fun z=>by
   subst z;obtain⟨h1,h2⟩:=jQ.mp hb';obtain⟨h3,h4⟩:=jQ.mp hb;exact e ((List.getElem_inj h.nd).mp (h2.trans h4.symm))
  obtain⟨cs',q1,q2⟩:=h.at_ j b' hb';refine⟨cs',by rw[ao bb];exact q1,?_⟩
  unfold vG;rw[if_neg e];exact Paired.yH q2 fun _ _ z=>tp' _ _ z
theorem GG.off(h:GG m H0 D es S H){L:Addr}(hL:H L=none):L∉es:=fun z=>by
 obtain⟨j,hj⟩:=List.getElem?_of_mem z;obtain⟨_,q,_⟩:=h.at_ j L hj;rw[hL]at q;cases q
def NJ(m:Nat)(H0:Hp)(D:Addr)(i:Nat)(acc:List V)(H:Hp):Prop:=∃ es,acc=es.map V.ref/\es.length=i/\GG m H0 D es (fun _=>[]) H
theorem NJ.start(hD:H0 D=none):NJ m H0 D 0 [] (upd H0 D (.lst [])) :=
 ⟨[],rfl,rfl,aq.new hD,List.nodup_nil,List.not_mem_nil,fun _ h=>(List.not_mem_nil h).elim,hD,ae,fun i b e=>by cases e⟩
theorem NJ.len{acc:List V}(h:NJ m H0 D i acc H):H D=some (.lst acc)/\acc.length<=i:=by
 obtain⟨es,rfl,e,r⟩:=h;exact⟨r.lst,by rw[List.length_map];lia⟩
theorem NJ.next{acc:List V}(h:NJ m H0 D i acc H)(hb:H b=none):upd H b (.lst []) D=some (.lst acc)/\NJ m H0 D (i+1) (acc++[.ref b]) (upd (upd H b (.lst [])) D (.lst (acc++[.ref b]))):=by
 obtain⟨es,rfl,e,r⟩:=h;have O5:D≠b:=fun z=>by
  have:=r.lst;rw[z,hb]at this;cases this
 have hbn:b∉es:=r.off hb;have hb0:H0 b=none:=r.same.free hb;refine⟨by rw[ao O5];exact r.lst,es++[b],by simp,by simp[e],(r.same.put hb0).put r.Dn,?_,?_,fun c hc=>?_,r.Dn,by rw[ae];simp,fun j c hc=>?_⟩
 ·exact List.nodup_append.mpr ⟨r.nd,by simp,fun x hx y hy=>by rw[List.mem_singleton.mp hy];exact fun z=>hbn (z▸hx)⟩
 ·intro hm;rcases List.mem_append.mp hm with z|z
  ·exact r.ne z
  ·exact O5 (List.mem_singleton.mp z)
 ·rcases List.mem_append.mp hc with z|z
  ·exact r.fr c z
  ·rw[List.mem_singleton.mp z];exact hb0
 ·have VA:c≠D:=fun z=>by
   subst z;rcases List.mem_append.mp (iT hc) with z|z
   ·exact r.ne z
   ·exact O5 (List.mem_singleton.mp z)
  refine⟨[],?_,.nil⟩;rw[ao VA]
  by_cases ec:c=b
  ·rw[ec,ae];rfl
  ·rw[ao ec]
   by_cases hj:j<es.length
   ·rw[List.getElem?_append_left hj]at hc;obtain⟨cs,q1,q2⟩:=r.at_ j c hc;cases q2;exact q1
   ·rw[List.getElem?_append_right (by lia)]at hc
    have:=iT hc;exact absurd (List.mem_singleton.mp this) ec
end
structure NK(N:RM.Net)(k:Nat)(S:Nat->List (Nat×Nat)):Prop where
 mem:∀ i kw,kw∈S i↔(kw.1<k/\RM.Jn N kw.1 i kw.2)
 len:∀ i,(S i).length<=2*k
theorem NK.start{N:RM.Net}:NK N 0 (fun _=>[]):=⟨fun i kw=>⟨fun h=>(nomatch h),fun h=>absurd h.1 (Nat.not_lt_zero _)⟩,fun _=>Nat.zero_le _⟩
theorem NK.next{N:RM.Net}{k:Nat}{S:Nat->List (Nat×Nat)}(h:NK N k S):NK N (k+1) (vG (vG S (N.a k) (k,N.b k)) (N.b k) (k,N.a k)):=by
 refine⟨fun i kw=>?_,fun i=>?_⟩
 ·have one:∀(S:Nat->List (Nat×Nat)) (x:Nat) (q:Nat×Nat),kw∈vG S x q i↔kw∈S i\/(i=x/\kw=q):=fun S x q=>by
   unfold vG
   by_cases e:i=x
   ·rw[if_pos e,List.mem_append,List.mem_singleton];simp[e]
   ·rw[if_neg e];simp[e]
  rw[one,one,h.mem];obtain⟨k',w⟩:=kw
  constructor
  ·rintro((⟨h1,h2⟩|⟨rfl,h2⟩) | ⟨rfl,h2⟩)
   ·exact⟨Nat.lt_succ_of_lt h1,h2⟩
   ·cases h2;exact⟨Nat.lt_succ_self _,.inl ⟨rfl,rfl⟩⟩
   ·cases h2;exact⟨Nat.lt_succ_self _,.inr ⟨rfl,rfl⟩⟩
  ·rintro⟨h1,h2⟩
   by_cases e:k'<k
   ·exact .inl (.inl ⟨e,h2⟩)
   ·have e:k' = k:=by have:k'<k+1:=h1;lia
    subst e;rcases h2 with⟨h3,h4⟩|⟨h3,h4⟩
    ·exact .inl (.inr ⟨h3.symm,by have h4:N.b k' = w:=h4;rw[h4]⟩)
    ·exact .inr ⟨h3.symm,by have h4:N.a k' = w:=h4;rw[h4]⟩
 ·have one:∀(S:Nat->List (Nat×Nat)) (x:Nat) (q:Nat×Nat),(vG S x q i).length<=(S i).length+1:=fun S x q=>by
   unfold vG
   split
   ·simp
   ·lia
  have h1:=one (vG S (N.a k) (k,N.b k)) (N.b k) (k,N.a k);have h2:=one S (N.a k) (k,N.b k);have h3:=h.len i
  lia
end L2
namespace RM
def left(F:OW):Nat->Nat
 | 0=>0
 | p+1=>left F p+(if(F p false).isNone then 1 else 0)+(if(F p true).isNone then 1 else 0)
theorem yt{F G:OW}:∀{p:Nat},(∀ x,x<p->∀ s,F x s=G x s)->left F p=left G p
 | 0,_=>rfl
 | p+1,h=>by
   unfold left;rw[yt fun x hx=>h x (by lia),h p (by lia),h p (by lia)]
theorem Bv{F:OW}{x:Nat}{s:Bool}{d:Int×Nat}(hn:F x s=none):∀{p:Nat},x<p->left (jK F x s d) p<left F p
 | 0,h=>absurd h (Nat.not_lt_zero _)
 | p+1,h=>by
   unfold left
   by_cases e:x=p
   ·subst e;rw[yt (F:=jK F x s d) (G:=F) fun y hy t=>bC fun z=>by lia]
    cases s with
    | false=>rw[bV,bC (fun z=>by cases z.2),hn];simp
    | true=>rw[bV,bC (fun z=>by cases z.2),hn];simp
   ·have ih:=Bv (F:=F) (x:=x) (s:=s) (d:=d) hn (p:=p) (by lia)
    rw[bC (fun z=>e z.1.symm),bC (fun z=>e z.1.symm)]
    lia
end RM
namespace L2
open PySem Ring
def T8(W:RM.OW)(k:List Key):List Int:=match k with
 | [.inl x,.inl s]=>(match W x.toNat (decide (s=1)) with | some d=>[d.1,(d.2:Int)] | none=>[])
 | _=>[]
theorem J9{W:RM.OW}{x:Nat}{s:Bool}{d:Int×Nat}(h:W x s=some d):T8 W (ky x s)=[d.1,(d.2:Int)]:=by
 have e:(decide (((s.toNat:Nat):Int)=1))=s:=by cases s<;>rfl
 show(match W ((x:Int)).toNat (decide (((s.toNat:Nat):Int)=1)) with | some d=>[d.1,(d.2:Int)] | none=>[])=_
 rw[Int.toNat_natCast,e,h]
def Ka(W:RM.OW)(kvs:List (List Key×V))(i:Nat):List Int:=T8 W ((kvs[i]?.map (·.1)).getD [])
theorem zl{a b c d:Int}(h:HT.lexLt [a,b] [c,d]=false):c<=a:=by
 rw[HT.g8]at h
 by_cases e:a=c
 ·lia
 ·rw[if_neg e]at h;have:=of_decide_eq_false h
  lia
theorem yu{κ:Type}[DecidableEq κ]:∀{kvs:List (κ×V)} {k:κ} {v:V},(kvs.map (·.1)).Nodup->(k,v)∈kvs->eR kvs k=some v
 | [],_,_,_,h=>nomatch h
 | q::r,k,v,nd,h=>by
   rw[List.map_cons,List.nodup_cons]at nd;rcases List.mem_cons.mp h with e|h
   ·subst e;exact cQ rfl
   ·have ne : ¬ q.1=k:=fun z=>nd.1 (by rw[z];exact List.mem_map_of_mem (f:=(·.1)) h)
    rw[cB ne];exact yu nd.2 h
theorem vF.entry{p:Nat}{H0 H:Hp}{D wd:Addr}{es:List Addr}{kvs:List (List Key×V)}{F W:RM.OW}(h:vF p H0 D wd es kvs F W H){i:Nat}{kv:List Key×V}(e:kvs[i]?=some kv):
 ∃ x s d c,x<p/\kv.1=ky x s/\W x s=some d/\eR kvs (ky x s)=some (.ref c)/\kv.2 = .ref c/\H c=some (.tup [.int d.1,.int (d.2:Int)])/\Ka W kvs i=[d.1,(d.2:Int)]:=by
 have hm:=iT e;obtain⟨x,s,hx,ek⟩:=h.keys kv hm;have hv:eR kvs (ky x s)=some kv.2:=yu h.kn (by rw[<-ek];exact hm)
 rcases h.val x s with⟨_,z⟩|⟨d,c,h1,h2,h3⟩
 ·rw[hv]at z;cases z
 ·rw[hv]at h2;refine⟨x,s,d,c,hx,ek,h1,hv.trans h2,Option.some.inj h2,h3,?_⟩;unfold Ka;rw[e];show T8 W kv.1=_;rw[ek];exact J9 h1
theorem vF.find{p:Nat}{H0 H:Hp}{D wd:Addr}{es:List Addr}{kvs:List (List Key×V)}{F W:RM.OW}(h:vF p H0 D wd es kvs F W H){x:Nat}{s:Bool}{d:Int×Nat}(e:W x s=some d):∃(i:Nat) (kv:List Key×V),kvs[i]?=some kv/\kv.1=ky x s/\Ka W kvs i=[d.1,(d.2:Int)]:=by
 rcases h.val x s with⟨z,_⟩|⟨d',c,h1,h2,h3⟩
 ·rw[e]at z;cases z
 ·have hm:=Mv h2;obtain⟨kv,hkv,ek⟩:=List.mem_map.mp hm;obtain⟨i,hi⟩:=List.getElem?_of_mem hkv;refine⟨i,kv,hi,ek,?_⟩;unfold Ka;rw[hi];show T8 W kv.1=_;rw[ek];exact J9 e
theorem vF.start{p:Nat}{H0 H:Hp}{D wd c:Addr}{es:List Addr}{u:Nat}(f:Dr H0 D es (fun _ _=>none) H)(hu:u<p)(hw:H wd=some (.dT []))(h0:H0 wd=none)(hc:H c=some (.tup [.int 0,.int 0])):
 vF p H0 D wd es [(ky u false,.ref c)] (fun _ _=>none) (RM.jK (fun _ _=>none) u false (0,0)) (upd H wd (.dT [(ky u false,.ref c)])):=by
 have wD:wd≠D:=fun z=>by rw[z,f.lst]at hw;cases hw
 have wE:wd∉es:=fun z=>by
  obtain⟨j,hj⟩:=List.getElem?_of_mem z;have:=f.at_ j wd hj;rw[hw]at this;cases this
 refine⟨f.same.put h0,f.nd,f.ne,f.fr,f.Dn,h0,wD,wE,by rw[ao (Ne.symm wD)];exact f.lst,fun i b hb=>?_,ae,by simp,fun kv hkv=>?_,fun x s d e=>?_,fun x s=>?_⟩
 ·have nb:b≠wd:=fun z=>wE (z▸iT hb)
  exact⟨.fD,.fD,by rw[ao nb];exact f.at_ i b hb,rfl,rfl⟩
 ·rw[List.mem_singleton.mp hkv];exact⟨u,false,hu,rfl⟩
 ·by_cases z:x=u/\s=false
  ·rw[z.1];exact hu
  ·rw[RM.bC z]at e;cases e
 ·by_cases z:x=u/\s=false
  ·obtain⟨rfl,rfl⟩:=z;exact .inr ⟨(0,0),c,RM.bV _ _ _ _,cQ rfl,by rw[ao (aS hc hw (by intro z;cases z))];exact hc⟩
  ·refine .inl ⟨RM.bC z,?_⟩;rw[cB (fun q=>z ?_),ve]
   obtain⟨e1,e2⟩:=Dy q;exact⟨e1.symm,e2.symm⟩
open PySem PySem.Spec PyProof.Rows
section
variable {P:Program}{w:World}{A:Around}{E:eK}{s:Shared}
theorem Kc{l:Addr}{u0 u1:Value}{Q:List Value->Shared->Prop}(hh:A.handled=none)(hl:s.heap.IsList l #[u0,u1])
 (hQ:∀ h' tk,(∀ b o,s.heap.get? b=some o->h'.get? b=some o)->Q [u0,u1] { s with heap:=h',toks:=tk}):wpAny (model P w) A (unpackItems (.ref l) 2 none) Q E s:=by
 obtain⟨ol,R8,hcl,nl,hdl⟩:=id hl;have hT:s.TypeIs (.ref l) "list":=⟨ol,R8,hcl⟩;have hne:l≠s.heap.objs.size:=Nat.ne_of_lt (Heap.lt_size R8);unfold unpackItems;refine aQ ?_;unfold notIterableAtAll;refine aQ (wpAny_specialOf hT PySem.F.slot_list_iter.lookup (wpAny_pure ?_));simp only[Bool.false_eq_true,if_false];refine aQ (wpAny_holding (wpAny_pyIter_list hl ?_));have W:=Walks.list (prog:=P) (w:=w) (A:=A) hh s.heap.objs.size l hne #[u0,u1];generalize hg:s.heap.push { cls:=.type "list_iterator",data:=.fields #[.ref l,.int 0 0]}=g0;have g0k:∀ b o,s.heap.get? b=some o->g0.get? b=some o:=fun b o e=>by rw[<-hg];exact Heap.get?_push_of_some _ e
 have g0i:g0.IsListIter s.heap.objs.size l 0:=by rw[<-hg];exact⟨_,Heap.get?_push_size _ rfl,rfl,rfl⟩
 have g0l:g0.IsList l #[u0,u1]:=by rw[<-hg];exact⟨ol,Heap.get?_push_of_some _ R8,hcl,nl,hdl⟩
 have nI:∀ b o,s.heap.get? b=some o->b∉[s.heap.objs.size]:=fun b o e z=>Nat.ne_of_lt (Heap.lt_size e) (List.mem_singleton.mp z)
 refine aQ (wpAny_holding ?_);show wpAny _ _ (pyNext (.ref s.heap.objs.size) >>= _) _ _ _;refine aQ (W.item 0 _ _ _ (by simp) ⟨g0i,g0l⟩ fun v1 h1 tk1 hv1 st1 k1=>?_)
 obtain rfl:u0=v1:=by simpa using hv1
 refine aQ (wpAny_holding ?_);show wpAny _ _ (pyNext (.ref s.heap.objs.size) >>= _) _ _ _;refine aQ (W.item 1 _ _ _ (by simp) st1 fun v2 h2 tk2 hv2 st2 k2=>?_)
 obtain rfl:u1=v2:=by simpa using hv2
 refine aQ (wpAny_holding ?_);show wpAny _ _ (pure []) _ _ _;refine wpAny_pure (wpAny_pure (wpAny_pure ?_));rw[if_neg (by simp)]
 refine aQ (wpAny_holding (W.done _ _ _ st2 fun h3 tk3 k3=>?_))
 simp only[Option.isSome_none,Bool.false_eq_true,if_false];exact wpAny_pure (hQ h3 tk3 fun b o e=>k3 b o (nI b o e) (k2 b o (nI b o e) (k1 b o (nI b o e) (g0k b o e))))
theorem Kd{env:Env}{elts:List Expr}{x1}{pos:Pos}{l:Addr}{u0 u1:Value}{Q:Unit->Shared->Prop}(hh:A.handled=none)(hl:s.heap.IsList l #[u0,u1])
 (hn:(assignEach elts env).length=2) (hstar:(assignEach elts env).findIdx? (·.1)=none)
 (h:∀ h' tk,(∀ b o,s.heap.get? b=some o->h'.get? b=some o)->wpAny (model P w) A (assignInOrder ((assignEach elts env).map (·.2)) [u0,u1]) Q E { s with heap:=h',toks:=tk}) :
 wpAny (model P w) A (assign (.Tuple elts x1 pos) env (.ref l)) Q E s:=by
 rw[arm_assign_Tuple];refine aQ (wpAny_standAt ?_);unfold unpack;rw[hn,hstar];exact aQ (wpAny_holding (Kc hh hl h))
end
section
variable {X:Cx}{es:List Expr}{pos:Pos}
def R9(K:bW)(t:Ln):TG:=fun v σ H Q=>∃ a x y,v = .ref a/\aM K H a [x,y]/\t [x,y] σ H Q
theorem VI(K:bW){k:Nat}{t:Ln}(hc:X.calm=true)(h:Qm X es t)
 (hn:(assignEach es X.env).length=2:=by rfl) (hst:(assignEach es X.env).findIdx? (·.1)=none:=by rfl) (hK:X.K=K:=by rfl):PG X (.Tuple es k pos) (R9 K t):=by
 subst hK;intro pq s σ H v u Q I r hw;obtain⟨a,x,y,e1,hq,hw⟩:=hw;subst e1;cases r;obtain⟨its,rv,ht,hz⟩:=I.list hq;cases rv with
 | cons r1 rr=>cases rr with
   | cons r2 rr2 =>
     cases rr2;refine Kd (I.ok.hd hc) ht.isList hn hst fun h' tk hx=>?_
     exact h pq _ σ H [x,y] _ Q (I.kept (t':=tk) hx) (.cons r1 (.cons r2 .nil)) hw
end
end L2
namespace RM
section
variable {N:Net}{L:Nat->Int}{m u:Nat}
theorem tE{f g:Nat->Bool}:∀{n:Nat},(∀ k,k<n->0<L k)->(∀ k,k<n->f k=true->g k=true)->∀ k,k<n->f k=false->g k=true->lsum L f n<lsum L g n
 | 0,_,_,k,hk,_,_=>absurd hk (Nat.not_lt_zero _)
 | n+1,hL,h,k,hk,hf,hg=>by
   unfold lsum;have hn:=h n (by lia)
   have h0:=hL n (by lia)
   by_cases e:k=n
   ·subst e;have:=rE (L:=L) (f:=f) (g:=g) (n:=k) (fun j hj=>Int.le_of_lt (hL j (by lia))) fun j hj=>h j (by lia)
    rw[hf,hg];simp only[Bool.false_eq_true,if_false,if_true]
    lia
   ·have ih:=tE (n:=n) (fun j hj=>hL j (by lia)) (fun j hj=>h j (by lia)) k (by lia) hf hg
    cases hfn:f n with
    | false=>cases g n<;>simp<;>lia
    | true=>rw[hn hfn];simp;lia
theorem Dz(hL:∀ k,k<N.n->0<L k)(hu:u<N.p){z:Int}{e:Nat}(h:Wz N L m u u true z e)(hmin:∀ x z',x<N.p->Wy N L m x x true z'->z<=z'):
 N.Ring e/\e<2^N.n/\N.par e m=true/\lsum L (fun k=>e.testBit k) N.n=z:=by
 have Sa:∀ k,k<N.n->0<=L k:=fun k hk=>Int.le_of_lt (hL k hk)
 obtain⟨pre,h⟩:=h;obtain⟨_,h2,h3,h4,h5,_⟩:=qw Sa hu h;obtain⟨r,r1,r2,r3⟩:=Dq _ e rfl h2 (fun x _=>by rw[h3,Bool.xor_self]) h4
 have Po:r<2^N.n:=cu fun k hk=>pD h2 (r2 k hk)
 obtain⟨x,hx,hw⟩:=qx Sa m r1 Po;rw[r3]at hw;have hz:=hmin x _ hx hw;have hle:=rE (L:=L) (f:=fun k=>r.testBit k) (g:=fun k=>e.testBit k) Sa fun k _ hk=>r2 k hk
 have er:e=r:=Nat.eq_of_testBit_eq fun k=>by
  cases hr:r.testBit k with
  | true=>exact r2 k hr
  | false =>
    cases he:e.testBit k with
    | false=>rfl
    | true =>
      have:=tE (L:=L) (f:=fun k=>r.testBit k) (g:=fun k=>e.testBit k) hL (fun k _ hk=>r2 k hk) k (pD h2 he) hr he
      lia
 rw[er];exact⟨r1,Po,r3,by lia⟩
theorem Ke(hL:∀ k,k<N.n->0<=L k)(hno:∀ x z',x<N.p->¬ Wy N L m x x true z'){r:Nat}(hr:N.Ring r)(hm:r<2^N.n):N.par r m=false:=by
 cases hp:N.par r m with
 | false=>rfl
 | true =>
   obtain⟨x,hx,hw⟩:=qx hL m hr hm;rw[hp]at hw;exact absurd hw (hno x _ hx)
end
end RM
namespace L2
open PySem PySem.Spec PyProof.Rows
section
variable {X:Cx}{pq:aR}{σ:St}{H:Hp}{l It S:Addr}{cs:List Addr}{ks:Nat->List Int}{R:Result->Shared->Prop}
theorem lM{pa:aR}{s:Shared}(I:Inv X pa σ H s)(hl:aM X.K H l (cs.map V.ref)):s.heap.IsList l (cs.map Value.ref).toArray:=by
 obtain⟨its,rv,p,hz⟩:=I.list hl;have e:its=cs.map Value.ref:=by
  clear hl p hz
  induction cs generalizing its with
  | nil=>cases rv;rfl
  | cons c r ih =>
    rw[List.map_cons]at rv;cases rv with
    | cons h t=>cases h;rw[ih _ t];rfl
 rw[e]at p;exact p.isList
theorem GH(hh:X.A.handled=none)(un:X.A.in1.units<cLine)(hl:aM X.K H l (cs.map V.ref))(hk:∀(i:Nat) c,cs[i]?=some c->aV X.K H c ((ks i).map V.int))(oS:Du X S)(oI:Du X It)(SI:S≠It)(lI:l≠It)
 (pI:∀ p∈pq,p.1≠It) (pS:∀ p∈pq,p.1≠S)
 (hR:∀(i:Nat) c s',cs[i]?=some c->(∀ j,j<cs.length->HT.lexLt (ks j) (ks i)=false)->Inv X pq σ H s'->R (.ok (.ret (.ref c))) s') :
 ∀(r j i:Nat) (c:Addr) (s:Shared) (n:Nat) (HZ:Obj),cs.length-j=r->j<=cs.length->i<j->cs[i]?=some c->Inv X ((S,seqObj "list" #[.ref c,.ref c] n)::(It,HZ)::pq) σ H s->s.heap.IsListIter It l j->
  (∀ j',j'<j->HT.lexLt (ks j') (ks i)=false)->codeAny (model X.prog X.w) X.A (.builtin "min.loop" ⟨[.ref It,.none,.ref S],[]⟩) R s:=by
 have hname:(toString "min" ++ toString ".loop":String)="min.loop":=by decide
 have W:=Walks.list (prog:=X.prog) (w:=X.w) (A:=X.A.in1) hh It l lI (cs.map Value.ref).toArray;have hsz:(cs.map Value.ref).toArray.size=cs.length:=by simp
 intro r
 induction r with
 | zero =>
   intro j i c s n HZ hr hj hij hc I hit qA;have Cz:j=cs.length:=by lia
   have vE:=I.pin (S,_) (i9 _ (.head _));refine codeAny_builtin PySem.F.entry_min_loop ?_;rw[Around.under_plainId PySem.F.plain_min_loop _];show wpAny _ X.A.in1 (seqItems? (.ref S) >>= _) _ _ _;refine aQ (wpAny_seqItems vE.1 rfl ?_);show wpAny _ X.A.in1 (tryCatch (pyNext (.ref It)) _ >>= _) _ _ _;refine aQ (wpAny_tryCatch (W.done _ _ _ ⟨by rw[hsz,<-Cz];exact hit,lM I hl⟩ fun h' tk' hk'=>?_))
   have I1:=I.j9 (t':=tk') (h':=h') (pb:=(S,seqObj "list" #[.ref c,.ref c] n)::pq) oI (List.Mem.tail _ (.head _)) (fun b u hb e=>hk' b u (by simpa using hb) e) (fun p hp=>by
    rcases List.mem_cons.mp hp with rfl|hp
    ·exact .inr ⟨.head _,SI⟩
    ·exact .inr ⟨.tail _ (.tail _ hp),pI p hp⟩)
   have JX:=I1.pin (S,_) (i9 _ (.head _));show wpAny _ X.A.in1 (updateSeq S (fun _=>#[]) >>= _) _ _ _
   refine aQ (wpAny_updateSeq JX.1 rfl (aQ (wpAny_letGo (wpAny_pure ?_))));have s1:=Heap.SameBut.update h' S (Obj.mapSeq fun _=>(#[]:Array Value))
   exact hR i c _ hc (fun j' hj'=>qA j' (by lia)) (I1.j9 (t':=tk') (pb:=pq) oS (.head _) (fun b u hb e=>(s1.2 b hb).trans e) fun p hp=>.inr ⟨.tail _ hp,pS p hp⟩)
 | succ r ih =>
   intro j i c s n HZ hr hj hij hc I hit qA;have Cz:j<cs.length:=by lia
   have vE:=I.pin (S,_) (i9 _ (.head _));refine codeAny_builtin PySem.F.entry_min_loop ?_;rw[Around.under_plainId PySem.F.plain_min_loop _];show wpAny _ X.A.in1 (seqItems? (.ref S) >>= _) _ _ _;refine aQ (wpAny_seqItems vE.1 rfl ?_);show wpAny _ X.A.in1 (tryCatch (pyNext (.ref It)) _ >>= _) _ _ _;refine aQ (wpAny_tryCatch (W.item j _ _ _ (by rw[hsz];exact Cz) ⟨hit,lM I hl⟩ fun v h' tk' hv st' hk'=>?_))
   have Qw:cs[j]?=some cs[j]:=List.getElem?_eq_getElem Cz;obtain rfl:v = .ref cs[j]:=by
    have:(cs.map Value.ref)[j]?=some v:=by simpa using hv
    rw[List.getElem?_map,Qw]at this;exact(Option.some.inj this).symm
   obtain⟨Lx,Kf,hoc,hod⟩:=id st'.1;have I1:=I.j9 (t':=tk') (h':=h') (pb:=(S,seqObj "list" #[.ref c,.ref c] n)::(It,Lx)::pq) oI (List.Mem.tail _ (.head _)) (fun b u hb e=>hk' b u (by simpa using hb) e) (fun p hp=>by
    rcases List.mem_cons.mp hp with rfl|hp
    ·exact .inr ⟨.head _,SI⟩
    ·rcases List.mem_cons.mp hp with rfl|hp
     ·exact .inl ⟨rfl,Kf,fun v z=>by rw[hod]at z;cases z⟩
     ·exact .inr ⟨.tail _ (.tail _ hp),pI p hp⟩)
   have nq:=I1.pin (S,_) (i9 _ (.head _));show wpAny _ X.A.in1 (tryCatch (holding [.ref cs[j],.ref cs[j]] (richCompare .Lt (.ref cs[j]) (.ref c) >>= _)) _ >>= _) _ _ _;refine aQ (wpAny_tryCatch (wpAny_holding (aQ (JU I1 (hk j _ Qw) (hk i c hc) un ?_))));refine aQ (wpAny_holding (wpAny_truthy_bool (aQ (wpAny_letGo (wpAny_pure ?_)))));cases hlt:HT.lexLt (ks j) (ks i) with
   | true =>
     have s1:=Heap.SameBut.update h' S (Obj.mapSeq fun _=>(#[.ref cs[j],.ref cs[j]]:Array Value))
     obtain⟨n2,hn2⟩:∃ n2,(h'.update S (Obj.mapSeq fun _=>(#[.ref cs[j],.ref cs[j]]:Array Value))).get? S=some (seqObj "list" #[.ref cs[j],.ref cs[j]] n2):=⟨_,get?_update_seq nq.1 fun _=>#[.ref cs[j],.ref cs[j]]⟩
     simp only[if_true];refine aQ (wpAny_updateSeq nq.1 rfl (aQ (wpAny_letGo ?_)));rw[hname];have I3:=I1.j9 (t':=tk') (pb:=(S,seqObj "list" #[.ref cs[j],.ref cs[j]] n2)::(It,Lx)::pq) oS (.head _) (fun b u hb e=>(s1.2 b hb).trans e) (fun p hp=>by
      rcases List.mem_cons.mp hp with rfl|hp
      ·exact .inl ⟨rfl,hn2,fun v z=>by cases z⟩
      ·rcases List.mem_cons.mp hp with rfl|hp
       ·exact .inr ⟨.tail _ (.head _),SI.symm⟩
       ·exact .inr ⟨.tail _ (.tail _ hp),pS p hp⟩)
     refine wpAny_pure ⟨plainId_quiet PySem.F.plain_min_loop _,ih (j+1) j cs[j] _ n2 Lx (by lia) (by lia) (by lia) Qw I3 ⟨Lx,(s1.2 It SI.symm).trans Kf,hoc,hod⟩ fun j' hj'=>?_⟩
     by_cases e:j' = j
     ·rw[e];exact HT.gJ _
     ·exact HT.vC (qA j' (by lia)) hlt
   | false =>
     simp only[Bool.false_eq_true,if_false];refine aQ (wpAny_letGo ?_);rw[hname];refine wpAny_pure ⟨plainId_quiet PySem.F.plain_min_loop _,ih (j+1) i c _ n Lx (by lia) (by lia) (by lia) hc I1 st'.1 fun j' hj'=>?_⟩
     by_cases e:j' = j
     ·rw[e];exact hlt
     ·exact qA j' (by lia)
theorem VJ(hr:X.A.handled=none)(un:X.A.in1.units<cLine):gE X (.builtin "min") (fun xs H Q=>∃(l:Addr) (cs:List Addr) (ks:Nat->List Int),xs=[.ref l]/\aM X.K H l (cs.map V.ref)/\0<cs.length/\(∀(i:Nat) c,cs[i]?=some c->aV X.K H c ((ks i).map V.int))/\
 ∀(i:Nat) c,cs[i]?=some c->(∀ j,j<cs.length->HT.lexLt (ks j) (ks i)=false)->Q (.ref c) H):=by
 intro pq s σ H xs us Q I r h;obtain⟨l,cs,ks,rfl,hl,hne,hk,q⟩:=h;obtain⟨u,rfl,rx⟩:=vals1 r;cases rx;have hname:(toString "min" ++ toString ".loop":String)="min.loop":=by decide
 have hls:=lM I hl;obtain⟨ol,R8,_⟩:=id hls;have hll:l<s.heap.objs.size:=Heap.lt_size R8;refine call_function_tree PySem.F.kind_min PySem.F.plain_min PySem.F.entry_min (PySem.F.args_min1 _) ?_;show wpAny _ X.A.in1 (Builtin.Builtins.bindParams "min" ["key","default"] 0 ⟨[],[]⟩ >>= _) _ _ s;refine aQ (wpAny_of_eq (show Builtin.Builtins.bindParams "min" ["key","default"] 0 ⟨[],[]⟩=pure [none,none] from rfl) ?_)
 refine aQ (wpAny_pure (aQ (wpAny_pyIter_list hls (aQ (wpAny_newList ?_ (Nat.zero_le _))))));rw[hname];refine wpAny_pure ⟨plainId_quiet PySem.F.plain_min_loop _,?_⟩;generalize Pe:({ cls:=.type "list_iterator",data:=.fields #[.ref l,.int 0 0]}:Obj)=oI;have hS:(s.heap.push oI).objs.size=s.heap.objs.size+1:=size_push' ..;have hk2:∀ b o,s.heap.get? b=some o->((s.heap.push oI).push (seqObj "list" #[] 0)).get? b=some o:=fun b o e=>Heap.get?_push_of_some _ (Heap.get?_push_of_some _ e)
 have gI:((s.heap.push oI).push (seqObj "list" #[] 0)).get? s.heap.objs.size=some oI:=Heap.get?_push_of_some _ (Heap.get?_push_size _ (by rw[<-Pe];rfl))
 have gS:((s.heap.push oI).push (seqObj "list" #[] 0)).get? (s.heap.push oI).objs.size=some (seqObj "list" #[] 0):=Heap.get?_push_size _ rfl;have MN:∀ p∈pq,p.1<s.heap.objs.size:=fun p hp=>Heap.lt_size (I.pin p (i9 _ hp)).1
 have NH:=I.JT (Nat.le_refl s.heap.objs.size);have oS:=I.JT (b:=(s.heap.push oI).objs.size) (by rw[hS];exact Nat.le_succ _)
 have SI:(s.heap.push oI).objs.size≠s.heap.objs.size:=by rw[hS];exact Nat.succ_ne_self _
 have lI:l≠s.heap.objs.size:=Nat.ne_of_lt hll;have pI:∀ p∈pq,p.1≠s.heap.objs.size:=fun p hp=>Nat.ne_of_lt (MN p hp)
 have pS:∀ p∈pq,p.1≠(s.heap.push oI).objs.size:=fun p hp=>by rw[hS];exact Nat.ne_of_lt (Nat.lt_succ_of_lt (MN p hp))
 have J:Inv X (((s.heap.push oI).objs.size,seqObj "list" #[] 0)::(s.heap.objs.size,oI)::pq) σ H { s with heap:=(s.heap.push oI).push (seqObj "list" #[] 0)}:=by
  have K:=I.kept (t':=s.toks) hk2;refine K.gD fun p hp=>?_
  rcases List.mem_cons.mp hp with rfl|hp
  ·exact⟨gS,I.hok.fresh (by rw[hS];exact Nat.le_succ _),oS.2.1,oS.2.2.1,fun v z=>by cases z⟩
  ·rcases List.mem_cons.mp hp with rfl|hp
   ·exact⟨gI,I.hok.fresh (Nat.le_refl _),NH.2.1,NH.2.2.1,fun v z=>by rw[<-Pe]at z;cases z⟩
   ·exact K.pin p (i9 _ hp)
 have W:=Walks.list (prog:=X.prog) (w:=X.w) (A:=X.A.in1) hr s.heap.objs.size l lI (cs.map Value.ref).toArray;have vE:=J.pin ((s.heap.push oI).objs.size,seqObj "list" #[] 0) (i9 _ (.head _));refine codeAny_builtin PySem.F.entry_min_loop ?_;rw[Around.under_plainId PySem.F.plain_min_loop _];show wpAny _ X.A.in1 (seqItems? (.ref _) >>= _) _ _ _;refine aQ (wpAny_seqItems vE.1 rfl ?_);show wpAny _ X.A.in1 (tryCatch (pyNext (.ref s.heap.objs.size)) _ >>= _) _ _ _;refine aQ (wpAny_tryCatch (W.item 0 _ _ _ (by simpa using hne) ⟨⟨oI,gI,by rw[<-Pe],by rw[<-Pe];rfl⟩,lM J hl⟩ fun v h' tk' hv st' hk'=>?_))
 have Qw:cs[0]?=some cs[0]:=List.getElem?_eq_getElem hne;obtain rfl:v = .ref cs[0]:=by
  have:(cs.map Value.ref)[0]?=some v:=by simpa using hv
  rw[List.getElem?_map,Qw]at this;exact(Option.some.inj this).symm
 obtain⟨Lx,Kf,hoc,hod⟩:=id st'.1;have I1:=J.j9 (t':=tk') (h':=h') (pb:=((s.heap.push oI).objs.size,seqObj "list" #[] 0)::(s.heap.objs.size,Lx)::pq) NH (List.Mem.tail _ (.head _)) (fun b u hb e=>hk' b u (by simpa using hb) e) (fun p hp=>by
  rcases List.mem_cons.mp hp with rfl|hp
  ·exact .inr ⟨.head _,SI⟩
  ·rcases List.mem_cons.mp hp with rfl|hp
   ·exact .inl ⟨rfl,Kf,fun v z=>by rw[hod]at z;cases z⟩
   ·exact .inr ⟨.tail _ (.tail _ hp),pI p hp⟩)
 have nq:=I1.pin ((s.heap.push oI).objs.size,_) (i9 _ (.head _));have s1:=Heap.SameBut.update h' (s.heap.push oI).objs.size (Obj.mapSeq fun _=>(#[.ref cs[0],.ref cs[0]]:Array Value))
 obtain⟨n2,hn2⟩:∃ n2,(h'.update (s.heap.push oI).objs.size (Obj.mapSeq fun _=>(#[.ref cs[0],.ref cs[0]]:Array Value))).get? (s.heap.push oI).objs.size=some (seqObj "list" #[.ref cs[0],.ref cs[0]] n2):=⟨_,get?_update_seq nq.1 fun _=>#[.ref cs[0],.ref cs[0]]⟩
 show wpAny _ X.A.in1 (updateSeq (s.heap.push oI).objs.size (fun _=>#[.ref cs[0],.ref cs[0]]) >>= _) _ _ _
 refine aQ (wpAny_updateSeq nq.1 rfl ?_);rw[hname];have I3:=I1.j9 (t':=tk') (pb:=((s.heap.push oI).objs.size,seqObj "list" #[.ref cs[0],.ref cs[0]] n2)::(s.heap.objs.size,Lx)::pq) oS (.head _) (fun b u hb e=>(s1.2 b hb).trans e) (fun p hp=>by
  rcases List.mem_cons.mp hp with rfl|hp
  ·exact .inl ⟨rfl,hn2,fun v z=>by cases z⟩
  ·rcases List.mem_cons.mp hp with rfl|hp
   ·exact .inr ⟨.tail _ (.head _),SI.symm⟩
   ·exact .inr ⟨.tail _ (.tail _ hp),pS p hp⟩)
 refine wpAny_pure ⟨plainId_quiet PySem.F.plain_min_loop _,GH hr un hl hk oS NH SI lI pI pS (fun i c s' hc best I7=>⟨.ref c,H,I7,rfl,q i c hc best⟩) _ 1 0 cs[0] _ n2 Lx rfl hne (Nat.lt_succ_self _) Qw I3 ⟨Lx,(s1.2 _ SI.symm).trans Kf,hoc,hod⟩ fun j hj=>?_⟩
 have e:j=0:=by lia
 rw[e];exact HT.gJ _
end
end L2
namespace RM
def lx(a b:Int×Nat):Prop:=a.1<b.1\/(a.1=b.1/\a.2<=b.2)
def stp(L:Nat->Int)(d:Int×Nat)(k:Nat):Int×Nat:=(d.1+L k,d.2^^^2^k)
structure Fx(N:Net)(L:Nat->Int)(m u:Nat)(F:OW):Prop where
 st:F u false=some (0,0)
 cx:∀ x s d k y,F x s=some d->k<N.n->Jn N k x y->∃ d',F y (s^^m.testBit k)=some d'/\lx d' (stp L d k)
 org:∀ y t d,F y t=some d->(y=u/\t=false/\d=(0,0))\/∃ x s d0 k,F x s=some d0/\k<N.n/\Jn N k x y/\t=(s^^m.testBit k)/\d=stp L d0 k
 nn:∀ y t d,F y t=some d->0<=d.1
def Sb(N:Net)(L:Nat->Int)(m u:Nat)(F:OW)(y:Nat)(t:Bool)(d:Int×Nat):Prop:=(y=u/\t=false/\d=(0,0))\/∃ x s d0 k,F x s=some d0/\k<N.n/\Jn N k x y/\t=(s^^m.testBit k)/\d=stp L d0 k
structure Dx(N:Net)(L:Nat->Int)(m u:Nat)(F W:OW)(now:Option (Nat×Bool))(done:Nat->Nat->Prop):Prop where
 dj:Dj N L m u F W now done
 cx:∀ x s d k y,F x s=some d->k<N.n->Jn N k x y->(now=some (x,s)->done k y)->∃ d',(F y (s^^m.testBit k)=some d'\/W y (s^^m.testBit k)=some d')/\lx d' (stp L d k)
 fo:∀ y t d,F y t=some d->Sb N L m u F y t d
 wo:∀ y t d,W y t=some d->Sb N L m u F y t d
 s0:F u false=some (0,0)\/W u false=some (0,0)
section
variable {N:Net}{L:Nat->Int}{m u:Nat}{F W:OW}
theorem Sb.grow{y x:Nat}{t s:Bool}{d e:Int×Nat}(h:Sb N L m u F y t d)(hF:F x s=none):Sb N L m u (jK F x s e) y t d:=by
 rcases h with h|⟨x',s',d0,k,h0,r⟩
 ·exact .inl h
 ·refine .inr ⟨x',s',d0,k,?_,r⟩;rw[bC (fun z=>by rw[z.1,z.2,hF]at h0;cases h0)]
  exact h0
theorem Dx.start:Dx N L m u (fun _ _=>none) (jK (fun _ _=>none) u false (0,0)) none (fun _ _=>False):=by
 refine⟨.start,fun _ _ _ _ _ h=>(nomatch h),fun _ _ _ h=>(nomatch h),fun y t d h=>?_,.inr (bV _ _ _ _)⟩
 by_cases e:y=u/\t=false
 ·obtain⟨rfl,rfl⟩:=e;rw[bV]at h;exact .inl ⟨rfl,rfl,(Option.some.inj h).symm⟩
 ·rw[bC e]at h;cases h
theorem Dx.pop(h:Dx N L m u F W none (fun _ _=>False)){x:Nat}{s:Bool}{d:Int×Nat}(e:W x s=some d)(hmin:∀ y t d',W y t=some d'->d.1<=d'.1):Dx N L m u (jK F x s d) (zk W x s) (some (x,s)) (fun _ _=>False):=by
 have hF:=h.dj.dj x s d e;have moved:∀ y t d',F y t=some d'\/W y t=some d'->jK F x s d y t=some d'\/zk W x s y t=some d':=fun y t d' q=>by
  by_cases z:y=x/\t=s
  ·obtain⟨rfl,rfl⟩:=z;rcases q with q|q
   ·rw[hF]at q;cases q
   ·rw[e]at q;cases q;exact .inl (bV _ _ _ _)
  ·rw[bC z,oz z];exact q
 refine⟨h.dj.pop e hmin,fun y t d' k y2 q hk hj hd=>?_,fun y t d' q=>?_,fun y t d' q=>?_,moved _ _ _ h.s0⟩
 ·by_cases z:y=x/\t=s
  ·obtain⟨rfl,rfl⟩:=z;exact(hd rfl).elim
  ·rw[bC z]at q;obtain⟨d2,q2,l2⟩:=h.cx y t d' k y2 q hk hj (fun z=>nomatch z)
   exact⟨d2,moved _ _ _ q2,l2⟩
 ·by_cases z:y=x/\t=s
  ·obtain⟨rfl,rfl⟩:=z;rw[bV]at q;cases q;exact(h.wo _ _ _ e).grow hF
  ·rw[bC z]at q;exact(h.fo y t d' q).grow hF
 ·by_cases z:y=x/\t=s
  ·obtain⟨rfl,rfl⟩:=z;rw[uv]at q;cases q
  ·rw[oz z]at q;exact(h.wo y t d' q).grow hF
theorem lx.trans{a b c:Int×Nat}(h1:lx a b)(h2:lx b c):lx a c:=by
 unfold lx at *
 lia
theorem Dx.put{done:Nat->Nat->Prop}{x:Nat}{s:Bool}(h:Dx N L m u F W (some (x,s)) done){d:Int×Nat}{k y:Nat}(e:F x s=some d)(h0:0<=d.1)(hk:k<N.n)(hL:0<L k)(hj:Jn N k x y)(hF:F y (s^^m.testBit k)=none)
 (hW:∀ d',W y (s^^m.testBit k)=some d'->lx (stp L d k) d'):Dx N L m u F (jK W y (s^^m.testBit k) (stp L d k)) (some (x,s)) (fun k' y'=>done k' y'\/(k' = k/\y' = y)):=by
 have moved:∀ v t d',F v t=some d'\/W v t=some d'->∃ d2,(F v t=some d2\/jK W y (s^^m.testBit k) (stp L d k) v t=some d2)/\lx d2 d':=fun v t d' q=>by
  rcases q with q|q
  ·exact⟨d',.inl q,.inr ⟨rfl,Nat.le_refl _⟩⟩
  ·by_cases z:v=y/\t=(s^^m.testBit k)
   ·obtain⟨rfl,rfl⟩:=z;exact⟨_,.inr (bV _ _ _ _),hW d' q⟩
   ·exact⟨d',.inr (by rw[bC z];exact q),.inr ⟨rfl,Nat.le_refl _⟩⟩
 refine⟨h.dj.put e hk (Int.le_of_lt hL) hj hF fun d' q=>?_,fun v t d' k2 y2 q hk2 Lw hd=>?_,h.fo,fun v t d' q=>?_,?_⟩
 ·have:=hW d' q;unfold lx stp at this;simp only at this
  lia
 ·by_cases hd2:some (x,s)=some (v,t)->done k2 y2
  ·obtain⟨d2,q2,l2⟩:=h.cx v t d' k2 y2 q hk2 Lw hd2;obtain⟨d3,q3,l3⟩:=moved _ _ _ q2;exact⟨d3,q3,l3.trans l2⟩
  ·have hn:some (x,s)=some (v,t):=Classical.byContradiction fun z=>hd2 fun z2=>absurd z2 z
   rcases hd hn with z|⟨rfl,rfl⟩
   ·exact absurd (fun _=>z) hd2
   ·cases hn;rw[e]at q;cases q;exact⟨_,.inr (bV _ _ _ _),.inr ⟨rfl,Nat.le_refl _⟩⟩
 ·by_cases z:v=y/\t=(s^^m.testBit k)
  ·obtain⟨rfl,rfl⟩:=z;rw[bV]at q;cases q;exact .inr ⟨x,s,d,k,e,hk,hj,rfl,rfl⟩
  ·rw[bC z]at q;exact h.wo v t d' q
 ·rcases h.s0 with q|q
  ·exact .inl q
  ·right
   rw[bC (fun z=>?_)]
   ·exact q
   ·obtain⟨z1,z2⟩:=z;have q':=q;rw[z1,z2]at q';have:=hW _ q';unfold lx stp at this;simp only at this
    lia
theorem Dx.skip{done:Nat->Nat->Prop}{x:Nat}{s:Bool}(h:Dx N L m u F W (some (x,s)) done){d d2:Int×Nat}{k y:Nat}(e:F x s=some d)(hL:0<L k)(q2:F y (s^^m.testBit k)=some d2\/(W y (s^^m.testBit k)=some d2/\lx d2 (stp L d k))):
 Dx N L m u F W (some (x,s)) (fun k' y'=>done k' y'\/(k' = k/\y' = y)):=by
 have q3:F y (s^^m.testBit k)=some d2\/(W y (s^^m.testBit k)=some d2/\d2.1<=d.1+L k):=by
  rcases q2 with q2|⟨q2,l2⟩
  ·exact .inl q2
  ·refine .inr ⟨q2,?_⟩;unfold lx stp at l2;simp only at l2
   lia
 refine⟨h.dj.skip e (Int.le_of_lt hL) q3,fun v t d' k2 y2 q hk2 Lw hd=>?_,h.fo,h.wo,h.s0⟩
 by_cases hd2:some (x,s)=some (v,t)->done k2 y2
 ·exact h.cx v t d' k2 y2 q hk2 Lw hd2
 ·have hn:some (x,s)=some (v,t):=Classical.byContradiction fun z=>hd2 fun z2=>absurd z2 z
  rcases hd hn with z|⟨rfl,rfl⟩
  ·exact absurd (fun _=>z) hd2
  ·cases hn;rw[e]at q;cases q;rcases q2 with q2|⟨q2,l2⟩
   ·have:=h.dj.mx x s d _ _ d2 rfl e q2;refine⟨d2,.inl q2,.inl ?_⟩;show d2.1<d.1+L k2
    lia
   ·exact⟨d2,.inr q2,l2⟩
theorem Dx.all{done:Nat->Nat->Prop}{x:Nat}{s:Bool}(h:Dx N L m u F W (some (x,s)) done)(ha:∀ k y,k<N.n->Jn N k x y->done k y):Dx N L m u F W none (fun _ _=>False) :=
 ⟨h.dj.all ha,fun v t d k y q hk hj _=>h.cx v t d k y q hk hj fun z=>by cases z;exact ha k y hk hj,h.fo,h.wo,h.s0⟩
theorem Dj.less{now:Option (Nat×Bool)}{done done' : Nat->Nat->Prop}(h:Dj N L m u F W now done)(hd:∀ k y,done' k y->done k y):Dj N L m u F W now done' :=
 ⟨h.fw,h.ww,h.dj,h.le,h.mx,fun v t d k y q hk hj z=>h.cl v t d k y q hk hj fun z2=>hd _ _ (z z2),h.st⟩
theorem Dx.less{now:Option (Nat×Bool)}{done done' : Nat->Nat->Prop}(h:Dx N L m u F W now done)(hd:∀ k y,done' k y->done k y):Dx N L m u F W now done' :=
 ⟨h.dj.less hd,fun v t d k y q hk hj z=>h.cx v t d k y q hk hj fun z2=>hd _ _ (z z2),h.fo,h.wo,h.s0⟩
theorem Dx.fin(hL:∀ k,k<N.n->0<L k)(hu:u<N.p)(h:Dx N L m u F W none (fun _ _=>False))(hW:∀ x s,W x s=none):Fx N L m u F:=by
 refine⟨?_,fun x s d k y e hk hj=>?_,h.fo,fun y t d e=>?_⟩
 ·rcases h.s0 with q|q
  ·exact q
  ·rw[hW]at q;cases q
 ·obtain⟨d',q,l⟩:=h.cx x s d k y e hk hj (fun z=>nomatch z)
  rcases q with q|q
  ·exact⟨d',q,l⟩
  ·rw[hW]at q;cases q
 ·obtain⟨pre,w⟩:=h.dj.fw y t d e;exact(qw (fun k hk=>Int.le_of_lt (hL k hk)) hu w).2.2.2.2.2
end
section
variable {N:Net}{L:Nat->Int}{m:Nat}
def Lo(N:Net)(L:Nat->Int)(m:Nat)(z:Int)(e:Nat):Prop:=∃ Fs:Nat->OW,(∀ i,i<N.p->Fx N L m i (Fs i))/\(∃ i,i<N.p/\Fs i i true=some (z,e))/\∀ j d,j<N.p->Fs j j true=some d->lx (z,e) d
structure vH(N:Net)(L:Nat->Int)(m:Nat)(z:Int)(e:Nat):Prop where
 ring:N.Ring e
 lt:e<2^N.n
 par:N.par e m=true
 len:lsum L (fun k=>e.testBit k) N.n=z
 way:∃ x,x<N.p/\Wy N L m x x true z
 min:∀ x z',x<N.p->Wy N L m x x true z'->z<=z'
theorem vH.least(hL:∀ k,k<N.n->0<=L k){z:Int}{e r:Nat}(h:vH N L m z e)(hr:N.Ring r)(lr:r<2^N.n)(pr:N.par r m=true):z<=lsum L (fun k=>r.testBit k) N.n:=by
 obtain⟨x,hx,hw⟩:=qx hL m hr lr;rw[pr]at hw;exact h.min x _ hx hw
end
end RM
namespace Ring
open PySem L2
end Ring
namespace L2
open PySem PySem.Spec PyProof.Rows PySem.W
def SRun(r:Nat->Int){α:Type}:KasT α->α
 | .ret a=>a
 | .ask i j k=>SRun r (k (decide (r i<r j)))
section
variable {r:Nat->Int}
theorem jq{α β:Type}{f:α->KasT β}:∀(t:KasT α),SRun r (t.bind f)=SRun r (f (SRun r t))
 | .ret a=>by rw[KasT.bind.eq_1];rfl
 | .ask i j k=>by
   rw[KasT.bind.eq_2];exact jq (k _)
theorem zm{n:Nat}{α:Type}{R:α->Prop}{cmp:Nat->Nat->(Bool->Shared->Prop)->Shared->Prop}{Q:α->Shared->Prop}{s:Shared}(hc:∀ i j C,i<n->j<n->C (decide (r i<r j)) s->cmp i j C s):∀{t:KasT α},wO n R t->(R (SRun r t)->Q (SRun r t) s)->KasT.kasWp cmp t Q s
 | .ret a,h,q=>q h
 | .ask i j k,h,q=>hc i j _ h.1 h.2.1 (zm hc (h.2.2 _) q)
def Kr(r:Nat->Int)(p:Array Nat)(i:Nat):Int:=r (p.getD i 0)
theorem vI(p:Array Nat)(i:Nat):Kr r p i=r ((p[i]?).getD 0):=by
 unfold Kr;rw[Array.getD_eq_getD_getElem?]
theorem zo{p:Array Nat}{i j:Nat}(hj:j<=p.size)(k:Nat):Kr r (kas_rev p i j) k=if i<=k/\k<j then Kr r p (i+j-1-k) else Kr r p k:=by
 have e:=getElem?_mirror_all (i:=i) hj k;unfold kas_rev;rw[vI,e]
 split
 ·rw[vI]
 ·rw[vI]
theorem Kg{p:Array Nat}{src d:Nat}(hs:src<p.size)(hd:d<=src)(k:Nat):Kr r (bubble p src d) k=if k=src-d then Kr r p src else if src-d<k/\k<=src then Kr r p (k-1) else Kr r p k:=by
 have e:=getElem?_bubble hs d hd k;rw[vI,e]
 split
 ·rw[vI]
 ·split
  ·rw[vI]
  ·rw[vI]
theorem nv(p:Array Nat)(i j:Nat):(kas_rev p i j).size=p.size:=mirror_size _ _ _ _
def Up(r:Nat->Int)(p:Array Nat)(n:Nat):Prop:=∀ i,1<=i->i<n->Kr r p (i-1)<=Kr r p i
theorem Up.le{p:Array Nat}{n:Nat}(h:Up r p n):∀{i j:Nat},i<=j->j<n->Kr r p i<=Kr r p j:=by
 intro i j hij;obtain⟨d,rfl⟩:=Nat.exists_eq_add_of_le hij;clear hij
 induction d with
 | zero=>intro _;exact Int.le_refl _
 | succ d ih =>
   intro hj;have h1:=ih (by lia)
   have h2:=h (i+(d+1)) (by lia) hj
   rw[show i+(d+1)-1=i+d by lia]at h2
   lia
theorem DA{p:Array Nat}:∀(f n:Nat),1<=n->Up r p n->n<=SRun r (kas_asc p f n)/\SRun r (kas_asc p f n)<=n+f/\Up r p (SRun r (kas_asc p f n))/\(SRun r (kas_asc p f n)<n+f->Kr r p (SRun r (kas_asc p f n))<Kr r p (SRun r (kas_asc p f n)-1))
 | 0,n,_,h=>by
   rw[kas_asc.eq_1];exact⟨Nat.le_refl n,Nat.le_refl n,h,fun z=>absurd z (Nat.lt_irrefl n)⟩
 | f+1,n,h1,h=>by
   rw[kas_asc.eq_2];show n<=SRun r (if decide (Kr r p n<Kr r p (n-1))=true then _ else _)/\SRun r (if decide (Kr r p n<Kr r p (n-1))=true then _ else _)<=_/\Up r p (SRun r (if decide (Kr r p n<Kr r p (n-1))=true then _ else _))/\_
   by_cases c:Kr r p n<Kr r p (n-1)
   ·show n<=SRun r (if decide (Kr r p n<Kr r p (n-1))=true then _ else _)/\SRun r (if decide (Kr r p n<Kr r p (n-1))=true then _ else _)<=_/\Up r p (SRun r (if decide (Kr r p n<Kr r p (n-1))=true then _ else _))/\(SRun r (if decide (Kr r p n<Kr r p (n-1))=true then _ else _)<_->Kr r p (SRun r (if decide (Kr r p n<Kr r p (n-1))=true then _ else _))<Kr r p (SRun r (if decide (Kr r p n<Kr r p (n-1))=true then _ else _)-1))
    rw[if_pos (cD c)];exact⟨Nat.le_refl n,Nat.le_add_right _ _,h,fun _=>c⟩
   ·show n<=SRun r (if decide (Kr r p n<Kr r p (n-1))=true then _ else _)/\SRun r (if decide (Kr r p n<Kr r p (n-1))=true then _ else _)<=_/\Up r p (SRun r (if decide (Kr r p n<Kr r p (n-1))=true then _ else _))/\(SRun r (if decide (Kr r p n<Kr r p (n-1))=true then _ else _)<_->Kr r p (SRun r (if decide (Kr r p n<Kr r p (n-1))=true then _ else _))<Kr r p (SRun r (if decide (Kr r p n<Kr r p (n-1))=true then _ else _)-1))
    rw[if_neg (by simpa using c)]
    have ih:=DA (p:=p) f (n+1) (by lia) (fun i hi hn=>by
     by_cases e:i=n
     ·rw[e];lia
     ·exact h i hi (by lia))
    refine⟨by lia,by lia,ih.2.2.1,fun z=>ih.2.2.2 (by lia)⟩
def Down(r:Nat->Int)(p:Array Nat)(n q:Nat):Prop:=(∀ i,1<=i->i<n->Kr r p i<=Kr r p (i-1))/\q+1<=n/\∀ i,n-(q+1)<=i->i<n->Kr r p i=Kr r p (n-1)
theorem Down.rev{p:Array Nat}{n q:Nat}(h:Down r p n q)(hn:n<=p.size)(k:Nat):Kr r (kas_rev p (n-(q+1)) n) k=Kr r p k:=by
 rw[zo hn]
 split
 ·rename_i hk
  rw[h.2.2 _ (by lia) (by have:=h.2.1;lia),h.2.2 k hk.1 hk.2]
 ·rfl
theorem oA:∀(f:Nat) {p:Array Nat} {n q:Nat},n+f<=p.size->Down r p n q->
 (SRun r (kas_desc f p n q)).1.size=p.size/\n<=(SRun r (kas_desc f p n q)).2.1/\(SRun r (kas_desc f p n q)).2.1<=n+f/\Down r (SRun r (kas_desc f p n q)).1 (SRun r (kas_desc f p n q)).2.1 (SRun r (kas_desc f p n q)).2.2
 | 0,p,n,q,_,h=>by
   rw[kas_desc.eq_1];exact⟨rfl,Nat.le_refl n,Nat.le_refl n,h⟩
 | f+1,p,n,q,hs,h=>by
   rw[kas_desc.eq_2];obtain⟨h1,h2,h3⟩:=id h
   by_cases c:Kr r p n<Kr r p (n-1)
   ·have dn:∀ p' : Array Nat,(∀ k,Kr r p' k=Kr r p k)->Down r p' (n+1) 0:=fun p' e=>by
     refine⟨fun i hi hn=>?_,by lia,fun i hi hn=>by rw[show i=n+1-1 by lia]⟩
     rw[e,e]
     by_cases z:i=n
     ·rw[z];lia
     ·exact h1 i hi (by lia)
    have e0:∀(T1 T2:KasT (Array Nat×Nat×Nat)),SRun r (KasT.ask (p.getD n 0) (p.getD (n-1) 0) fun c=>if c=true then T1 else T2)=SRun r T1:=fun T1 T2=>by
     show SRun r (if decide (Kr r p n<Kr r p (n-1))=true then T1 else T2)=_
     rw[if_pos (cD c)]
    rw[e0]
    by_cases hq:q > 0
    ·rw[if_pos hq];have ih:=oA f (p:=kas_rev p (n-(q+1)) n) (n:=n+1) (q:=0) (by rw[nv];lia) (dn _ (h.rev (by lia)))
     rw[nv]at ih;exact⟨ih.1,by lia,by lia,ih.2.2.2⟩
    ·rw[if_neg hq];have ih:=oA f (p:=p) (n:=n+1) (q:=0) (by lia) (dn _ fun _=>rfl)
     exact⟨ih.1,by lia,by lia,ih.2.2.2⟩
   ·have e0:∀(T1 T2:KasT (Array Nat×Nat×Nat)),SRun r (KasT.ask (p.getD n 0) (p.getD (n-1) 0) fun c=>if c=true then T1 else T2)=SRun r T2:=fun T1 T2=>by
     show SRun r (if decide (Kr r p n<Kr r p (n-1))=true then T1 else T2)=_
     rw[if_neg (by simpa using c)]
    rw[e0]
    by_cases d:Kr r p (n-1)<Kr r p n
    ·have e1:∀(T1 T2:KasT (Array Nat×Nat×Nat)),SRun r (KasT.ask (p.getD (n-1) 0) (p.getD n 0) fun c=>if c=true then T1 else T2)=SRun r T1:=fun T1 T2=>by
      show SRun r (if decide (Kr r p (n-1)<Kr r p n)=true then T1 else T2)=_
      rw[if_pos (cD d)]
     rw[e1];exact⟨rfl,Nat.le_refl n,Nat.le_add_right _ _,h⟩
    ·have e1:∀(T1 T2:KasT (Array Nat×Nat×Nat)),SRun r (KasT.ask (p.getD (n-1) 0) (p.getD n 0) fun c=>if c=true then T1 else T2)=SRun r T2:=fun T1 T2=>by
      show SRun r (if decide (Kr r p (n-1)<Kr r p n)=true then T1 else T2)=_
      rw[if_neg (by simpa using d)]
     rw[e1];have ih:=oA f (p:=p) (n:=n+1) (q:=q+1) (by lia) ⟨fun i hi hn=>by
      by_cases z:i=n
      ·rw[z];lia
      ·exact h1 i hi (by lia),by lia,fun i hi hn=>by
      rw[show n+1-1=n by lia]
      by_cases z:i=n
      ·rw[z]
      ·have:=h3 i (by lia) (by lia)
       lia⟩
     exact⟨ih.1,by lia,by lia,ih.2.2.2⟩
def Bw(r:Nat->Int)(n:Nat)(x:Nat×Array Nat):Prop:=x.2.size=n/\1<=x.1/\x.1<=n/\Up r x.2 x.1
theorem Bx{n nrem:Nat}{p:Array Nat}{q:Nat}(h:Down r p n q)(hn:1<=n)(hle:n<=nrem)(hs:p.size=nrem):Bw r nrem (SRun r (kas_tail3 n nrem p)):=by
 have up:Up r (kas_rev p 0 n) n:=fun i hi hi2=>by
  rw[zo (by lia),zo (by lia),if_pos (by lia),if_pos (by lia)]
  have:=h.1 (0+n-1-(i-1)) (by lia) (by lia)
  rw[show 0+n-1-(i-1)-1=0+n-1-i by lia]at this
  exact this
 have a:=DA (nrem-n) n hn up;unfold kas_tail3;rw[jq];exact⟨by show(kas_rev p 0 n).size=nrem;rw[nv,hs],by show 1<=SRun r _;lia,by show SRun r _<=nrem;lia,a.2.2.1⟩
theorem Down.congr{p p' : Array Nat}{n q:Nat}(h:Down r p n q)(e:∀ k,Kr r p' k=Kr r p k):Down r p' n q:=⟨fun i h1 h2=>by rw[e,e];exact h.1 i h1 h2,h.2.1,fun i h1 h2=>by rw[e,e];exact h.2.2 i h1 h2⟩
theorem By{n nrem:Nat}{p:Array Nat}(hn:1<=n)(hle:n+1<=nrem)(hs:p.size=nrem)(heq:∀ i,i<n->Kr r p i=Kr r p (n-1))(hlt:Kr r p n<Kr r p (n-1)):Bw r nrem (SRun r (kas_descPart n nrem p)):=by
 have d0:Down r p (n+1) 0:=⟨fun i h1 h2=>by
  by_cases z:i=n
  ·rw[z];lia
  ·rw[heq i (by lia),heq (i-1) (by lia)]
   exact Int.le_refl _,by lia,fun i h1 h2=>by rw[show i=n+1-1 by lia]⟩
 have d:=oA (nrem-(n+1)) (p:=p) (n:=n+1) (q:=0) (by lia) d0
 unfold kas_descPart;rw[jq];generalize SRun r (kas_desc (nrem-(n+1)) p (n+1) 0)=x at d;obtain⟨d1,d2,d3,d4⟩:=d
 by_cases hq:x.2.2 > 0
 ·rw[if_pos hq];exact Bx (d4.congr (d4.rev (by lia))) (by lia) (by lia) (by rw[nv,d1,hs])
 ·rw[if_neg hq];exact Bx d4 (by lia) (by lia) (by rw[d1,hs])
theorem GI{nrem:Nat}{p:Array Nat}(h1:1<=nrem)(hs:p.size=nrem):Bw r nrem (SRun r (kas_count nrem p)):=by
 have a:=DA (r:=r) (p:=p) (nrem-1) 1 (Nat.le_refl 1) (fun i hi hn=>by lia)
 unfold kas_count;rw[jq];generalize SRun r (kas_asc p (nrem-1) 1)=n at a;obtain⟨a1,a2,a3,a4⟩:=a
 by_cases e:(n==nrem)=true
 ·rw[if_pos e];exact⟨hs,a1,by show n<=nrem;lia,a3⟩
 ·rw[if_neg e];have e:n≠nrem:=by simpa using e
  have hlt:=a4 (by lia)
  by_cases h2:n > 1
  ·rw[if_pos h2]
   by_cases c:Kr r p 0<Kr r p (n-1)
   ·show Bw r nrem (SRun r (if decide (Kr r p 0<Kr r p (n-1))=true then _ else _))
    rw[if_pos (cD c)];exact⟨hs,a1,by show n<=nrem;lia,a3⟩
   ·show Bw r nrem (SRun r (if decide (Kr r p 0<Kr r p (n-1))=true then _ else _))
    rw[if_neg (by simpa using c)]
    have all:∀ i,i<n->Kr r p i=Kr r p (n-1):=fun i hi=>by
     have l1:=a3.le (show 0<=i by lia) hi
     have l2:=a3.le (show i<=n-1 by lia) (by lia)
     lia
    have er:∀ k,Kr r (kas_rev p 0 n) k=Kr r p k:=fun k=>by
     rw[zo (by lia)]
     split
     ·rw[all _ (by lia),all k (by lia)]
     ·rfl
    exact By a1 (by lia) (by rw[nv,hs]) (fun i hi=>by rw[er,er];exact all i hi) (by rw[er,er];exact hlt)
  ·rw[if_neg h2];have e1:n=1:=by lia
   subst e1;exact By a1 (by lia) hs (fun i hi=>by rw[show i=1-1 by lia]) hlt
theorem vJ{p:Array Nat}{k:Nat}(up:Up r p k):∀(f l u:Nat),u-l<=f->l<=u->u<=k->(∀ i,i<l->Kr r p i<=Kr r p k)->(∀ i,u<=i->i<k->Kr r p k<Kr r p i)->
 SRun r (kas_place p k f l u)<=k/\(∀ i,i<SRun r (kas_place p k f l u)->Kr r p i<=Kr r p k)/\∀ i,SRun r (kas_place p k f l u)<=i->i<k->Kr r p k<Kr r p i
 | 0,l,u,hf,hlu,huk,h1,h2=>by
   rw[kas_place.eq_1];have e:l=u:=by lia
   subst e;exact⟨huk,h1,h2⟩
 | f+1,l,u,hf,hlu,huk,h1,h2=>by
   rw[kas_place.eq_2]
   by_cases hx:l ≥ u
   ·rw[if_pos hx];have e:l=u:=by lia
    subst e;exact⟨huk,h1,h2⟩
   ·rw[if_neg hx]
    by_cases c:Kr r p k<Kr r p ((l+u)/2)
    ·have e0:∀(T1 T2:KasT Nat),SRun r (KasT.ask (p.getD k 0) (p.getD ((l+u)/2) 0) fun c=>if c=true then T1 else T2)=SRun r T1:=fun T1 T2=>by
      show SRun r (if decide (Kr r p k<Kr r p ((l+u)/2))=true then T1 else T2)=_
      rw[if_pos (cD c)]
     rw[e0];exact vJ up f l ((l+u)/2) (by lia) (by lia) (by lia) h1 fun i hi hk=>by
      have:=up.le hi hk
      lia
    ·have e0:∀(T1 T2:KasT Nat),SRun r (KasT.ask (p.getD k 0) (p.getD ((l+u)/2) 0) fun c=>if c=true then T1 else T2)=SRun r T2:=fun T1 T2=>by
      show SRun r (if decide (Kr r p k<Kr r p ((l+u)/2))=true then T1 else T2)=_
      rw[if_neg (by simpa using c)]
     rw[e0];exact vJ up f ((l+u)/2+1) u (by lia) (by lia) huk (fun i hi=>by
      have:=up.le (show i<=(l+u)/2 by lia) (by lia)
      lia) h2
theorem Kh:∀(f:Nat) {p:Array Nat} {k:Nat},k+f<=p.size->Up r p k->Up r (SRun r (kas_bin f p k)) (k+f)
 | 0,p,k,_,h=>by
   rw[kas_bin.eq_1];exact h
 | f+1,p,k,hs,h=>by
   rw[kas_bin.eq_2,jq];have pl:=vJ h k 0 k (by lia) (by lia) (Nat.le_refl k) (fun i hi=>by lia) (fun i h1 h2=>by lia)
   generalize SRun r (kas_place p k k 0 k)=l at pl;obtain⟨p1,p2,p3⟩:=pl;have up:Up r (bubble p k (k-l)) (k+1):=fun i hi hk=>by
    rw[Kg (by lia) (by lia),Kg (by lia) (by lia),show k-(k-l)=l by lia]
    by_cases c1:i=l
    ·rw[if_neg (by lia),if_neg (by lia),if_pos c1]
     exact p2 (i-1) (by lia)
    ·rw[if_neg c1]
     by_cases c2:l<i/\i<=k
     ·rw[if_pos c2]
      by_cases c3:i-1=l
      ·rw[if_pos c3];exact Int.le_of_lt (p3 (i-1) (by lia) (by lia))
      ·rw[if_neg c3,if_pos (by lia)]
       exact h (i-1) (by lia) (by lia)
     ·rw[if_neg c2,if_neg (by lia),if_neg (by lia)]
      exact h i hi (by lia)
   have:=Kh f (p:=bubble p k (k-l)) (k:=k+1) (by rw[bubble_size];lia) up
   rw[show k+(f+1)=k+1+f by lia]
   exact this
theorem Fi{n:Nat}(hn:1<=n):Up r (SRun r (kas_sort n)) n:=by
 unfold kas_sort;rw[jq];have c:=GI (r:=r) (p:=List.toArray (List.range n)) hn (by simp)
 generalize SRun r (kas_count n (List.toArray (List.range n)))=x at c;obtain⟨c1,c2,c3,c4⟩:=c
 by_cases hx:x.1<n
 ·rw[if_pos hx];have:=Kh (n-max x.1 1) (p:=x.2) (k:=max x.1 1) (by lia) (by rw[show max x.1 1=x.1 by lia];exact c4)
  rw[show max x.1 1+(n-max x.1 1)=n by lia]at this
  exact this
 ·rw[if_neg hx];have e:x.1=n:=by lia
  rw[e]at c4;exact c4
end
theorem zp:bootBuiltins "sorted"=some (.builtin "sorted"):=by kernel_rfl
def kx(z:Int×Int):Int:=z.1*1073741824+z.2
def MQ(z:Int×Int):Prop:=0<=z.2/\z.2<1073741824
section
variable {X:Cx}{pq:aR}{σ:St}{H H2:Hp}{s:Shared}
theorem Inv.MR{a:Addr}{xs:List V}{ob:Obj}(I:Inv X pq σ H s)(e:H a=some (.lst xs))(ho:s.heap.get? a=some ob):Inv X pq σ (upd H a (.mX ob (.lst xs))) s:=by
 have ne:∀ b,H b=none->b≠a:=fun b h z=>by rw[z,e]at h;cases h
 refine⟨I.ok,I.os,I.bare,⟨I.base.keep,I.base.slot,fun b o q n hx=>?_,I.base.there,fun b xs q=>?_,fun b o u q=>?_,fun b ps q=>?_⟩,I.loc,I.cell,?_,fun x c q=>?_,fun p hp=>?_,fun b u q=>?_,I.len⟩
 ·have z:=I.base.free b o q n hx;rw[ao (ne b z)];exact z
 ·have z:=I.base.tups b xs q;rw[ao (aS z e (by intro z;cases z))]
  exact z
 ·have z:=I.base.lC b o u q;rw[ao (aS z e (by intro z;cases z))]
  exact z
 ·obtain⟨more,z⟩:=I.base.mY b ps q;exact⟨more,by rw[ao (aS z e (by intro z;cases z))];exact z⟩
 ·rw[ao (ne _ I.free)];exact I.free
 ·rw[ao (ne _ (I.fK x c q))];exact I.fK x c q
 ·obtain⟨a1,a2,a3⟩:=I.pin p hp;exact⟨a1,by rw[ao (ne _ a2)];exact a2,a3⟩
 ·by_cases hb:b=a
  ·subst hb;rw[ae]at q;cases q;exact⟨ho,(I.hok b _ e).stay (fun _ _ _ q=>q) (fun c q=>by rw[ao (aS q e (by intro z;cases z))];exact q) fun c xs q=>by rw[ao (aS q e (by intro z;cases z))];exact q⟩
  ·rw[ao hb]at q;exact(I.hok b u q).stay (fun _ _ _ q=>q) (fun c q=>by rw[ao (aS q e (by intro z;cases z))];exact q) fun c xs q=>by rw[ao (aS q e (by intro z;cases z))];exact q
theorem Inv.Sd{vA:aR}{σ0:St}{s0:Shared}{a:Addr}{xs:List V}{ob:Obj}(I0:Inv X vA σ0 H s0)(e0:H a=some (.lst xs))(I:Inv X pq σ H2 s)(e:H2 a=some (.mX ob (.lst xs))):
 Inv X pq σ (upd H2 a (.lst xs)) s:=by
 have ne:∀ b,H2 b=none->b≠a:=fun b h z=>by rw[z,e]at h;cases h
 obtain⟨ho,hd⟩:=(show bJ X.prog X.w H2 s.heap a (.mX ob (.lst xs)) from I.hok a _ e)
 refine⟨I.ok,I.os,I.bare,⟨I.base.keep,I.base.slot,fun b o q n hx=>?_,I.base.there,fun b xs q=>?_,fun b o u q=>?_,fun b ps q=>?_⟩,I.loc,I.cell,?_,fun x c q=>?_,fun p hp=>?_,fun b u q=>?_,I.len⟩
 ·have z:=I.base.free b o q n hx;rw[ao (ne b z)];exact z
 ·have z:=I.base.tups b xs q;rw[ao (aS z e (by intro z;cases z))]
  exact z
 ·have z:=I.base.lC b o u q;rw[ao (fun y=>by
   have z0:=I0.base.lC b o u q;rw[y,e0]at z0;cases z0)]
  exact z
 ·obtain⟨more,z⟩:=I.base.mY b ps q;exact⟨more,by rw[ao (aS z e (by intro z;cases z))];exact z⟩
 ·rw[ao (ne _ I.free)];exact I.free
 ·rw[ao (ne _ (I.fK x c q))];exact I.fK x c q
 ·obtain⟨a1,a2,a3⟩:=I.pin p hp;exact⟨a1,by rw[ao (ne _ a2)];exact a2,a3⟩
 ·by_cases hb:b=a
  ·subst hb;rw[ae]at q;cases q;exact hd.stay (fun _ _ _ q=>q) (fun c q=>by rw[ao (aS q e (by intro z;cases z))];exact q) fun c xs q=>by rw[ao (aS q e (by intro z;cases z))];exact q
  ·rw[ao hb]at q;exact(I.hok b u q).stay (fun _ _ _ q=>q) (fun c q=>by rw[ao (aS q e (by intro z;cases z))];exact q) fun c xs q=>by rw[ao (aS q e (by intro z;cases z))];exact q
end
def yv(h:Heap)(v:Value)(z:Int×Int):Prop:=∃(a:Addr) (o:Obj) (t u:Tok) (k:Nat),v = .ref a/\h.get? a=some o/\o.cls = .type "tuple"/\o.data = .seq #[.int z.1 t,.int z.2 u] k
theorem yv.pair{h:Heap}{v:Value}{z:Int×Int}(q:yv h v z):ND h v:=let⟨a,o,t,u,k,q⟩:=q;⟨a,o,z.1,z.2,t,u,k,q⟩
theorem yw{prog:Program}{w:World}{A:Around}{s:Shared}{vs:List Value}{n:Nat}{zs:Nat->Int×Int}(hz:∀ i,i<n->MQ (zs i))(hv:∀ i,i<n->yv s.heap (vs.getD i Value.none) (zs i)):
 ∀ i j C,i<n->j<n->C (decide (kx (zs i)<kx (zs j))) s->kas_ask prog w A (tuples' true) vs i j C s:=by
 intro i j C hi hj hC;unfold kas_ask;obtain⟨a,o,t,u,k,e,ho,_,hd⟩:=hv i hi;obtain⟨a',o',t',u',k',e',ho',_,hd'⟩:=hv j hj;have oi:=hz i hi;have oj:=hz j hj;generalize zs i=z at hd hC oi;generalize zs j=z' at hd' hC oj;obtain⟨x,y⟩:=z;obtain⟨x',y'⟩:=z';unfold kx at hC;unfold MQ at oi oj;dsimp only at hd hd' hC oi oj;rw[e,e'];refine kat_lt ho hd ho' hd' ?_;show KatLex prog w A true _ C [(.int x t,.int x' t'),(.int y u,.int y' u')] 0 s;rw[KatLex.eq_2];refine wpAny_eqBool_int ?_
 by_cases ex:x=x'
 ·rw[show(x==x')=true by simpa using ex]
  rw[if_pos rfl,KatLex.eq_2];refine wpAny_eqBool_int ?_
  by_cases ey:y=y'
  ·rw[show(y==y')=true by simpa using ey]
   rw[if_pos rfl,KatLex.eq_1];rw[c7 (by lia)]at hC
   exact hC
  ·rw[show(y==y')=false by simpa using ey]
   rw[if_neg Bool.false_ne_true];refine kat_one _ _ (lt_int ?_);have e2:decide (y<y')=decide (x*1073741824+y<x'*1073741824+y'):=decide_eq_decide.mpr (by lia)
   rw[<-e2]at hC;exact hC
 ·rw[show(x==x')=false by simpa using ex]
  rw[if_neg Bool.false_ne_true];refine oneLt_int ?_;have e2:decide (x<x')=decide (x*1073741824+y<x'*1073741824+y'):=decide_eq_decide.mpr (by lia)
  rw[<-e2]at hC;exact hC
def Pp(P:Addr)(q:Str)(lp:Pos)(ta:TA)(te:TE)(js:List Nat):TE:=fun σ H Q=>ta σ H fun vs H1=>∃(a:Addr) (ns:List Int) (kf:Int->Int×Int),vs=[.ref a]/\H1 a=some (.lst (ns.map V.int))/\ns.length<64/\(∀ n∈ns,MQ (kf n))/\H1 P=some (.ju (eI q lp))/\
 (∀ H3,(∀ b u,H1 b=some u->(∀ y,u≠.own y)->(∀ qs,u≠.ju qs)->H3 b=some u)->∀ n∈ns,te (some (.int n)::fJ σ js) H3 fun v H4=>aq H3 H4/\∃ d,v = .ref d/\H4 d=some (.tup [.int (kf n).1,.int (kf n).2]))/\
 ∀(l:Addr) (ns' : List Int) H4,H1 l=none->aq H1 H4->H4 l=some (.lst (ns'.map V.int))->ns'.Perm ns->ns'.Pairwise (fun x y=>kx (kf x)<=kx (kf y))->Q (.ref l) H4
section
variable {X:Cx}{pq:aR}{σ:St}{H2:Hp}
theorem GJ{A:Around}{E:eK}{P:PySem.Fin->Shared->Prop}{s:Shared}{H3:Hp}{D kS:Addr}{e e1:Nat}{its:List Value}{ns:List Int}{ds:List Addr}{kf:Int->Int×Int}
 (I:Inv X ((kS,seqObj "list" (ds.map Value.ref).toArray e)::pq) σ H3 s) (oK:Du X kS) (pK:∀ p∈pq,p.1≠kS) (hD:H3 D=some (.mX (seqObj "list" #[] e1) (.lst []))) (rv:Vals (ns.map V.int) its) (hn:ns.length<64) (hdl:ds.length=ns.length)
 (hk:∀(j:Nat) d n,ds[j]?=some d->ns[j]?=some n->H3 d=some (.tup [.int (kf n).1,.int (kf n).2])) (hok:∀ n∈ns,MQ (kf n))
 {vA:aR} {σ0:St} {s0:Shared} {H0:Hp} (I0:Inv X vA σ0 H0 s0) (e0:H0 D=some (.lst []))
 (fin:∀(s' : Shared) (ns' : List Int),ns'.Perm ns->ns'.Pairwise (fun x y=>kx (kf x)<=kx (kf y))->Inv X pq σ (upd (upd H3 D (.lst [])) D (.lst (ns'.map V.int))) s'->P (.done (.ret .none)) s') :
 wpAny (model X.prog X.w) A (ksk_end D false its.toArray e1 (.ref kS) ((ds.map Value.ref).toArray)) P E s:=by
 have hl:its.length=ns.length:=by have:=rv.length;rw[List.length_map]at this;lia
 obtain⟨hDo,_⟩:=(show bJ X.prog X.w H3 s.heap D (.mX (seqObj "list" #[] e1) (.lst [])) from I.hok D _ hD)
 have DB:=I.pin (kS,seqObj "list" (ds.map Value.ref).toArray e) (i9 _ (.head _));have hDK:D≠kS:=fun z=>by
  have:=DB.2.1;rw[<-z,hD]at this;cases this
 have tail:∀(st:SortSt) (ns' : List Int) (out:List Value),(arrOf st).map (·.2)=out.toArray->out.length<64->failedOf st=none->ns'.Perm ns->ns'.Pairwise (fun x y=>kx (kf x)<=kx (kf y))->Vals (ns'.map V.int) out->wpAny (model X.prog X.w) A (ksk_tail D false e1 (.ref kS) st) P E s:=by
  intro st ns' out hout hz hf hp hs hv;have s1:=Heap.SameBut.update s.heap kS (Obj.mapSeq fun _=>(#[]:Array Value))
  have tO:(s.heap.update kS (Obj.mapSeq fun _=>(#[]:Array Value))).get? D=some (seqObj "list" #[] e1):=(s1.2 D hDK).trans hDo
  have s2:=Heap.SameBut.update (s.heap.update kS (Obj.mapSeq fun _=>(#[]:Array Value))) D (Obj.mapSeq fun _=>out.toArray)
  obtain⟨c2,hc2⟩:∃ c2,((s.heap.update kS (Obj.mapSeq fun _=>(#[]:Array Value))).update D (Obj.mapSeq fun _=>out.toArray)).get? D=some (seqObj "list" out.toArray c2):=⟨_,get?_update_seq tO fun _=>out.toArray⟩
  unfold ksk_tail
  try dsimp only
  rw[hout];refine aQ (listUpdate_at DB.1 rfl ?_ (by rw[List.size_toArray,List.length_map,sizeLine_eq];lia) (Nat.zero_le _))
  refine aQ (wpAny_letGo ?_);refine aQ (seqEpoch_at tO rfl ?_);refine aQ (listUpdate_at tO rfl ?_ (Nat.zero_le _) (by show out.toArray.size<=_;rw[List.size_toArray,sizeLine_eq];lia))
  rw[hf];simp only[bne_self_eq_false,Bool.false_eq_true,if_false];have J1:=I.j9 (t':=s.toks) (h':=s.heap.update kS (Obj.mapSeq fun _=>(#[]:Array Value))) (pb:=pq) oK (.head _) (fun c u ne e=>(s1.2 c ne).trans e) (fun p hp=>.inr ⟨.tail _ hp,pK p hp⟩)
  have J2:=Inv.Sd I0 e0 J1 hD;have J3:=J2.write (x:=D) (e:=D) (o:=.lst (ns'.map V.int)) (t':=s.toks) (h':=(s.heap.update kS (Obj.mapSeq fun _=>(#[]:Array Value))).update D (Obj.mapSeq fun _=>out.toArray)) (by rw[ae];trivial) (.inl rfl) (fun b u nb eb=>(s2.2 b nb).trans eb) ⟨_,hc2⟩
   ⟨by rw[List.length_map,hp.length_eq,sizeLine_eq];lia,out,c2,hv,hc2⟩
  exact wpAny_pure (fin _ ns' hp hs J3)
 by_cases h2:2<=ns.length
 ·have kv:∀ i,i<its.length->yv s.heap ((ds.map Value.ref).getD i Value.none) (kf (ns.getD i 0)):=fun i hi=>by
   have e1:ds[i]?=some (ds[i]'(by lia)):=List.getElem?_eq_getElem _
   have e2:ns[i]?=some (ns[i]'(by lia)):=List.getElem?_eq_getElem _
   have hd:=hk i _ _ e1 e2;obtain⟨ts,rt,⟨o,eo,hc,n,hdt⟩,_⟩:=I.tuple (aV.of hd);have g1:(ds.map Value.ref).getD i Value.none = .ref (ds[i]'(by lia)):=by rw[List.getD_eq_getElem?_getD,List.getElem?_map,e1];rfl
   have g2:ns.getD i 0=ns[i]'(by lia):=by rw[List.getD_eq_getElem?_getD,e2];rfl
   rw[g1,g2]
   match ts,rt with
   | [_,_],.cons ⟨t,rfl⟩ (.cons ⟨u,rfl⟩ .nil)=>exact⟨_,o,t,u,n,rfl,eo,hc,hdt⟩
  have kz:∀ i,i<its.length->MQ (kf (ns.getD i 0)):=fun i hi=>by
   have e2:ns[i]?=some (ns[i]'(by lia)):=List.getElem?_eq_getElem _
   rw[List.getD_eq_getElem?_getD,e2];exact hok _ (List.getElem_mem _)
  have hlk:(ds.map Value.ref).length=its.length:=by rw[List.length_map];lia
  have hn2 : ¬ its.toArray.size<2:=by rw[List.size_toArray];lia
  unfold ksk_end
  try dsimp only
  rw[if_neg Bool.false_ne_true,if_neg hn2,if_neg hn2,if_neg Bool.false_ne_true];refine aQ (yj (by rw[List.length_map];lia) (fun v hv=>?_) ?_)
  ·obtain⟨i,hi,rfl⟩:=List.mem_iff_getElem.mp hv;have:=(kv i (by lia)).pair
   rw[List.getD_eq_getElem?_getD,List.getElem?_eq_getElem hi]at this;exact this
  refine aQ (wpAny_mono (kat_run (Q:=fun st' s'=>s' = s/\∃ p:Array Nat,dz its.length p/\Up (fun i=>kx (kf (ns.getD i 0))) p its.length/\(arrOf st').map (·.2)=(p.toList.map fun i=>its.getD i Value.none).toArray/\failedOf st' = none) (G:=fun p s'=>s' = s/\dz its.length p/\Up (fun i=>kx (kf (ns.getD i 0))) p its.length)
   hlk (by lia) (by lia) (fun p st' s' a1 a2 a3 a4=>⟨a4.1,p,a4.2.1,a4.2.2,kat_snds hlk a2,a3⟩) ?_) ?_ fun _ _ x=>x)
  ·exact zm (r:=fun i=>kx (kf (ns.getD i 0))) (n:=its.length) (yw kz kv) (Fb (by lia)) fun hg=>⟨rfl,hg,Fi (by lia)⟩
  ·rintro⟨⟨⟩,st'⟩ s' ⟨rfl,p,hg,hu,har,hf⟩
   try dsimp only
   have hpl:p.toList.length=its.length:=by have:=hg.length_eq;rw[List.length_range]at this;exact this
   refine tail st' (p.toList.map fun i=>ns.getD i 0) _ har (by rw[List.length_map];lia) hf ?_ ?_ ?_
   ·have h1:=List.Perm.map (fun i=>ns.getD i 0) hg
    have h3:(List.range its.length).map (fun i=>ns.getD i 0)=ns:=by
     rw[hl];refine List.ext_getElem (by simp) fun i h1 h2=>?_
     simp[List.getD_eq_getElem?_getD,List.getElem?_eq_getElem h2]
    rw[h3]at h1;exact h1
   ·rw[List.pairwise_map,List.pairwise_iff_getElem];intro i j hi hj hij;have:=hu.le (Nat.le_of_lt hij) (by lia)
    have ga:∀ i (hi:i<p.toList.length),p.getD i 0=p.toList[i]:=fun i hi=>by
     rw[Array.getD_eq_getD_getElem?,<-Array.getElem?_toList,List.getElem?_eq_getElem hi];rfl
    unfold Kr at this;rw[ga i hi,ga j hj]at this;exact this
   ·have:∀ l:List Nat,(∀ i∈l,i<ns.length)->Vals ((l.map fun i=>ns.getD i 0).map V.int) (l.map fun i=>its.getD i Value.none):=fun l=>by
     induction l with
     | nil=>exact fun _=>.nil
     | cons i l ih =>
       intro h;refine .cons ?_ (ih fun j hj=>h j (kU _ hj))
       have hi:=h i List.mem_cons_self;have h1:(ns.map V.int)[i]?=some (.int (ns.getD i 0)):=by
        rw[List.getElem?_map,List.getD_eq_getElem?_getD,List.getElem?_eq_getElem hi];rfl
       obtain⟨u,hu,ru⟩:=rv.get h1;have gu:its.getD i Value.none=u:=by rw[List.getD_eq_getElem?_getD,hu];rfl
       show RelV (V.int (ns.getD i 0)) (its.getD i Value.none);rw[gu];exact ru
    refine this _ fun i hi=>?_
    have:=List.mem_range.mp (hg.mem_iff.mp hi)
    lia
 ·have hn2:its.toArray.size<2:=by rw[List.size_toArray];lia
  unfold ksk_end
  try dsimp only
  rw[if_neg Bool.false_ne_true,if_pos hn2,if_pos hn2,if_neg Bool.false_ne_true];refine aQ (wpAny_pure ?_);refine aQ (m:=pure ((),SortSt.mk' general' (((ds.map Value.ref).toArray).zip its.toArray) #[] 7 none)) (wpAny_pure ?_);refine tail _ ns its ?_ (by lia) rfl (List.Perm.refl _) ?_ rv
  ·show Array.map (fun x:Keyed=>x.snd) (((ds.map Value.ref).toArray).zip its.toArray)=its.toArray
   apply Array.toList_inj.mp;simp;exact List.map_snd_zip (by rw[List.length_map];lia)
  ·match ns,h2 with
   | [],_=>exact .nil
   | [x],_=>exact List.pairwise_singleton _ _
   | _::_::_,h2=>exact absurd (by simp:2<=_) h2
end
section
variable {X:Cx}{params:Arguments}{body e:Expr}{scope:Scope}{lp p pos kp:Pos}{fq:List Str}{js:List Nat}{x:Str}{ta:TA}{te:TE}{c0 P:Addr}{k:Nat}
theorem Kl(hr:fH (k+3) X.A)(T:dS X scope [x] fq js)(hx:scope.names.lookup x=some .local)(hg:Gl X "sorted")(hm:X.mg "sorted"=none)(hcode:X.env.code = .ref c0)(hK:PySem.W.codeHdIn X.K c0 P=true)(ha:PA X [e] ta)
 (he:∀ f c s H,fH k (vB X ([x]++fq) scope f c X.A.in1.in1 s H).A->PE (vB X ([x]++fq) scope f c X.A.in1.in1 s H) body te)
 (hb:∀ c ctv u,bindArgs (Bm X params body scope c ctv) ⟨[u],[]⟩=pure [(x,u)]:=by intro _ _ _;rfl) (hco:scope.isCoroutine=false:=by rfl) (hgen:scope.isGenerator=false:=by rfl)
 (hdef:defaultsOf params X.env=([],[]):=by rfl)
 (hs:backTo pos (starEach [e] X.env)=(false,eval e X.env)::backTo pos (starEach [] X.env):=by rfl) (hs2:(backTo pos (starEach [e] X.env)).any (·.1)=false:=by rfl) :
 PE X (.Call (.Name "sorted" p) [e] [⟨some (Str.ofString "key"),.Lambda params body scope lp,kp⟩] pos) (Pp P (X.env.qual ++ "<lambda>") lp ta te js):=by
 intro pq s σ H Q I h;refine wpAny_Call_Name_kw (lD I hg hm zp (callWith_kw (dH (ha pos pq s σ H _ I h) fun us s1 hq=>?_) hs hs2 rfl rfl))
 obtain⟨vs,H1,I1,r1,a,ns,kf,rfl,hda,h64,hok,hP,hturn,Pb⟩:=hq;obtain⟨u,rfl,rx⟩:=vals1 r1;cases rx;refine kws_cons (Bo I1 T hcode hK hP hdef fun f c oc ctv s2 hc Bp hoc J=>kws_nil ?_)
 show wpAny _ X.A (call (.builtin "sorted") [.ref a] [(Str.ofString "key",.ref f)]) _ _ s2;have hla:=ur (oc:=oc) hP hc hda (by intro y z;cases z) (by intro y z;cases z)
 have Pc:gp H1 P c oc (X.env.qual ++ "<lambda>") lp P=some (.ju (eI (X.env.qual ++ "<lambda>") lp++oO lp c)):=ae;have MM:gp H1 P c oc (X.env.qual ++ "<lambda>") lp c=some (.mX oc (.own P)):=by unfold gp;rw[ao Bp,ae]
 have NL:∀ b,gp H1 P c oc (X.env.qual ++ "<lambda>") lp b=none->H1 b=none:=fun b hb=>by
  have bP:b≠P:=fun z=>by rw[z,Pc]at hb;cases hb
  have bc:b≠c:=fun z=>by rw[z,MM]at hb;cases hb
  unfold gp at hb
  rwa [ao bP,ao bc]at hb
 have Xf:∀ b u,H1 b=some u->(∀ y,u≠.own y)->(∀ qs,u≠.ju qs)->gp H1 P c oc (X.env.qual ++ "<lambda>") lp b=some u:=fun b u eb n1 n2=>ur hP hc eb n1 n2
 generalize hLd:gp H1 P c oc (X.env.qual ++ "<lambda>") lp=HL at J hla Pc MM NL Xf;obtain⟨its,rv,⟨o,n,ho,hcl,hdt,hd⟩,hz⟩:=J.list (aM.of hla);have hl:=rv.length;rw[List.length_map]at hl;have hsl:its.length<=sizeLine:=dl (Nat.ble_eq.mpr (by lia))
 refine call_function_entry_kw kind_sorted plain_sorted entry_sorted (ksk_s1 _ _) ?_;unfold Builtin.«sorted»;refine aQ (m:=checkCount "sorted" 1 1 _) (wpAny_pure ?_);refine aQ (wpAny_collect_seq a (T:="list") (.inl rfl) ho hcl hd (fun h1 hk=>?_) (by rw[List.size_toArray];exact hsl))
 have J1:=J.kept (t':=s2.toks) hk;have hfr:HL h1.objs.size=none:=J1.hok.fresh (Nat.le_refl _);refine aQ (wpAny_newList ?_ (by simpa using hsl))
 have e0:its.toArray.toList=its:=by simp
 rw[e0];have Cw:(h1.push (seqObj "list" its.toArray 0)).get? h1.objs.size=some (seqObj "list" its.toArray 0):=Heap.get?_push_size _ rfl;have J2:Inv X ((f,eJ X params body scope c ctv)::pq) σ (upd HL h1.objs.size (.lst (ns.map V.int))) { s2 with heap:=h1.push (seqObj "list" its.toArray 0)}:=by
  refine J1.laid (t':=s2.toks) (fun b o hb=>?_) (Nat.le_refl _) ⟨?_,its,0,rv,Cw⟩
  ·rw[Heap.get?_push_ne _ _ _ (Nat.ne_of_lt (Heap.lt_size hb))];exact hb
  ·rw[List.length_map,hl];exact hsl
 generalize hDd:h1.objs.size=D at hfr Cw J2;refine aQ (wpAny_holding (wpAny_call_entry_kw slot_list_sort ⟨_,Cw,rfl⟩ entry_list_sort ?body (ksk_l1 _ _)));show wpAny (model X.prog X.w) X.A.in1.in1 (Builtin.«list.sort» ⟨[.ref D],[(Str.ofString "key",.ref f)]⟩) _ _ _;rw[ksk_t1];generalize h1.push (seqObj "list" its.toArray 0)=h2 at Cw J2;have s1':=Heap.SameBut.update h2 D (Obj.mapSeq fun _=>(#[]:Array Value))
 obtain⟨e1,Lr⟩:∃ e1,(h2.update D (Obj.mapSeq fun _=>(#[]:Array Value))).get? D=some (seqObj "list" #[] e1):=⟨_,get?_update_seq Cw fun _=>#[]⟩
 unfold ksk_tree;refine aQ (listItems_at Cw rfl ?_);refine aQ (listUpdate_at Cw rfl ?_ (by rw[List.size_toArray];exact hsl) (Nat.zero_le _))
 refine aQ (seqEpoch_at Lr rfl ?_);refine aQ (wpAny_newTuple ?_ (by show its.toArray.toList.length<=_;rw[e0];exact hsl))
 refine aQ (wpAny_newList ?_ (Nat.zero_le _));refine wpAny_holding ?_;have J3:=J2.write (x:=D) (e:=D) (o:=.lst []) (t':=s2.toks) (h':=h2.update D (Obj.mapSeq fun _=>(#[]:Array Value))) (by rw[ae];trivial) (.inl rfl) (fun b u nb eb=>(s1'.2 b nb).trans eb) ⟨_,Lr⟩ ⟨Nat.zero_le _,[],e1,.nil,Lr⟩
 have J4:=J3.MR (a:=D) ae Lr;generalize L8:upd (upd (upd HL D (.lst (ns.map V.int))) D (.lst [])) D (.mX (seqObj "list" #[] e1) (.lst []))=H2 at J4;have at2:∀ b u,HL b=some u->H2 b=some u:=fun b u eb=>by
  have nb:b≠D:=fun z=>by rw[z,hfr]at eb;cases eb
  rw[<-L8,ao nb,ao nb,ao nb];exact eb
 have iV:H2 D=some (.mX (seqObj "list" #[] e1) (.lst [])):=by rw[<-L8,ae]
 generalize h2.update D (Obj.mapSeq fun _=>(#[]:Array Value))=h3 at J3 J4
 rw[e0];have hkk:∀ b u,h3.get? b=some u->((h3.push (seqObj "tuple" its.toArray 0)).push (seqObj "list" #[] 0)).get? b=some u:=fun b u eb=>Heap.get?_push_of_some _ (Heap.get?_push_of_some _ eb)
 have hS:(h3.push (seqObj "tuple" its.toArray 0)).objs.size=h3.objs.size+1:=size_push' ..;have oK:=J4.JT (b:=(h3.push (seqObj "tuple" its.toArray 0)).objs.size) (by show h3.objs.size<=_;rw[hS];exact Nat.le_succ _)
 have gK:((h3.push (seqObj "tuple" its.toArray 0)).push (seqObj "list" #[] 0)).get? (h3.push (seqObj "tuple" its.toArray 0)).objs.size=some (seqObj "list" #[] 0):=Heap.get?_push_size _ rfl;have frK:H2 (h3.push (seqObj "tuple" its.toArray 0)).objs.size=none:=J4.hok.fresh (by show h3.objs.size<=_;rw[hS];exact Nat.le_succ _)
 have MN:∀ q∈(f,eJ X params body scope c ctv)::pq,q.1<h3.objs.size:=fun q hq=>Heap.lt_size (J4.pin q (i9 _ hq)).1
 have J5:Inv X (((h3.push (seqObj "tuple" its.toArray 0)).objs.size,seqObj "list" #[] 0)::(f,eJ X params body scope c ctv)::pq) σ H2 { s2 with heap:=(h3.push (seqObj "tuple" its.toArray 0)).push (seqObj "list" #[] 0)}:=by
  have K:=J4.kept (t':=s2.toks) hkk;refine K.gD fun q hq=>?_
  rcases List.mem_cons.mp hq with rfl|hq
  ·exact⟨gK,frK,oK.2.1,oK.2.2.1,fun v z=>by cases z⟩
  ·exact K.pin q (i9 _ hq)
 have pK:∀ q∈(f,eJ X params body scope c ctv)::pq,q.1≠(h3.push (seqObj "tuple" its.toArray 0)).objs.size:=fun q hq=>by
  have:=MN q hq;rw[hS];exact Nat.ne_of_lt (Nat.lt_succ_of_lt this)
 have Xg:its.toArray.size=its.length:=List.size_toArray ..;show wpAny (model X.prog X.w) X.A.in1.in1 (ksk_rest D (.ref f) false its.toArray e1 (.ref (h3.push (seqObj "tuple" its.toArray 0)).objs.size)) _ _ { s2 with heap:=(h3.push (seqObj "tuple" its.toArray 0)).push (seqObj "list" #[] 0)}
 generalize (h3.push (seqObj "tuple" its.toArray 0)).objs.size=kS at oK J5 pK;generalize (h3.push (seqObj "tuple" its.toArray 0)).push (seqObj "list" #[] 0)=h4 at J5;unfold ksk_rest;refine aQ (wpAny_rule ?_);rw[List.forIn_toArray];refine aQ (ksk_fold (fun i s'=>∃ H3 ds en,aq H2 H3/\Inv X ((kS,seqObj "list" ((ds.map Value.ref).toArray) en)::(f,eJ X params body scope c ctv)::pq) σ H3 s'/\ds.length=i/\∀(j:Nat) d n,ds[j]?=some d->ns[j]?=some n->H3 d=some (.tup [.int (kf n).1,.int (kf n).2]))
  its 0 _ ⟨H2,[],0,aq.refl _,J5,rfl,fun j d n z=>by cases z⟩ ?_ ?_)
 ·rintro j y s' hy ⟨H3,ds,en,CA,I3,hdl,hkeys⟩;rw[Nat.zero_add]at hdl ⊢;have hj:j<its.length:=(jQ.mp hy).1;have Xh:ns[j]?=some (ns[j]'(by lia)):=List.getElem?_eq_getElem _
  obtain⟨uu,hu,ru⟩:=rv.get (show(ns.map V.int)[j]?=some (.int (ns[j]'(by lia))) by rw[List.getElem?_map,Xh];rfl)
  rw[hy]at hu;cases hu;obtain⟨hct,_⟩:=(show bJ X.prog X.w H3 s'.heap c (.mX oc (.own P)) from I3.hok c _ (CA _ _ (at2 _ _ MM)))
  have hroom:X.A.in1.in1.depth<recursionLimit:=((hr.in1).in1).depth;refine aQ (wpAny_attempt (wpAny_mono (Bs (v:=.int (ns[j]'(by lia))) I3 T hx I3.ok.frames rfl hroom (List.Mem.tail _ (.head _)) (hoc.rec hct) (hb c ctv _) hco hgen (he f c s' H3 (((hr.in1).in1).deeper _)) ru
   (hturn H3 (fun b u eb n1 n2=>CA _ _ (at2 _ _ (Xf b u eb n1 n2))) _ (List.getElem_mem _))) (fun v s3 hv=>?_) fun _ _ z=>z))
  obtain⟨w',H4,I4,rw',Xi,d,rfl,hd4⟩:=hv;cases rw';have DB:=I4.pin (kS,_) (i9 _ (.head _));have sb:=Heap.SameBut.update s3.heap kS (Obj.mapSeq (·.push (.ref d)));have ea:((ds.map Value.ref).toArray).push (.ref d)=((ds++[d]).map Value.ref).toArray:=by simp
  obtain⟨c2,hc2⟩:∃ c2,(s3.heap.update kS (Obj.mapSeq (·.push (.ref d)))).get? kS=some (seqObj "list" (((ds++[d]).map Value.ref).toArray) c2):=⟨_,by rw[<-ea];exact get?_update_seq DB.1 (·.push (.ref d))⟩
  try dsimp only
  refine aQ (listUpdate_at DB.1 rfl ?_ (by rw[List.size_toArray,List.length_map,sizeLine_eq];lia) (Nat.le_trans (Nat.le_of_eq (Array.size_push ..)) (by rw[List.size_toArray,List.length_map,sizeLine_eq];lia)))
  refine wpAny_pure ⟨rfl,H4,ds++[d],c2,fun b u z=>Xi _ _ (CA _ _ z),?_,by rw[List.length_append,List.length_singleton,hdl],fun i d' n' e1 e2=>?_⟩
  ·exact I4.j9 (t':=s3.toks) oK (.head _) (fun b u nb eb=>(sb.2 b nb).trans eb) fun q hq=>by
    rcases List.mem_cons.mp hq with rfl|hq
    ·exact .inl ⟨rfl,hc2,fun v z=>by cases z⟩
    ·exact .inr ⟨.tail _ hq,pK q hq⟩
  ·by_cases hi:i<ds.length
   ·rw[List.getElem?_append_left hi]at e1;exact Xi _ _ (hkeys i d' n' e1 e2)
   ·rw[List.getElem?_append_right (by lia)]at e1
    have hi2:i=j:=by
     have:=(jQ.mp e1).1;rw[List.length_singleton]at this
     lia
    subst hi2;rw[hdl,Nat.sub_self]at e1;have e1:d=d':=by simpa using e1
    rw[Xh]at e2;cases e2;rw[<-e1];exact hd4
 ·rintro s' ⟨H3,ds,en,CA,I3,hdl,hkeys⟩;rw[Nat.zero_add]at hdl;have DB:=I3.pin (kS,_) (i9 _ (.head _))
  try dsimp only
  refine aQ (listItems_at DB.1 rfl ?_);refine GJ I3 oK pK (CA _ _ iV) rv h64 (by lia) hkeys hok J3 ae fun s5 ns' hp VL I5=>⟨_,rfl,wpAny_pure ⟨_,rfl,?_⟩⟩
  have I6:Inv X pq σ (upd (upd H3 D (.lst [])) D (.lst (ns'.map V.int))) s5:=I5.gD fun q hq=>I5.pin q (i9 _ (.tail _ hq))
  have nD:∀ b u,HL b=some u->b≠D:=fun b u eb z=>by rw[z,hfr]at eb;cases eb
  have VM:∀ b u,HL b=some u->upd (upd H3 D (.lst [])) D (.lst (ns'.map V.int)) b=some u:=fun b u eb=>by
   rw[ao (nD b u eb),ao (nD b u eb)];exact CA _ _ (at2 _ _ eb)
  have I7:=Bq I1 hP hc Bp hoc I6 (VM _ _ Pc) (VM _ _ MM);refine⟨.ref D,_,I7,rfl,Pb D ns' _ (NL D hfr) (Br hP hc Bp (oc:=oc) fun b u eb=>VM b u (by rw[<-hLd];exact eb)) ?_ hp VL⟩
  unfold given;rw[ao (fun z=>nD _ _ Pc z.symm),ao (fun z=>nD _ _ MM z.symm),ae]
end
section
variable {X:Cx}{pq:aR}{σ:St}{H:Hp}{s:Shared}
theorem BA{a:Addr}{ps:List (Addr×Int×Int)}{its:List Value}{E:eK}{P:PySem.Fin->Shared->Prop}{A:Around}(I:Inv X pq σ (upd H a (.lst (ps.map fun q=>V.ref q.1))) s)(ha:H a=none)(ho:s.heap.get? a=some (seqObj "list" its.toArray 0))(rv:Vals (ps.map fun q=>V.ref q.1) its)
 (hp:∀ q∈ps,H q.1=some (.tup [.int q.2.1,.int q.2.2])) (hok:∀ q∈ps,MQ q.2) (h2:2<=ps.length) (hn:ps.length<64)
 (k:∀(h' : Heap) (c:Nat) (ps' : List (Addr×Int×Int)) (out:List Value),ps'.Perm ps->ps'.Pairwise (fun x y=>kx x.2<=kx y.2)->Vals (ps'.map fun q=>V.ref q.1) out->h'.get? a=some (listOf out.toArray c)->(∀ m,s.heap.Ns X.env.locals m->h'.Ns X.env.locals m)->(∀ b o,b≠X.env.locals->b≠a->s.heap.get? b=some o->h'.get? b=some o)->P (PySem.Fin.done (PySem.Flow.ret PySem.Value.none)) { s with heap:=h'}) :
 wpAny (model X.prog X.w) A (PySem.Builtin.«list.sort» { pos:=[PySem.Value.ref a]}) P E s:=by
 have hl:=rv.length;rw[List.length_map]at hl;obtain⟨m,F⟩:=I.fr;have hne:a≠X.env.locals:=fun z=>by
  have:=I.free;rw[<-z,ae]at this;cases this
 have hb:X.base.get? a=none:=by
  cases e:X.base.get? a with
  | none=>rfl
  | some o =>
    have:=(I.bs a o e).2;rw[ae]at this;cases this
 have N:News X.base X.env.locals s.heap (rest X.base s.heap X.env.locals a):=fun p hp=>Ig p (List.mem_filter.mp hp).1
 have at_:∀ i,i<ps.length->its.getD i Value.none = .ref (ps.getD i (0,0,0)).1/\ps.getD i (0,0,0)∈ps:=fun i hi=>by
  have h1:(ps.map fun q=>V.ref q.1)[i]?=some (.ref (ps.getD i (0,0,0)).1):=by
   rw[List.getElem?_map,List.getD_eq_getElem?_getD,List.getElem?_eq_getElem hi];rfl
  obtain⟨u,hu,ru⟩:=rv.get h1;refine⟨?_,?_⟩
  ·rw[List.getD_eq_getElem?_getD,hu];exact ru
  ·rw[List.getD_eq_getElem?_getD,List.getElem?_eq_getElem hi];exact List.getElem_mem hi
 refine kat_list_sort F N ho hne hb Ew (by lia) (by lia) fun e1 h' F' N'=>?_
 have kept:=pY (d:=a) I.bk F' fun p hp=>N' p (kU _ hp)
 have pv:∀ q∈ps,yv h' (.ref q.1) q.2:=fun q hq=>by
  have hH:=hp q hq;have ne1:q.1≠a:=fun z=>by
   rw[z,ha]at hH;cases hH
  have Xj:upd H a (.lst (ps.map fun q=>V.ref q.1)) q.1=some (.tup [.int q.2.1,.int q.2.2]):=by rw[ao ne1];exact hH
  have ne2:q.1≠X.env.locals:=fun z=>by
   have:=I.free;rw[<-z,Xj]at this;cases this
  obtain⟨ts,rt,⟨o,e,hc,n,hd⟩,_⟩:=I.tuple (aV.of Xj)
  match ts,rt with
  | [_,_],.cons ⟨t,rfl⟩ (.cons ⟨u,rfl⟩ .nil)=>exact⟨q.1,o,t,u,n,rfl,kept _ _ ne2 ne1 e,hc,hd⟩
 have Xk:∀ i,i<its.length->yv h' (its.getD i Value.none) (ps.getD i (0,0,0)).2:=fun i hi=>by
  obtain⟨e,hm⟩:=at_ i (by lia)
  rw[e];exact pv _ hm
 refine yj (by lia) (fun v hv=>?_) (zm (r:=fun i=>kx (ps.getD i (0,0,0)).2) (n:=its.length) (yw (fun i hi=>hok _ (at_ i (by lia)).2) Xk) (Fb (by lia)) (fun Qx=>?_))
 ·obtain⟨i,hi,rfl⟩:=List.mem_iff_getElem.mp hv;have:=(Xk i hi).pair;rw[List.getD_eq_getElem?_getD,List.getElem?_eq_getElem hi]at this;exact this
 have hup:=Fi (r:=fun i=>kx (ps.getD i (0,0,0)).2) (n:=its.length) (by lia)
 generalize SRun (fun i=>kx (ps.getD i (0,0,0)).2) (kas_sort its.length)=p' at Qx hup ⊢
 refine KasFin.intro F' N' (UpdF.head Ew) fun h'' c Xl Xm=>?_
 have Se:∀ b o,b≠X.env.locals->b≠a->s.heap.get? b=some o->h''.get? b=some o:=pY (d:=a) I.bk Xl fun p hp=>Xm p (kU _ hp)
 have Fj:(p'.toList.map fun i=>ps.getD i (0,0,0)).Perm ps:=by
  have h1:=List.Perm.map (fun i=>ps.getD i (0,0,0)) Qx
  have h2:(List.range its.length).map (fun i=>ps.getD i (0,0,0))=ps:=by
   rw[<-hl];refine List.ext_getElem (by simp) fun i h1 h2=>?_
   simp[List.getD_eq_getElem?_getD,List.getElem?_eq_getElem h2]
  rw[h2]at h1;exact h1
 have hpl:p'.toList.length=its.length:=by have:=Qx.length_eq;rw[List.length_range]at this;exact this
 have Pq:(p'.toList.map fun i=>ps.getD i (0,0,0)).Pairwise (fun x y=>kx x.2<=kx y.2):=by
  rw[List.pairwise_map,List.pairwise_iff_getElem];intro i j hi hj hij;have:=hup.le (Nat.le_of_lt hij) (by lia)
  have ga:∀ i (hi:i<p'.toList.length),p'.getD i 0=p'.toList[i]:=fun i hi=>by
   rw[Array.getD_eq_getD_getElem?,<-Array.getElem?_toList,List.getElem?_eq_getElem hi];rfl
  unfold Kr at this;rw[ga i hi,ga j hj]at this;exact this
 refine k h'' c _ _ Fj Pq ?_ (Xm _ List.mem_cons_self).1 (fun m' hm'=>?_) Se
 ·have:∀ l:List Nat,(∀ i∈l,i<ps.length)->Vals ((l.map fun i=>ps.getD i (0,0,0)).map fun q=>V.ref q.1) (l.map fun i=>its.getD i Value.none):=fun l=>by
   induction l with
   | nil=>exact fun _=>.nil
   | cons i l ih =>
     intro h;refine .cons ?_ (ih fun j hj=>h j (kU _ hj))
     exact(at_ i (h i List.mem_cons_self)).1
  refine this _ fun i hi=>?_
  have:=List.mem_range.mp (Qx.mem_iff.mp hi)
  lia
 ·rw[O2 hm' F.ns];exact Xl.ns
end
section
variable {X:Cx}
theorem Km(K:bW)(hK:X.K=K:=by rfl):gE X (.builtin "sorted") (fun xs H Q=>∃(p:Addr) (ps:List (Addr×Int×Int)),xs=[.ref p]/\aM K H p (ps.map fun q=>V.ref q.1)/\(∀ q∈ps,H q.1=some (.tup [.int q.2.1,.int q.2.2]))/\(∀ q∈ps,MQ q.2)/\ps.length<64/\
 ∀(l:Addr) (ps' : List (Addr×Int×Int)),H l=none->ps'.Perm ps->ps'.Pairwise (fun x y=>kx x.2<=kx y.2)->Q (.ref l) (upd H l (.lst (ps'.map fun q=>V.ref q.1)))):=by
 subst hK;intro pq s σ H xs us Q I r h;obtain⟨p,ps,rfl,hq,hp,hok,hn,q⟩:=h;obtain⟨u,rfl,rx⟩:=vals1 r;cases rx;obtain⟨its,rv,⟨o,n,ho,hc,hdt,hd⟩,hz⟩:=I.list hq;have hl:=rv.length;rw[List.length_map]at hl;have hsl:its.length<=sizeLine:=dl (Nat.ble_eq.mpr (by lia))
 refine Calls.call_function_entry kind_sorted plain_sorted entry_sorted (args_sorted1 _) ?_;unfold Builtin.«sorted»;refine aQ (m:=checkCount "sorted" 1 1 _) (wpAny_pure ?_);refine aQ (wpAny_collect_seq p (T:="list") (.inl rfl) ho hc hd (fun h1 hk=>?_) (by rw[List.size_toArray];exact hsl))
 have I1:=I.kept (t':=s.toks) hk;have hfr:H h1.objs.size=none:=I1.hok.fresh (Nat.le_refl _);refine aQ (wpAny_newList ?_ (by simpa using hsl))
 have Cw:(h1.push (seqObj "list" its.toArray.toList.toArray 0)).get? h1.objs.size=some (seqObj "list" its.toArray.toList.toArray 0):=Heap.get?_push_size _ rfl;have e0:its.toArray.toList=its:=by simp
 rw[e0]at Cw;have I2:Inv X pq σ (upd H h1.objs.size (.lst (ps.map fun q=>V.ref q.1))) { s with heap:=h1.push (seqObj "list" its.toArray 0)}:=by
  refine I1.laid (t':=s.toks) (fun b o hb=>?_) (Nat.le_refl _) ⟨?_,its,0,rv,Cw⟩
  ·rw[Heap.get?_push_ne _ _ _ (Nat.ne_of_lt (Heap.lt_size hb))];exact hb
  ·rw[List.length_map,hl];exact hsl
 rw[e0];refine aQ (wpAny_holding (wpAny_call_entry slot_list_sort ⟨_,Cw,rfl⟩ entry_list_sort (?_) (args_list_sort _)));have Sf:∀ ps' : List (Addr×Int×Int),ps'.Perm ps->(ps'.map fun q=>V.ref q.1).length<=sizeLine:=fun ps' Qx=>by
  rw[List.length_map,Qx.length_eq,hl];exact hsl
 have kp:∀ b u,h1.get? b=some u->(h1.push (seqObj "list" its.toArray 0)).get? b=some u:=fun b u e=>by
  rw[Heap.get?_push_ne _ _ _ (Nat.ne_of_lt (Heap.lt_size e))];exact e
 by_cases h2:2<=ps.length
 ·refine BA I2 hfr Cw rv hp hok h2 hn fun h' c ps' out Fj Pq rvo hget hns Sg=>⟨_,rfl,wpAny_pure ⟨_,rfl,?_⟩⟩
  refine⟨.ref h1.objs.size,_,I1.R1 (t':=s.toks) (o:=.lst (ps'.map fun q=>V.ref q.1)) (fun b u hb e=>Sg b u hb (Nat.ne_of_lt (Heap.lt_size e)) (kp b u e)) (fun m hm=>hns m ?_) (Nat.le_refl _) ⟨Sf _ Fj,out,c,rvo,hget⟩,rfl,q _ ps' hfr Fj Pq⟩
  obtain⟨o',es,ep,e,z⟩:=hm;exact⟨o',es,ep,kp _ _ e,z⟩
 ·have few:ps.Pairwise (fun x y=>kx x.2<=kx y.2):=by
   match ps,h2 with
   | [],_=>exact .nil
   | [x],_=>exact List.pairwise_singleton _ _
   | _::_::_,h2=>exact absurd (by simp:2<=_) h2
  refine JF Cw (by lia) ⟨_,rfl,wpAny_pure ⟨_,rfl,?_⟩⟩
  obtain⟨e,he⟩:=sortedHeap_at (out:=its.toArray) Cw;refine⟨.ref h1.objs.size,_,I1.laid (t':=s.toks) (o:=.lst (ps.map fun q=>V.ref q.1)) (fun b o hb=>?_) (Nat.le_refl _) ⟨Sf ps (List.Perm.refl _),its,e,rv,he⟩,rfl,q _ ps hfr (List.Perm.refl _) few⟩
  have hlt:=Heap.lt_size hb;show(sortedHeap (h1.push (seqObj "list" its.toArray 0)) h1.objs.size its its.toArray).get? b=some o;rw[sortedHeap_old (Nat.ne_of_lt hlt) (by rw[size_push'];exact Nat.lt_succ_of_lt hlt)]
  exact kp b o hb
end
end L2
namespace RM
section
variable {N:Net}{L:Nat->Int}
theorem BB(q m m' : Nat):N.par q (m^^^m')=(N.par q m^^N.par q m'):=by
 have e:∀ a b:Nat,N.par a b=N.par b a:=fun a b=>bR fun k _=>Bool.and_comm _ _
 rw[e,j8,e m,e m']
theorem qB{f:Nat->Bool}:∀{n i:Nat},i<n->(∀ k,k<n->k≠i->f k=false)->bT f n=f i
 | 0,i,h,_=>absurd h (Nat.not_lt_zero _)
 | n+1,i,h,hz=>by
   show(bT f n^^f n)=f i
   by_cases e:i=n
   ·subst e;rw[jk fun k hk=>hz k (by lia) (by lia),Bool.false_xor]
   ·rw[qB (show i<n by lia) fun k hk ne=>hz k (by lia) ne,hz n (by lia) (fun z=>e z.symm),Bool.xor_false]
theorem yx{f:Nat->Bool}:∀{n:Nat},bT f n=true->∃ i,i<n/\f i=true
 | 0,h=>by cases h
 | n+1,h=>by
   have h:(bT f n^^f n)=true:=h;cases hf:f n with
   | true=>exact⟨n,by lia,hf⟩
   | false =>
     rw[hf,Bool.xor_false]at h;obtain⟨i,h1,h2⟩:=yx h;exact⟨i,by lia,h2⟩
theorem vK(f:Nat->Bool):∀ n,bT f (n+1)=(f 0^^bT (fun i=>f (i+1)) n)
 | 0=>by
   show(false^^f 0)=(f 0^^false);rw[Bool.false_xor,Bool.xor_false]
 | n+1=>by
   show(bT f (n+1)^^f (n+1))=(f 0^^(bT (fun i=>f (i+1)) n^^f (n+1)))
   rw[vK f n,Bool.xor_assoc]
theorem ny(m:Nat):∀(B:List Nat) (z:Nat),N.par (comb B z) m=bT (fun i=>z.testBit i&&N.par (B.getD i 0) m) B.length
 | [],z=>jC m
 | b::B,z=>by
   show N.par ((if z.testBit 0=true then b else 0)^^^comb B (z/2)) m=bT _ (B.length+1)
   rw[j8,ny m B (z/2),vK];have e1:N.par (if z.testBit 0=true then b else 0) m=(z.testBit 0&&N.par b m):=by
    cases z.testBit 0 with
    | true=>simp
    | false=>simp[jC]
   rw[e1];have e2:bT (fun i=>(z/2).testBit i&&N.par (B.getD i 0) m) B.length=bT (fun i=>z.testBit (i+1)&&N.par ((b::B).getD (i+1) 0) m) B.length:=bR fun i _=>by
    rw[Nat.testBit_succ];rfl
   rw[e2];rfl
def len(N:Net)(L:Nat->Int)(r:Nat):Int:=lsum L (fun k=>r.testBit k) N.n
structure DP(N:Net)(L:Nat->Int)(bs us:List Nat):Prop where
 lens:bs.length=us.length
 ring:∀ b∈bs,N.Ring b/\b<2^N.n
 own:∀(i b w:Nat),bs[i]?=some b->us[i]?=some w->N.par b w=true/\∀ r,N.Ring r->r<2^N.n->N.par r w=true->len N L b<=len N L r
 JO:∀(i j b w:Nat),i<j->bs[i]?=some b->us[j]?=some w->N.par b w=false
theorem DP.start:DP N L [] []:=⟨rfl,fun b h=>(List.not_mem_nil h).elim,fun i b w h=>(by simp at h),fun i j b w _ h=>(by simp at h)⟩
theorem DP.snoc{bs us:List Nat}{b w:Nat}(h:DP N L bs us)(hr:N.Ring b)(hl:b<2^N.n)(ho:N.par b w=true)(hm:∀ r,N.Ring r->r<2^N.n->N.par r w=true->len N L b<=len N L r)(he:∀ b'∈bs,N.par b' w=false):DP N L (bs++[b]) (us++[w]):=by
 have at_:∀{l:List Nat} {x i y:Nat},(l++[x])[i]?=some y->(i<l.length/\l[i]?=some y)\/(i=l.length/\y=x):=fun {l x i y} e=>by
  by_cases hi:i<l.length
  ·rw[List.getElem?_append_left hi]at e;exact .inl ⟨hi,e⟩
  ·have h2:=(jQ.mp e).1;rw[List.length_append,List.length_singleton]at h2;have h3:i=l.length:=by lia
   rw[List.getElem?_append_right (by lia),h3,Nat.sub_self]at e
   exact .inr ⟨h3,(Option.some.inj e).symm⟩
 refine⟨by rw[List.length_append,List.length_append,h.lens];rfl,fun b' hb=>?_,fun i b' w' h1 h2=>?_,fun i j b' w' hij h1 h2=>?_⟩
 ·rcases List.mem_append.mp hb with z|z
  ·exact h.ring b' z
  ·rw[List.mem_singleton.mp z];exact⟨hr,hl⟩
 ·have hl:=h.lens;rcases at_ h1 with⟨l1,e1⟩|⟨l1,e1⟩<;>rcases at_ h2 with⟨l2,e2⟩|⟨l2,e2⟩
  ·exact h.own i b' w' e1 e2
  ·lia
  ·lia
  ·rw[e1,e2];exact⟨ho,hm⟩
 ·have hl:=h.lens;rcases at_ h1 with⟨l1,e1⟩|⟨l1,e1⟩<;>rcases at_ h2 with⟨l2,e2⟩|⟨l2,e2⟩
  ·exact h.JO i j b' w' hij e1 e2
  ·rw[e2];exact he b' (iT e1)
  ·lia
  ·lia
section
variable {bs us:List Nat}
theorem DP.at(h:DP N L bs us){i:Nat}(hi:i<bs.length):∃ w,us[i]?=some w/\bs[i]?=some (bs.getD i 0):=by
 have h1:i<us.length:=by rw[<-h.lens];exact hi
 exact⟨us[i],List.getElem?_eq_getElem h1,by rw[List.getD_eq_getElem?_getD,List.getElem?_eq_getElem hi];rfl⟩
theorem zq{f:Nat->Prop}:∀{n i:Nat},i<n->f i->∃ l,l<n/\f l/\∀ j,l<j->j<n->¬ f j
 | 0,i,h,_=>absurd h (Nat.not_lt_zero _)
 | n+1,i,h,hf=>by
   by_cases hn:f n
   ·exact⟨n,by lia,hn,fun j h1 h2=>by lia⟩
   ·have hi:i<n:=by
     rcases Nat.lt_or_ge i n with z|z
     ·exact z
     ·have e:i=n:=by lia
      rw[e]at hf;exact absurd hf hn
    obtain⟨l,h1,h2,h3⟩:=zq hi hf;refine⟨l,by lia,h2,fun j h4 h5=>?_⟩
    by_cases e:j=n
    ·rw[e];exact hn
    ·exact h3 j h4 (by lia)
theorem DP.parts(h:DP N L bs us){z:Nat}(hr:N.Ring (comb bs z))(hl:comb bs z<2^N.n):∀ i,i<bs.length->z.testBit i=true->len N L (bs.getD i 0)<=len N L (comb bs z):=by
 intro i hi hz;apply Classical.byContradiction;intro hc;obtain⟨l,h1,⟨h2,h3⟩,h4⟩:=zq (f:=fun i=>z.testBit i=true/\¬ len N L (bs.getD i 0)<=len N L (comb bs z)) hi ⟨hz,hc⟩
 obtain⟨w,hw,hb⟩:=h.at h1;obtain⟨o1,o2⟩:=h.own l _ w hb hw;have hp:=ny (N:=N) w bs z
 by_cases hx:∃ j,l<j/\j<bs.length/\z.testBit j=true/\N.par (bs.getD j 0) w=true
 ·obtain⟨j,j1,j2,j3,j4⟩:=hx;obtain⟨_,_,Sh⟩:=h.at j2;obtain⟨rj,lj⟩:=h.ring _ (iT Sh);have k1:=o2 _ rj lj j4;have k2:len N L (bs.getD j 0)<=len N L (comb bs z):=Classical.byContradiction fun hn=>h4 j j1 j2 ⟨j3,hn⟩
  lia
 ·rw[qB (i:=l) h1 (fun j hj ne=>?_),h2,o1]at hp
  ·exact h3 (o2 _ hr hl hp)
  ·cases VN:z.testBit j with
   | false=>rfl
   | true =>
     rcases Nat.lt_or_ge j l with hlt|hge
     ·obtain⟨_,_,Sh⟩:=h.at hj;rw[h.JO j l _ w hlt Sh hw];rfl
     ·cases hpj:N.par (bs.getD j 0) w with
      | false=>rfl
      | true=>exact absurd ⟨j,by lia,hj,VN,hpj⟩ hx
theorem DP.ind(h:DP N L bs us):Gz bs:=by
 intro z hz hc;apply Classical.byContradiction;intro hne;obtain⟨i,hi⟩:=Nat.exists_testBit_of_ne_zero hne;have hib:=pD hz hi;obtain⟨l,h1,h2,h4⟩:=zq (f:=fun i=>z.testBit i=true) hib hi
 obtain⟨w,hw,hb⟩:=h.at h1;obtain⟨o1,_⟩:=h.own l _ w hb hw;have hp:=ny (N:=N) w bs z;rw[hc,jC,qB (i:=l) h1 (fun j hj ne=>?_),h2,o1]at hp
 ·cases hp
 ·cases VN:z.testBit j with
  | false=>rfl
  | true =>
    have hlt:j<l:=by
     rcases Nat.lt_or_ge j l with z|z
     ·exact z
     ·exact absurd VN (h4 j (by lia) hj)
    obtain⟨_,_,Sh⟩:=h.at hj;rw[h.JO j l _ w hlt Sh hw];rfl
end
theorem Base.span{rs:List Nat}(h:Base N rs){e:Nat}(he:N.cF e)(hl:e<2^N.n):∃ z,z<2^rs.length/\comb rs z=e:=by
 apply ze;apply Classical.byContradiction;intro hn;have h1:Gz (rs++[e]):=vp.mpr ⟨h.ind,hn⟩;have h2:=O7 (N:=N) h1 (fun b hb=>by
  rcases List.mem_append.mp hb with z|z
  ·exact⟨(h.ring b z).1.2.1,(h.ring b z).2⟩
  ·rw[List.mem_singleton.mp z];exact⟨he,hl⟩)
 rw[List.length_append,List.length_singleton,h.len]at h2
 lia
def LB(N:Net)(L:Nat->Int)(rs:List Nat):Prop:=Base N rs/\∀ r m,N.Ring r->r<2^N.n->N.par r m=true->∃ b∈rs,N.par b m=true/\len N L b<=len N L r
theorem LB.perm{rs rs' : List Nat}(h:LB N L rs)(p:rs'.Perm rs):LB N L rs':=⟨h.1.perm p,fun r m h1 h2 h3=>let⟨b,hb,q⟩:=h.2 r m h1 h2 h3;⟨b,p.mem_iff.mpr hb,q⟩⟩
theorem DP.least{bs us:List Nat}(h:DP N L bs us)(hl:bs.length=N.az.length):LB N L bs:=by
 have bb:Base N bs:=⟨hl,h.ring,h.ind⟩;refine⟨bb,fun r m hr hlt ho=>?_⟩
 obtain⟨z,hz,rfl⟩:=bb.span hr.2.1 hlt;rw[ny]at ho;obtain⟨i,hi,h1⟩:=yx ho;have h1:=N4.mp h1;obtain⟨_,_,hb⟩:=h.at hi;exact⟨_,iT hb,h1.2,h.parts hr hlt i hi h1.1⟩
structure Wt(N:Net)(bs ws cs:List Nat):Prop where
 lens:ws.length=cs.length
 sum:bs.length+ws.length=N.az.length
 ch:∀ c∈cs,c<N.n/\N.kF c=false
 lt:∀ w∈ws,w<2^N.n
 bits:∀ w∈ws,∀ k,w.testBit k=true->N.kF k=false
 own:∀(i j w c:Nat),ws[i]?=some w->cs[j]?=some c->w.testBit c=decide (i=j)
 ia:∀ w∈ws,∀ b∈bs,N.par b w=false
theorem Wt.odd{bs ws cs:List Nat}{w:Nat}(h:Wt N bs (w::ws) cs):∃ r,N.Ring r/\r<2^N.n/\N.par r w=true:=by
 have hl:=h.lens
 match cs,hl,h with
 | c::cs,hl,h =>
   obtain⟨c1,c2⟩:=h.ch c List.mem_cons_self;refine⟨N.ring c,rC c1 c2,n6 c1,?_⟩;have e:N.par (N.ring c) w=((N.ring c).testBit c&&w.testBit c):=qB (f:=fun k=>(N.ring c).testBit k&&w.testBit k) c1 fun k hk ne=>by
    cases hw:w.testBit k with
    | false=>exact Bool.and_false _
    | true =>
      have:=gm c2 (h.bits w List.mem_cons_self k hw);rw[this,c7 (fun z=>ne z.symm)]
      rfl
   rw[e,qo c2,h.own 0 0 w c rfl rfl];rfl
theorem Wt.next{bs ws cs:List Nat}{w b:Nat}(h:Wt N bs (w::ws) cs)(ho:N.par b w=true):∃ c cs',cs=c::cs'/\Wt N (bs++[b]) (ws.map fun v=>if N.par b v=true then v^^^w else v) cs':=by
 have hl:=h.lens
 match cs,hl,h with
 | c::cs,hl,h =>
   refine⟨c,cs,rfl,?_⟩;have hw:=h.lt w List.mem_cons_self;have hv:∀ v∈ws,v∈w::ws:=fun v z=>kU _ z
   refine⟨by rw[List.length_map];simpa using hl,?_,fun d hd=>h.ch d (kU _ hd),fun v' JE=>?_,fun v' JE k hk=>?_,fun i j v' d h1 h2=>?_,fun v' JE b' hb'=>?_⟩
   ·have:=h.sum;rw[List.length_cons]at this;rw[List.length_append,List.length_singleton,List.length_map]
    lia
   ·obtain⟨v,m,rfl⟩:=List.mem_map.mp JE
    split
    ·exact Nat.xor_lt_two_pow (h.lt v (hv v m)) hw
    ·exact h.lt v (hv v m)
   ·obtain⟨v,m,rfl⟩:=List.mem_map.mp JE
    split at hk
    ·rw[Nat.testBit_xor]at hk;cases h1:v.testBit k with
     | true=>exact h.bits v (hv v m) k h1
     | false =>
       rw[h1,Bool.false_xor]at hk;exact h.bits w List.mem_cons_self k hk
    ·exact h.bits v (hv v m) k hk
   ·rw[List.getElem?_map]at h1;obtain⟨v,Nn,rfl⟩:=wH.mp h1;have e1:=h.own (i+1) (j+1) v d (by simpa using Nn) (by simpa using h2)
    have e2:=h.own 0 (j+1) w d rfl (by simpa using h2)
    have e3:decide (i+1=j+1)=decide (i=j):=decide_eq_decide.mpr (by lia)
    rw[e3]at e1
    split
    ·rw[Nat.testBit_xor,e1,e2];simp
    ·exact e1
   ·obtain⟨v,m,rfl⟩:=List.mem_map.mp JE;rcases List.mem_append.mp hb' with z|z
    ·have z1:=h.ia v (hv v m) b' z;have z2:=h.ia w List.mem_cons_self b' z
     split
     ·rw[BB,z1,z2];rfl
     ·exact z1
    ·rw[List.mem_singleton.mp z]
     split
     ·rename_i hp
      rw[BB,hp,ho];rfl
     ·rename_i hp
      cases hq:N.par b v with
      | false=>rfl
      | true=>exact absurd hq hp
theorem Wt.start(nd:N.az.Nodup):Wt N [] (N.az.map fun c=>2^c) N.az:=by
 refine⟨List.length_map ..,by rw[List.length_map];simp,fun c hc=>br.mp hc,fun w hw=>?_,fun w hw k hk=>?_,fun i j w c h1 h2=>?_,fun w _ b hb=>by cases hb⟩
 ·obtain⟨c,hc,rfl⟩:=List.mem_map.mp hw;exact Nat.pow_lt_pow_right (by decide) (br.mp hc).1
 ·obtain⟨c,hc,rfl⟩:=List.mem_map.mp hw;rw[Nat.testBit_two_pow]at hk;rw[<-i8 hk];exact(br.mp hc).2
 ·rw[List.getElem?_map]at h1;obtain⟨d,hd,rfl⟩:=wH.mp h1;rw[Nat.testBit_two_pow];refine decide_eq_decide.mpr ⟨fun z=>?_,fun z=>?_⟩
  ·subst z;obtain⟨a1,a2⟩:=jQ.mp hd;obtain⟨b1,b2⟩:=jQ.mp h2;exact(List.getElem_inj nd).mp (a2.trans b2.symm)
  ·subst z;rw[hd]at h2;exact Option.some.inj h2
inductive Pu(N:Net)(L:Nat->Int)(T9:List Nat):List Nat->List Nat->Prop
 | start:Pu N L T9 [] T9
 | step {bs ws:List Nat} {w e:Nat} {z:Int} (h:Pu N L T9 bs (w::ws)) (lo:Lo N L w z e):Pu N L T9 (bs++[e]) (ws.map fun v=>if N.par e v=true then v^^^w else v)
end
def gM(B:List Nat):Nat->List Row3
 | 0=>[]
 | i+1=>if(bA (gM B i) (B.getD i 0) 0).1=0 then gM B i else wQ (gM B i) ((bA (gM B i) (B.getD i 0) 0).1.log2,(bA (gM B i) (B.getD i 0) 0).1,(bA (gM B i) (B.getD i 0) 0).2^^^2^i)
theorem DC{B:List Nat}{i b:Nat}{rows:List Row3}(e:rows=gM B i)(hb:B[i]?=some b)(h:(bA rows b 0).1≠0):wQ rows ((bA rows b 0).1.log2,(bA rows b 0).1,(bA rows b 0).2^^^2^i)=gM B (i+1):=by
 subst e;have eb:B.getD i 0=b:=by rw[List.getD_eq_getElem?_getD,hb];rfl
 show _=if _ then _ else _
 rw[eb,if_neg h]
theorem BC{B:List Nat}{i b:Nat}{rows:List Row3}(e:rows=gM B i)(hb:B[i]?=some b)(h:(bA rows b 0).1=0):rows=gM B (i+1):=by
 subst e;have eb:B.getD i 0=b:=by rw[List.getD_eq_getElem?_getD,hb];rfl
 show _=if _ then _ else _
 rw[eb,if_pos h]
theorem MS(B:List Nat):∃ rows,Rw B rows:=by
 suffices h:∀ i,∃ rows,Rw (B.take i) rows by
  obtain⟨rows,hr⟩:=h B.length;rw[List.take_length]at hr;exact⟨rows,hr⟩
 intro i
 induction i with
 | zero=>exact⟨[],by rw[List.take_zero];exact .start⟩
 | succ i ih =>
   obtain⟨rows,hr⟩:=ih;cases hb:B[i]? with
   | none=>exact⟨rows,by rw[List.take_add_one,hb,Option.toList_none,List.append_nil];exact hr⟩
   | some b =>
     rw[List.take_add_one,hb,Option.toList_some]
     by_cases h0:(bA rows b 0).1=0
     ·exact⟨_,hr.skip ((hr.dZ b 0).mp h0)⟩
     ·exact⟨_,hr.put h0⟩
section
variable {N:Net}{L:Nat->Int}
theorem LB.parts{rs:List Nat}(h:LB N L rs){r:Nat}(hr:N.Ring r)(hl:r<2^N.n):Sp (rs.filter fun b=>decide (len N L b<=len N L r)) r:=by
 obtain⟨z,hz,rfl⟩:=h.1.span hr.2.1 hl;obtain⟨rows,hw⟩:=MS rs;have key:∀ i b,rs[i]?=some b->z.testBit i=true->len N L b<=len N L (comb rs z):=fun i b hb hi=>by
  have mk:∀ j c,rs[j]?=some c->N.par c (Ring.orM (cG rows i))=decide (i=j):=fun j c hc=>(hw.marks h.1.ind (fun b hb=>(h.1.ring b hb).2) hc).1
  have A5:=(jQ.mp hb).1;have e:N.par (comb rs z) (Ring.orM (cG rows i))=true:=by
   rw[ny,qB A5 fun k hk hne=>?_]
   ·rw[hi,Bool.true_and,List.getD_eq_getElem?_getD,hb];show N.par b _=true;rw[mk i b hb];exact cD rfl
   ·have hc:rs[k]?=some rs[k]:=List.getElem?_eq_getElem hk;rw[List.getD_eq_getElem?_getD,hc];show(_&&N.par rs[k] _)=false;rw[mk k _ hc,c7 (fun z=>hne z.symm),Bool.and_false]
  obtain⟨c,hc,h1,h2⟩:=h.2 _ _ hr hl e;obtain⟨j,hj⟩:=List.getElem?_of_mem hc;rw[mk j c hj]at h1;have h1:=i8 h1;subst h1;rw[hb]at hj;rw[Option.some.inj hj];exact h2
 generalize hx:len N L (comb rs z)=x at key ⊢;clear hx hr hl hw h
 suffices hh:∀ i,Sp (rs.filter fun b=>decide (len N L b<=x)) (comb (rs.take i) z) by
  have:=hh rs.length
  rwa [List.take_length]at this
 intro i
 induction i with
 | zero=>rw[List.take_zero];exact .zero
 | succ i ih =>
   cases hb:rs[i]? with
   | none=>rw[List.take_add_one,hb,Option.toList_none,List.append_nil];exact ih
   | some b =>
     rw[List.take_add_one,hb,Option.toList_some,gx];have hl:(rs.take i).length=i:=List.length_take_of_le (Nat.le_of_lt (jQ.mp hb).1);rw[hl]
     split
     ·rename_i hi
      exact ih.xor (.mem (List.mem_filter.mpr ⟨iT hb,cD (key i b hb hi)⟩))
     ·rw[Nat.xor_zero];exact ih
end
section
variable {N:Net}
theorem MT(m t:Nat):∀{n:Nat},t<n->m.testBit t=true->cnt (fun k=>m.testBit k && !decide (k=t)) n+1=cnt (fun k=>m.testBit k) n:=by
 intro n
 induction n with
 | zero=>exact fun h=>absurd h (Nat.not_lt_zero _)
 | succ n ih =>
   intro h hb;show cnt _ n+(if(m.testBit n && !decide (n=t))=true then 1 else 0)+1=cnt _ n+(if m.testBit n=true then 1 else 0)
   by_cases e:n=t
   ·subst e;rw[hb,cD rfl];have:cnt (fun k=>m.testBit k && !decide (k=n)) n=cnt (fun k=>m.testBit k) n:=eY fun k hk=>by rw[c7 (by lia),Bool.not_false,Bool.and_true]
    rw[this];rfl
   ·have:=ih (by lia) hb
    rw[c7 e,Bool.not_false,Bool.and_true]
    lia
theorem DE{m:Nat}(hm:m<2^N.n)(r:N.Ring m):cnt (fun k=>m.testBit k) N.n+N.az.length<=N.n+1:=by
 obtain⟨t,ht⟩:∃ t,m.testBit t=true:=by
  apply Classical.byContradiction;intro hn;exact r.1 (Nat.eq_of_testBit_eq fun k=>by
   rw[Nat.zero_testBit];cases h:m.testBit k with
   | false=>rfl
   | true=>exact absurd ⟨k,h⟩ hn)
 have NF:=bB hm ht;have h:=MD (N:=N) (ks:=(List.range N.n).filter fun k=>!(m.testBit k && !decide (k=t))) fun q hq ev hz=>by
  have sub:∀ k,q.testBit k=true->m.testBit k=true/\k≠t:=fun k hk=>by
   have hkn:=bB hq hk;apply Classical.byContradiction;intro hn;have:=hz k (List.mem_filter.mpr ⟨List.mem_range.mpr hkn,by
    cases h1:m.testBit k with
    | false=>rfl
    | true =>
      by_cases e:k=t
      ·rw[cD e];rfl
      ·exact absurd ⟨h1,e⟩ hn⟩)
   rw[this]at hk;cases hk
  rcases r.2.2 q (fun k hk=>(sub k hk).1) ev with e|e
  ·exact e
  ·exact absurd rfl (sub t (by rw[e];exact ht)).2
 rw[hU]at h;have h1:=jW (fun k=>m.testBit k && !decide (k=t)) N.n
 have h2:=MT m t NF ht
 lia
def BD:Nat->Nat->Nat
 | 0,_=>0
 | n+1,z=>z%2+BD n (z/2)
theorem vL{m:Nat}:∀ cs:List Nat,BD cs.length (code m cs)=(cs.filter fun c=>m.testBit c).length
 | []=>rfl
 | c::cs=>by
   have ih:=vL (m:=m) cs;unfold code;show((if m.testBit c=true then 1 else 0)+2*code m cs)%2+BD cs.length (((if m.testBit c=true then 1 else 0)+2*code m cs)/2)=_
   cases h:m.testBit c with
   | true =>
     rw[if_pos rfl,List.filter_cons,if_pos h,List.length_cons,<-ih];have e1:(1+2*code m cs)%2=1:=by lia
     have e2:(1+2*code m cs)/2=code m cs:=by lia
     rw[e1,e2,Nat.add_comm]
   | false =>
     rw[if_neg Bool.false_ne_true,List.filter_cons,if_neg (by rw[h];decide),<-ih]
     have e1:(0+2*code m cs)%2=0:=by lia
     have e2:(0+2*code m cs)/2=code m cs:=by lia
     rw[e1,e2,Nat.zero_add]
theorem GK{r f:Nat}(h:r+f<=9)(hr:7<=r):((List.range (2^r)).filter fun z=>decide (BD r z<=f+1)&&decide (z≠0)).length<64:=by
 have h1:r=7\/r=8\/r=9:=by lia
 rcases h1 with rfl|rfl|rfl
 ·have hf:f=0\/f=1\/f=2:=by lia
  rcases hf with rfl|rfl|rfl<;>decide +kernel
 ·have hf:f=0\/f=1:=by lia
  rcases hf with rfl|rfl<;>decide +kernel
 ·have hf:f=0:=by lia
  rcases hf with rfl
  decide +kernel
theorem vM(hn:N.n<=9){l:List Nat}(nd:l.Nodup)(h:∀ m∈l,m<2^N.n/\N.Ring m):l.length<64:=by
 by_cases h6:N.az.length<=6
 ·exact Nat.lt_of_lt_of_le (Gv nd h) (Nat.pow_le_pow_right (n:=2) (by decide) h6)
 have cl:N.az.length<=N.n:=by
  have h1:N.az.length<=(List.range N.n).length:=List.length_filter_le ..
  rwa [List.length_range]at h1
 have inj:∀ m q,m<2^N.n->q<2^N.n->N.cF m->N.cF q->code m N.az=code q N.az->m=q:=fun m q hm hq em eq e=>jA hm hq em eq fun c hc hf=>code_inj e c (br.mpr ⟨hc,hf⟩)
 have Vx:(l.map fun m=>code m N.az).Nodup:=by
  refine List.Pairwise.map _ (fun a b (hab:a≠b/\a∈l/\b∈l)=>?_) ?_ (R:=fun a b=>a≠b/\a∈l/\b∈l)
  ·obtain⟨h1,h2⟩:=h a hab.2.1;obtain⟨h3,h4⟩:=h b hab.2.2;exact fun e=>hab.1 (inj a b h1 h3 h2.2.1 h4.2.1 e)
  ·exact List.Pairwise.imp_of_mem (fun {a b} ha hb hne=>⟨hne,ha,hb⟩) nd
 have z0:∀ cs,code 0 cs=0:=fun cs=>by
  induction cs with
  | nil=>rfl
  | cons c cs ih =>
    unfold code;rw[Nat.zero_testBit,ih,if_neg Bool.false_ne_true]
 have:=rq (L:=(List.range (2^N.az.length)).filter fun z=>decide (BD N.az.length z<=(N.n-N.az.length)+1)&&decide (z≠0)) Vx fun x hx=>by
  obtain⟨m,hm,rfl⟩:=List.mem_map.mp hx;obtain⟨h1,h2⟩:=h m hm;refine List.mem_filter.mpr ⟨List.mem_range.mpr (zb _ _),N4.mpr ⟨cD ?_,cD fun e=>h2.1 (inj m 0 h1 (Nat.two_pow_pos _) h2.2.1 cF.zero (by rw[e,z0]))⟩⟩
  rw[vL];have h3:=DE h1 h2;have h4:(N.az.filter fun c=>m.testBit c).length<=cnt (fun k=>m.testBit k) N.n:=by
   unfold Net.az;rw[List.filter_filter,hU];exact yX fun k _ h=>(N4.mp h).1
  lia
 rw[List.length_map]at this;exact Nat.lt_of_le_of_lt this (GK (by lia) (by lia))
def vN(N:Net)(j:Nat):List Nat:=(List.range (2^j)).map fun z=>N.eG z N.az 0
theorem Kn:vN N 0=[0]:=by
 unfold vN;show[N.eG 0 N.az 0]=[0];rw[MC]
theorem Pw{j c:Nat}(h:N.az[j]?=some c):N.eG (2^j) N.az 0=N.ring c:=by
 have hc:=br.mp (iT h);have e1:=iH (N:=N) (z:=2^j);have hr:=rC hc.1 hc.2;have hl:N.ring c<2^N.n:=cu fun k hk=>by
  rcases kY hk with z|z
  ·rw[z];exact hc.1
  ·exact z.1
 refine jA e1.2 hl e1.1 hr.2.1 fun d hd hf=>?_
 obtain⟨i,hi⟩:=vj hd hf;rw[lJ hi,gm hc.2 hf,Nat.testBit_two_pow];refine decide_eq_decide.mpr ⟨fun e=>?_,fun e=>?_⟩
 ·subst e;rw[h]at hi;exact Option.some.inj hi
 ·subst e;obtain⟨a1,a2⟩:=jQ.mp h;obtain⟨b1,b2⟩:=jQ.mp hi;exact(List.getElem_inj rB).mp (a2.trans b2.symm)
theorem Ko{j c:Nat}(h:N.az[j]?=some c):vN N (j+1)=vN N j++(vN N j).map fun e=>e^^^N.ring c:=by
 unfold vN;have e:(2:Nat)^(j+1)=2^j+2^j:=by rw[Nat.pow_succ];lia
 rw[e,List.range_add,List.map_append,List.map_map,List.map_map]
 congr 1
 refine List.map_congr_left fun z hz=>?_
 have hz:=List.mem_range.mp hz;show N.eG (2^j+z) N.az 0=N.eG z N.az 0^^^N.ring c;rw[<-Pw h,<-Dm]
 congr 1
 have e0:=Nat.two_pow_add_eq_or_of_lt hz 1;rw[Nat.mul_one]at e0;rw[Nat.xor_comm,e0];refine Nat.eq_of_testBit_eq fun i=>?_
 rw[Nat.testBit_or,Nat.testBit_xor,Nat.testBit_two_pow]
 by_cases hi:j=i
 ·subst hi;rw[Nat.testBit_lt_two_pow hz,cD rfl];rfl
 ·rw[c7 hi,Bool.false_or,Bool.false_xor]
theorem Fl{m:Nat}:m∈vN N N.az.length↔N.cF m/\m<2^N.n:=by
 unfold vN;rw[List.mem_map]
 constructor
 ·rintro⟨z,_,rfl⟩;exact iH
 ·rintro⟨h1,h2⟩;obtain⟨z,hz,e⟩:=O4 h2 h1;exact⟨z,List.mem_range.mpr hz,e⟩
theorem GL:(vN N N.az.length).Nodup:=by
 unfold vN;refine List.pairwise_map.mpr (List.Pairwise.imp_of_mem (fun {z y} hz hy h e=>?_) List.pairwise_lt_range)
 have:=MB h (List.mem_range.mp hy)
 lia
theorem GN(h:0<N.n):N.az.length<N.n:=by
 have h0:N.kF 0=true:=by
  have e:decide (N.eO 0 (N.a 0)=N.eO 0 (N.b 0))=false:=c7 (N.ne 0 h);show(!decide (N.eO 0 (N.a 0)=N.eO 0 (N.b 0)))=true;rw[e];rfl
 have h1:N.az.length<(List.range N.n).length:=List.length_filter_lt_length_iff_exists.mpr ⟨0,List.mem_range.mpr h,by rw[h0];decide⟩
 rwa [List.length_range]at h1
end
open Ring (xorL xorL_snoc)
section
variable {N:Net}{B:List Nat}{rows:List Row3}
theorem Kq{P:Row3->Bool}:∀{rows:List Row3},(∀ q∈rows,q.2.1.testBit q.1=true)->(rows.Pairwise fun q q'=>q'.2.1.testBit q.1=false/\q.2.1.testBit q'.1=false)->∀ q0∈rows,rx (fun q=>q0.2.1.testBit q.1&&P q) rows=P q0
 | [],_,_,q0,h=>nomatch h
 | q::rows,own,zf,q0,h=>by
   obtain⟨h1,h2⟩:=List.pairwise_cons.mp zf;unfold rx;rcases List.mem_cons.mp h with rfl|h
   ·rw[own q0 List.mem_cons_self,Bool.true_and];have:rx (fun q=>q0.2.1.testBit q.1&&P q) rows=rx (fun _=>false) rows:=qz fun q' hq=>by rw[(h1 q' hq).2,Bool.false_and]
    rw[this];have z:∀ l:List Row3,rx (fun _=>false) l=false:=fun l=>by
     induction l with
     | nil=>rfl
     | cons _ _ ih=>unfold rx;rw[ih];rfl
    rw[z,Bool.xor_false]
   ·rw[(h1 q0 h).1,Bool.false_and,Bool.false_xor];exact Kq (fun q' hq=>own q' (kU _ hq)) h2 q0 h
def ie(rows:List Row3)(t:Nat):List Nat:=(rows.filter fun q=>q.2.1.testBit t).map fun q=>q.1
theorem yy(f:Nat->Bool)(t:Nat):∀ rows:List Row3,(ie rows t).foldr (fun k acc=>f k^^acc) false=rx (fun q=>f q.1&&q.2.1.testBit t) rows
 | []=>rfl
 | q::rows=>by
   have ih:=yy f t rows;unfold ie at ih ⊢;unfold rx;cases h:q.2.1.testBit t with
   | true=>rw[List.filter_cons,if_pos h,List.map_cons,List.foldr_cons,ih,Bool.and_true]
   | false=>rw[List.filter_cons,if_neg (by rw[h];decide),ih,Bool.and_false,Bool.false_xor]
theorem zu(own:∀ q∈rows,q.2.1.testBit q.1=true)(zf:rows.Pairwise fun q q'=>q'.2.1.testBit q.1=false/\q.2.1.testBit q'.1=false)(t:Nat):(ie rows t).Nodup:=by
 unfold ie;refine List.pairwise_map.mpr ?_;refine List.Pairwise.imp_of_mem (fun {q q'} hq MF h e=>?_) (zf.filter _)
 have:=own q' (List.mem_filter.mp MF).1;rw[<-e,h.1]at this;cases this
def yz(rows:List Row3)(t:Nat):Nat:=Ring.orM (t::ie rows t)
theorem GO(h:Rw B rows)(hb:∀ b∈B,b<2^N.n){x t:Nat}(hx:x<2^N.n)(ht:(bA rows x 0).1.testBit t=true):yz rows t<2^N.n/\N.par x (yz rows t)=true/\∀ b∈B,N.par b (yz rows t)=false:=by
 have Ua:Sp (rows.map fun q=>q.2.1) (x^^^(bA rows x 0).1):=by
  have:=qv (rows.map two) x
  rwa [map_two,<-jI rows x 0]at this
 have Po:∀ q∈rows,q.2.1<2^N.n:=zg h hb;have Ub:∀ y∈(rows.map fun q=>q.2.1),y<2^N.n:=fun y hy=>by
  obtain⟨q,hq,rfl⟩:=List.mem_map.mp hy;exact Po q hq
 have Px:(bA rows x 0).1<2^N.n:=by
  have:=Nat.xor_lt_two_pow hx (Ua.lt Ub)
  rwa [<-Nat.xor_assoc,Nat.xor_self,Nat.zero_xor]at this
 have tn:t<N.n:=bB Px ht;have lt:∀ k∈t::ie rows t,k<N.n:=fun k hk=>by
  rcases List.mem_cons.mp hk with rfl|hk
  ·exact tn
  ·obtain⟨q,hq,rfl⟩:=List.mem_map.mp hk;have hq:=(List.mem_filter.mp hq).1;exact bB (Po q hq) (h.own q hq)
 have nt:t∉ie rows t:=fun hk=>by
  obtain⟨q,hq,e⟩:=List.mem_map.mp hk;have:=h.vq x 0 q (List.mem_filter.mp hq).1;rw[e,ht]at this;cases this
 have nd:(t::ie rows t).Nodup:=List.nodup_cons.mpr ⟨nt,zu h.own h.zf t⟩;have par:∀ y,N.par y (yz rows t)=(y.testBit t^^rx (fun q=>y.testBit q.1&&q.2.1.testBit t) rows):=fun y=>by
  rw[<-yy (fun k=>y.testBit k) t rows]
  show _=(t::ie rows t).foldr (fun k acc=>y.testBit k^^acc) false
  rw[<-rJ (fun k=>y.testBit k) N.n nd lt]
  exact bR fun k _=>by unfold yz;rw[Ring.iG]
 have rows0:∀ y,Sp (rows.map fun q=>q.2.1) y->N.par y (yz rows t)=false:=fun y hy=>by
  induction hy with
  | zero=>exact jC _
  | add _ hb ih =>
    obtain⟨q0,hq,rfl⟩:=List.mem_map.mp hb;rw[j8,ih,par,Kq h.own h.zf q0 hq,Bool.false_xor,Bool.xor_self]
 refine⟨Ring.Jl lt,?_,fun b hb=>rows0 b (h.span b hb)⟩
 have e:x=(x^^^(bA rows x 0).1)^^^(bA rows x 0).1:=by rw[Nat.xor_assoc,Nat.xor_self,Nat.xor_zero]
 rw[e,j8,rows0 _ Ua,Bool.false_xor,par,ht];have z:rx (fun q=>(bA rows x 0).1.testBit q.1&&q.2.1.testBit t) rows=false:=by
  have:rx (fun q=>(bA rows x 0).1.testBit q.1&&q.2.1.testBit t) rows=rx (fun _=>false) rows:=qz fun q' hq=>by rw[h.vq x 0 q' hq,Bool.false_and]
  rw[this];have z:∀ l:List Row3,rx (fun _=>false) l=false:=fun l=>by
   induction l with
   | nil=>rfl
   | cons _ _ ih=>unfold rx;rw[ih];rfl
  exact z _
 rw[z];rfl
theorem pF(t:Nat):∀(rows:List Row3) (ks:List Nat),rows.foldl (fun M q=>if q.2.1.testBit t=true then M ||| 2^q.1 else M) (Ring.orM ks)=Ring.orM (ks++ie rows t)
 | [],ks=>by show Ring.orM ks=Ring.orM (ks++[]);rw[List.append_nil]
 | q::rows,ks=>by
   rw[List.foldl_cons];have e:ie (q::rows) t=(if q.2.1.testBit t=true then[q.1] else[])++ie rows t:=by
    unfold ie;rw[List.filter_cons]
    split<;>rfl
   rw[e]
   split
   ·have:Ring.orM ks ||| 2^q.1=Ring.orM (ks++[q.1]):=by
     unfold Ring.orM;rw[List.foldl_append];rfl
    rw[this,pF t rows,List.append_assoc]
   ·rw[pF t rows,List.nil_append]
def pick(B:List Nat)(u:Nat):List Nat:=((List.range B.length).filter fun k=>u.testBit k).map fun k=>B.getD k 0
theorem Ks(B:List Nat)(u:Nat):xorL (pick B u)=comb B u:=by
 have h:∀ i,i<=B.length->xorL (((List.range i).filter fun k=>u.testBit k).map fun k=>B.getD k 0)=comb (B.take i) u:=fun i=>by
  induction i with
  | zero=>exact fun _=>rfl
  | succ i ih =>
    intro hi;have hb:B[i]?=some B[i]:=List.getElem?_eq_getElem hi;have hl:(B.take i).length=i:=List.length_take_of_le (Nat.le_of_lt hi);rw[List.range_succ,List.filter_append,List.map_append,List.take_add_one,hb,Option.toList_some,gx,hl,<-ih (Nat.le_of_lt hi)];cases hu:u.testBit i with
    | true =>
      rw[List.filter_cons,if_pos hu,if_pos rfl];show xorL (_++[B.getD i 0])=_;rw[xorL_snoc,List.getD_eq_getElem?_getD,hb];rfl
    | false =>
      rw[List.filter_cons,if_neg (by rw[hu];decide),List.filter_nil,List.map_nil,List.append_nil,if_neg Bool.false_ne_true,Nat.xor_zero]
 have:=h B.length (Nat.le_refl _)
 rwa [List.take_length]at this
theorem Ku{B:List Nat}{u c:Nat}(h:c∈pick B u):c∈B:=by
 obtain⟨k,hk,rfl⟩:=List.mem_map.mp h;have hk:=List.mem_range.mp (List.mem_filter.mp hk).1;rw[List.getD_eq_getElem?_getD,List.getElem?_eq_getElem hk];exact List.getElem_mem hk
theorem DF{B:List Nat}(nd:B.Nodup)(u:Nat):(pick B u).Nodup:=by
 unfold pick;refine List.pairwise_map.mpr (List.Pairwise.imp_of_mem (fun {j k} hj hk h e=>?_) (List.Pairwise.filter _ List.nodup_range))
 have hj:=List.mem_range.mp (List.mem_filter.mp hj).1;have hk:=List.mem_range.mp (List.mem_filter.mp hk).1;rw[List.getD_eq_getElem?_getD,List.getElem?_eq_getElem hj,List.getD_eq_getElem?_getD,List.getElem?_eq_getElem hk]at e;exact h ((List.getElem_inj nd).mp e)
theorem Rw.parts(h:Rw B rows){x:Nat}(hs:Sp B x):(bA rows x 0).2<2^B.length/\xorL (pick B (bA rows x 0).2)=x:=by
 obtain⟨c1,c2⟩:=rH h.ME x 0 (Nat.two_pow_pos _);refine⟨c1,?_⟩;rw[Ks,c2,jo,Nat.zero_xor,(h.dZ x 0).mpr hs,Nat.xor_zero]
end
end RM
namespace L2
open PySem
theorem ig{lo:Int}{n:Nat}{g:TG}{tb:TS}{D:Ends}{σ:St}{H:Hp}(Pv:Nat->St->Hp->Prop)(h0:Pv 0 σ H)
 (hs:∀ i,let D' : Ends:={ D with nx:=Pv (i+1),ct:=Pv (i+1),bk:=D.nx};∀ σ H,i<n->Pv i σ H->g (.int (lo+i)) σ H fun σ2 H2=>tb D' σ2 H2) (hd:∀ σ H,Pv n σ H->D.nx σ H) :
 ∃ W:Nat->Nat->St->Hp->Prop,(∃ m,W 0 m σ H)/\∀ i m σ H,W i m σ H->
   ((Im lo n).stop i H/\D.nx σ H)\/((Im lo n).go i H/\∃ N:St->Hp->Prop,(∀ σ' H',N σ' H'->∃ m',m'<m/\W (i+1) m' σ' H')/\∀ x H',(Im lo n).Lp i H x H'->g x σ H' fun σ2 H2=>tb { D with nx:=N,ct:=N,bk:=D.nx} σ2 H2) :=
 FP Pv h0 (fun i σ H hi p=>hs i σ H hi p) hd
theorem cT{K:bW}{a:Addr}{xs:List V}{g:TG}{tb:TS}{D:Ends}{σ:St}{H:Hp}(Pv:Nat->St->Hp->Prop)(h0:Pv 0 σ H)(hl:∀ i σ H,i<=xs.length->Pv i σ H->aM K H a xs)
 (hs:∀ i x,let D' : Ends:={ D with nx:=Pv (i+1),ct:=Pv (i+1),bk:=D.nx};∀ σ H,xs[i]?=some x->Pv i σ H->g x σ H fun σ2 H2=>tb D' σ2 H2) (hd:∀ σ H,Pv xs.length σ H->D.nx σ H) :
 ∃ W:Nat->Nat->St->Hp->Prop,(∃ m,W 0 m σ H)/\∀ i m σ H,W i m σ H->
   ((LP K a).stop i H/\D.nx σ H)\/((LP K a).go i H/\∃ N:St->Hp->Prop,(∀ σ' H',N σ' H'->∃ m',m'<m/\W (i+1) m' σ' H')/\∀ x H',(LP K a).Lp i H x H'->g x σ H' fun σ2 H2=>tb { D with nx:=N,ct:=N,bk:=D.nx} σ2 H2) :=
 uE Pv h0 hl (fun i x σ H hi p=>hs i x σ H hi p) hd
theorem Kv{X:Cx}{e:Expr}{T:String}{r:V->List V->Hp->VK->Prop}{to:TE}{t:TA}(K:bW)(p:PE X e (U5 X.K T r to t))(h:X.K=K:=by rfl):PE X e (U5 K T r to t):=by subst h;exact p
theorem cC{K:bW}{H:Hp}{a:Addr}{xs:List V}{k:Int}{v:V}{R:V->Prop}(hs:aV K H a xs)(ha:HW xs k=some v)(q:R v):∃ p ys k' w,V.ref a = .ref p/\V.int k = .int k'/\aV K H p ys/\HW ys k' = some w/\R w:=⟨a,xs,k,v,rfl,rfl,hs,ha,q⟩
theorem jM{K:bW}{H:Hp}{a:Addr}{xs:List V}{k:Int}{v:V}{R:V->Prop}(hs:aM K H a xs)(ha:HW xs k=some v)(q:R v):∃ p ys k' w,V.ref a = .ref p/\V.int k = .int k'/\aM K H p ys/\HW ys k' = some w/\R w:=⟨a,xs,k,v,rfl,rfl,hs,ha,q⟩
theorem cy{i j:Int}{R:Int->Int->Prop}(h:R i j):∃ i' j',V.int i = .int i'/\V.int j = .int j'/\R i' j':=⟨i,j,rfl,rfl,h⟩
theorem pX{K:bW}{H:Hp}{a:Addr}{xs:List V}{E:Addr->Prop}{R:List V->Prop}(e:E a)(h:aM K H a xs\/aV K H a xs)(q:R xs):∃ p ys,E p/\(aM K H p ys\/aV K H p ys)/\R ys:=⟨a,xs,e,h,q⟩
theorem au{α:Type}{A R:α->Prop}{x:α}(h:A x)(r:R x):∃ x,A x/\R x:=⟨x,h,r⟩
open PySem PySem.Spec PyProof.Rows
section
variable {K:bW}{mg:oQ}{x:Str}{st:Stmt}{f c0 p0:Addr}{fd:FuncData}{ps:List Str}{h:Heap}
structure Dc(K:bW)(mg:oQ)(x:Str)(f:Addr)(fd:FuncData)(ps:List Str):Prop where
 m:mg x=some (.ref f)
 k:PySem.W.keepIn K (.ref f)=true
 b:Binds K fd ps []
structure Dk(K:bW)(x:Str)(st:Stmt)(f:Addr)(fd:FuncData):Prop where
 F:L6 K x x st f fd
 n:PySem.W.nsIn K mainGlobals x=some (some (.ref f))
structure Py(K:bW)(x:Str)(st:Stmt)(f:Addr)(fd:FuncData)(c0 p0:Addr):Prop where
 F:Dw K x x st f fd c0 p0
 n:PySem.W.nsIn K mainGlobals x=some (some (.ref f))
structure Dn(K:bW)(mg:oQ)(x:Str)(st:Stmt)(f:Addr)(fd:FuncData)(ps:List Str):Prop where
 F:L6 K x x st f fd
 c:Dc K mg x f fd ps
structure NO(K:bW)(mg:oQ)(x:Str)(st:Stmt)(f:Addr)(fd:FuncData)(ps:List Str)(c0 p0:Addr):Prop where
 F:Dw K x x st f fd c0 p0
 c:Dc K mg x f fd ps
theorem dk{oc:Value}{od an:Option Addr}{osl:Array (Option Value)}{kV doc pm cdv ct:Value}(a:PySem.W.nsIn K mainGlobals x=some (some (.ref f)))
 (l:K.lookup f=some ⟨oc,od,.func (PySem.W.fnOf x x (eM st) (b9 st) (ai st) .none kV doc pm an cdv ct),osl⟩) (c:PySem.W.codeIn K cdv x=true) (k:PySem.W.keepIn K (.ref f)=true) :
 Dk K x st f (PySem.W.fnOf x x (eM st) (b9 st) (ai st) .none kV doc pm an cdv ct):=⟨Oz l c k,a⟩
theorem dkL{oc:Value}{od an:Option Addr}{osl:Array (Option Value)}{kV doc pm ct:Value}(a:PySem.W.nsIn K mainGlobals x=some (some (.ref f)))
 (l:K.lookup f=some ⟨oc,od,.func (PySem.W.fnOf x x (eM st) (b9 st) (ai st) .none kV doc pm an (.ref c0) ct),osl⟩) (c:PySem.W.codeIn K (.ref c0) x=true) (k:PySem.W.keepIn K (.ref f)=true) (d:PySem.W.codeHdIn K c0 p0=true) :
 Py K x st f (PySem.W.fnOf x x (eM st) (b9 st) (ai st) .none kV doc pm an (.ref c0) ct) c0 p0:=⟨MP l c k d,a⟩
structure Ng(K:bW)(x:Str):Prop where
 n:PySem.W.nsIn K mainGlobals x=some none
def Bn(x:Str)(st:Stmt)(ps:List Str)(us:List Value):Prop:=∀(kV doc pm:Value) (an:Option Addr) (cdv ct:Value),bindArgs (PySem.W.fnOf x x (eM st) (b9 st) (ai st) .none kV doc pm an cdv ct) ⟨us,[]⟩=pure (ps.zip us)
theorem NP(h:∀ us:List Value,us.length=ps.length->Bn x st ps us)(kV doc pm:Value)(an:Option Addr)(cdv ct:Value)(us:List Value)(hl:us.length=ps.length):
 bindArgs (PySem.W.fnOf x x (eM st) (b9 st) (ai st) .none kV doc pm an cdv ct) ⟨us,[]⟩=pure (ps.zip us):=h us hl kV doc pm an cdv ct
theorem Dk.dn(X:K.In h)(G:h.Ns mainGlobals mg)(D:Dk K x st f fd)(hb:∀ us:List Value,us.length=ps.length->Bn x st ps us):Dn K mg x st f fd ps:=⟨D.F,PySem.W.mg_of X G D.n,D.F.kp,D.F.binds (NP hb)⟩
theorem Py.dn(X:K.In h)(G:h.Ns mainGlobals mg)(D:Py K x st f fd c0 p0)(hb:∀ us:List Value,us.length=ps.length->Bn x st ps us):NO K mg x st f fd ps c0 p0:=⟨D.F,PySem.W.mg_of X G D.n,D.F.kp,D.F.binds (NP hb)⟩
theorem bn1{y:Str}(h:∀ a,Bn x st [y] [a])(us:List Value)(hl:us.length=[y].length):Bn x st [y] us:=by obtain⟨_,rfl⟩:=Vh us hl;exact h _
theorem Xn{y z:Str}(h:∀ a b,Bn x st [y,z] [a,b])(us:List Value)(hl:us.length=[y,z].length):Bn x st [y,z] us:=by obtain⟨_,_,rfl⟩:=Vi us hl;exact h _ _
theorem Xo{y z u:Str}(h:∀ a b c,Bn x st [y,z,u] [a,b,c])(us:List Value)(hl:us.length=[y,z,u].length):Bn x st [y,z,u] us:=by obtain⟨_,_,_,rfl⟩:=Vj us hl;exact h _ _ _
theorem bn4{y z u v:Str}(h:∀ a b c d,Bn x st [y,z,u,v] [a,b,c,d])(us:List Value)(hl:us.length=[y,z,u,v].length):Bn x st [y,z,u,v] us:=by obtain⟨_,_,_,_,rfl⟩:=Vk us hl;exact h _ _ _ _
theorem BE{y:Str}(X:K.In h)(G:h.Ns mainGlobals mg)(D:Dk K x st f fd)(e:∀ a,Bn x st [y] [a]:=by intros;exact fun _ _ _ _ _ _=>rfl):Dn K mg x st f fd [y]:=D.dn X G (bn1 e)
theorem lN{y z:Str}(X:K.In h)(G:h.Ns mainGlobals mg)(D:Dk K x st f fd)(e:∀ a b,Bn x st [y,z] [a,b]:=by intros;exact fun _ _ _ _ _ _=>rfl):Dn K mg x st f fd [y,z]:=D.dn X G (Xn e)
theorem Qy{y z u:Str}(X:K.In h)(G:h.Ns mainGlobals mg)(D:Dk K x st f fd)(e:∀ a b c,Bn x st [y,z,u] [a,b,c]:=by intros;exact fun _ _ _ _ _ _=>rfl):Dn K mg x st f fd [y,z,u]:=D.dn X G (Xo e)
theorem dn4{y z u v:Str}(X:K.In h)(G:h.Ns mainGlobals mg)(D:Dk K x st f fd)(e:∀ a b c d,Bn x st [y,z,u,v] [a,b,c,d]:=by intros;exact fun _ _ _ _ _ _=>rfl):Dn K mg x st f fd [y,z,u,v]:=D.dn X G (bn4 e)
theorem dl2{y z:Str}(X:K.In h)(G:h.Ns mainGlobals mg)(D:Py K x st f fd c0 p0)(e:∀ a b,Bn x st [y,z] [a,b]:=by intros;exact fun _ _ _ _ _ _=>rfl):NO K mg x st f fd [y,z] c0 p0:=D.dn X G (Xn e)
theorem dl3{y z u:Str}(X:K.In h)(G:h.Ns mainGlobals mg)(D:Py K x st f fd c0 p0)(e:∀ a b c,Bn x st [y,z,u] [a,b,c]:=by intros;exact fun _ _ _ _ _ _=>rfl):NO K mg x st f fd [y,z,u] c0 p0:=D.dn X G (Xo e)
theorem Dn.ok{P:Program}{w:World}{base:Heap}{N:List Str}{k:Nat}{sp:Sp}(D:Dn K mg x st f fd ps)(S:aD N ps (ai st))
 (hbody:∀(cdv:Value) (A:Around) (outer:List Env) (s:Shared) (H:Hp) (vs:List V) (Q:VK) (E:XK),fH k (A.deeper (envOfC x (ai st) s.heap.objs.size f cdv))->sp vs H Q E->
  ∃ t,xJ (tI EJ P w K mg base N x (ai st) f cdv A outer s H E).Cy (b9 st) t/\t { nx:=fun _ H'=>Q .fD H',rt:=Q} (start N vs) H)
 (len:∀ vs H Q E,sp vs H Q E->vs.length=ps.length:=by
  intro vs H Q E h
  first
  | (obtain⟨_,rfl,_⟩:=h;rfl)
  | (obtain⟨_,_,rfl,_⟩:=h;rfl)
  | (obtain⟨_,_,_,rfl,_⟩:=h;rfl)
  | (obtain⟨_,_,_,_,rfl,_⟩:=h;rfl)
  | (obtain⟨_,_,_,_,_,rfl,_⟩:=h;rfl)
  | (obtain⟨_,_,_,_,_,_,rfl,_⟩:=h;rfl)
  | (obtain⟨_,_,_,_,_,_,_,rfl,_⟩:=h;rfl)
  | (obtain⟨_,_,_,_,_,_,_,_,rfl,_⟩:=h;rfl)
  | (obtain⟨_,_,_,_,_,_,_,_,_,rfl,_⟩:=h;rfl)):m5 P w K mg base EJ (k+1) f fd ps sp:=D.F.ok S len hbody
theorem NO.ok{P:Program}{w:World}{base:Heap}{N:List Str}{k:Nat}{sp:Sp}(D:NO K mg x st f fd ps c0 p0)(S:aD N ps (ai st))
 (hbody:∀(A:Around) (outer:List Env) (s:Shared) (H:Hp) (vs:List V) (Q:VK) (E:XK),fH k (A.deeper (envOfC x (ai st) s.heap.objs.size f (.ref c0)))->sp vs H Q E->
  ∃ t,xJ (tI EJ P w K mg base N x (ai st) f (.ref c0) A outer s H E).Cy (b9 st) t/\t { nx:=fun _ H'=>Q .fD H',rt:=Q} (start N vs) H)
 (len:∀ vs H Q E,sp vs H Q E->vs.length=ps.length:=by
  intro vs H Q E h
  first
  | (obtain⟨_,rfl,_⟩:=h;rfl)
  | (obtain⟨_,_,rfl,_⟩:=h;rfl)
  | (obtain⟨_,_,_,rfl,_⟩:=h;rfl)
  | (obtain⟨_,_,_,_,rfl,_⟩:=h;rfl)
  | (obtain⟨_,_,_,_,_,rfl,_⟩:=h;rfl)
  | (obtain⟨_,_,_,_,_,_,rfl,_⟩:=h;rfl)
  | (obtain⟨_,_,_,_,_,_,_,rfl,_⟩:=h;rfl)
  | (obtain⟨_,_,_,_,_,_,_,_,rfl,_⟩:=h;rfl)
  | (obtain⟨_,_,_,_,_,_,_,_,_,rfl,_⟩:=h;rfl)):m5 P w K mg base EJ (k+1) f fd ps sp:=D.F.ok S len hbody
theorem Dn.AE{P:Program}{w:World}{base:Heap}{N:List Str}{k:Nat}{sp:Sp}(D:Dn K mg x st f fd ps)(S:aD N ps (ai st))
 (hbody:∀(cdv:Value) (A:Around) (outer:List Env) (s:Shared) (H:Hp) (vs:List V) (Q:VK) (E:XK),fH k (A.deeper (envOfC x (ai st) s.heap.objs.size f cdv))->sp vs H Q E->
  ∃ t,xJ (tI (IQ P w) P w K mg base N x (ai st) f cdv A outer s H E) (b9 st) t/\t { nx:=fun _ H'=>Q .fD H',rt:=Q} (start N vs) H)
 (len:∀ vs H Q E,sp vs H Q E->vs.length=ps.length:=by
  intro vs H Q E h
  first
  | (obtain⟨_,rfl,_⟩:=h;rfl)
  | (obtain⟨_,_,rfl,_⟩:=h;rfl)
  | (obtain⟨_,_,_,rfl,_⟩:=h;rfl)
  | (obtain⟨_,_,_,_,rfl,_⟩:=h;rfl)
  | (obtain⟨_,_,_,_,_,rfl,_⟩:=h;rfl)
  | (obtain⟨_,_,_,_,_,_,rfl,_⟩:=h;rfl)
  | (obtain⟨_,_,_,_,_,_,_,rfl,_⟩:=h;rfl)
  | (obtain⟨_,_,_,_,_,_,_,_,rfl,_⟩:=h;rfl)
  | (obtain⟨_,_,_,_,_,_,_,_,_,rfl,_⟩:=h;rfl)):m5 P w K mg base (IQ P w) (k+1) f fd ps sp:=D.F.AE S len hbody
theorem Pz{y:Str}(D:Dk K x st f fd)(e:∀ a,Bn x st [y] [a]:=by intros;exact fun _ _ _ _ _ _=>rfl)(s:Shared)(v:Value):BindsTo s fd ⟨[v],[]⟩ [(y,v)]:=by
 obtain⟨oc,od,kV,doc,pm,an,cdv,ct,osl,rfl,lk,hcd⟩:=D.F.ex;exact .of_eq (e v kV doc pm an cdv ct)
end
section
variable {X:Cx}
theorem aF{CX:HV}{k r:Nat}{f:Addr}{fd:FuncData}{ps:List Str}{sp:Sp}{x:Str}{E:XK}{e:Expr}{es:List Expr}{t:TA}{p pos:Pos}
 (F:m5 X.prog X.w X.K X.mg X.base CX k f fd ps sp) (hr:fH r X.A) (D:Dc X.K X.mg x f fd ps) (hx:Passes CX X E) (ha:PA X (e::es) t) (hk:k<=r:=by decide) (hg:Gl X x:=by rfl)
 (hdb:(x==("__debug__":Str))=false:=by decide) (he:starEach (e::es) X.env=(false,eval e X.env)::starEach es X.env:=by rfl) (hpl:(backTo pos (starEach es X.env)).any (·.1)=false:=by rfl) :
 PE X (.Call (.Name x p) (e::es) [] pos) (Nl sp [] E t):=LV F (hr.mono hk) hg D.m D.k D.b .nil hx ha hdb he hpl
theorem jS(l:List Str)(h:l.Nodup:=by decide +kernel):l.Nodup:=h
theorem cH{p pos:Pos}{e:Expr}{es:List Expr}{t:TA}(K:bW)(hm:X.mg "len"=none)(ha:PA X (e::es) t)(hK:X.K=K:=by rfl)(hg:Gl X "len":=by rfl)
 (he:starEach (e::es) X.env=(false,eval e X.env)::starEach es X.env:=by rfl) (hpl:(backTo pos (starEach es X.env)).any (·.1)=false:=by rfl):PE X (.Call (.Name "len" p) (e::es) [] pos) (UZ (RC K) t) :=
 cW (Va K hK) hg hm PySem.boot_len ha (by decide) (by decide) he hpl
theorem aI{a b:Expr}{ta tb:TE}{pos:Pos}{r:R2}(hr:Qo X r)(ha:PE X a ta)(hb:PE X b tb)(hs:EI b:=by exact fun _ _=>rfl):PE X (.Subscript a b pos) (Ra r ta tb):=Rk hr ha hb hs
theorem bf{x:Str}{pos:Pos}(i:Nat)(hN:X.N.Nodup)(hi:X.N[i]?=some x:=by exact rfl)(hx:Loc X.env.scope x:=by exact Or.inl rfl)(hf:X.fn x=true\/X.env.scope.names.lookup x=some .local:=by first | exact .inl rfl | exact .inr rfl | assumption):PG X (.Name x pos) (Ik i):=uc hN hi hx hf
end
end L2
set_option maxHeartbeats 4000000
namespace K37
open PySem L2 Ring
local macro_rules | `(tactic| trivial)=>`(tactic| exact⟨rfl,rfl,rfl,by decide +kernel,rfl,by decide +kernel,by decide +kernel⟩)
def top(i:Nat):Stmt:=PySem.Challenge.pw_ringbase_k37_whole_kinds.main.body.getD i (.Pass ⟨0,0,0,0⟩)
section
variable {gC gZ iI kT tF Fo Ia Ly NQ Uc Si Sj Sk Sl Sm Sn:TS}{jr Lz:TT}{mV Xp:TI}{mW Xq:TG}{D:Ends}{σ:St}{H:Hp}
abbrev rM:Stmt:=top 9
theorem DG:aD ["tie_set","tie"] ["tie_set","tie"] (ai rM):=by trivial
abbrev oB:Stmt:=top 10
theorem DH:aD ["tie_set"] ["tie_set"] (ai oB):=by trivial
abbrev vO:Stmt:=top 11
theorem oE:aD ["web","ties","found","tie"] ["web","ties"] (ai vO):=by trivial
theorem yC(h:let cg:=gC;let cS:=gZ;let dJ:=iI;let fE:=(aA (bX jr dJ aX) cS);let gO:=(aA (dF mV mW fE) cg);(aA kT gO) D σ H):(aA kT (aA (dF mV mW (aA (bX jr iI aX) gZ)) gC)) D σ H:=h
abbrev pG:Stmt:=top 12
theorem BF:aD ["web"] ["web"] (ai pG):=by trivial
abbrev vP:Stmt:=top 13
theorem GP:aD ["web","number"] ["web","number"] (ai vP):=by trivial
abbrev nA:Stmt:=top 14
theorem zw:aD ["web","tie_set"] ["web","tie_set"] (ai nA):=by trivial
theorem lO(h:let cg:=gC;(bX jr cg aX) D σ H):(bX jr gC aX) D σ H:=h
abbrev ja:Stmt:=top 15
theorem wR:aD ["web","tie_set"] ["web","tie_set"] (ai ja):=by trivial
theorem fN(h:let cg:=gC;(aA gZ cg) D σ H):(aA gZ gC) D σ H:=h
abbrev kc:Stmt:=top 16
theorem zx:aD ["web","tie_set"] ["web","tie_set"] (ai kc):=by trivial
abbrev jc:Stmt:=top 17
theorem fO:aD ["web","tie_set","ends","one","other","length"] ["web","tie_set"] (ai jc):=by trivial
theorem oZ(h:let cg:=gC;let cS:=gZ;let dJ:=(aA iI cS);let fE:=(aA (dF mV mW dJ) cg);(aA kT fE) D σ H):(aA kT (aA (dF mV mW (aA iI gZ)) gC)) D σ H:=h
abbrev e7:Stmt:=top 18
theorem gP:aD ["leasts","one","other","low","high"] ["leasts","one","other"] (ai e7):=by trivial
theorem gQ(h:let cg:=gC;let cS:=(aA gZ cg);(aA iI cS) D σ H):(aA iI (aA gZ gC)) D σ H:=h
abbrev qC:Stmt:=top 19
theorem gy:aD ["web","tie_set","leasts","one","other","length","found","start"] ["web","tie_set"] (ai qC):=by trivial
theorem GQ(h:let cg:=gC;let cS:=gZ;let dJ:=(bX jr cS aX);let fE:=(aA (dF mV mW dJ) cg);let gO:=(aA iI fE);let o4:=kT;let yD:=(aA (dF Xp Xq o4) gO);(aA tF yD) D σ H):(aA tF (aA (dF Xp Xq kT) (aA iI (aA (dF mV mW (bX jr gZ aX)) gC)))) D σ H:=h
abbrev DI:Stmt:=top 20
theorem MU:aD ["web"] ["web"] (ai DI):=by trivial
abbrev rN:Stmt:=top 22
theorem DJ:aD ["web","tie_set"] ["web","tie_set"] (ai rN):=by trivial
abbrev fU:Stmt:=top 23
theorem bg:aD ["web","leasts","trails","tie","one","other","bridge","moved"] ["web"] (ai fU):=by trivial
theorem rO(h:let cg:=gC;let cS:=gZ;let dJ:=(aA iI cS);let fE:=(aA kT dJ);let gO:=(aA tF fE);let o4:=(bX jr gO aX);let yD:=(aA Fo o4);let Fp:=(aA Ia yD);let Fq:=(aA (dF mV mW Fp) cg);let Ft:=(aA Ly Fq);(aA NQ Ft) D σ H):(aA NQ (aA Ly (aA (dF mV mW (aA Ia (aA Fo (bX jr (aA tF (aA kT (aA iI gZ))) aX)))) gC))) D σ H:=h
abbrev vQ:Stmt:=top 24
theorem oF:aD ["web","found","trail"] ["web"] (ai vQ):=by trivial
theorem GR(h:let cg:=gC;let cS:=gZ;let dJ:=(aA (dF mV mW cS) cg);(aA iI dJ) D σ H):(aA iI (aA (dF mV mW gZ) gC)) D σ H:=h
abbrev vR:Stmt:=top 25
theorem GS:aD ["web"] ["web"] (ai vR):=by trivial
abbrev kG:Stmt:=top 26
theorem nB:aD ["web","trails","chord","tie"] ["web","trails","chord"] (ai kG):=by trivial
abbrev lP:Stmt:=top 27
theorem wU:aD ["web","tie"] ["web","tie"] (ai lP):=by trivial
theorem fP(h:let cg:=gC;let cS:=gZ;(aA (bX jr cS aX) cg) D σ H):(aA (bX jr gZ aX) gC) D σ H:=h
abbrev oG:Stmt:=top 29
theorem vS:aD ["web","tie_set","touched"] ["web","tie_set"] (ai oG):=by trivial
theorem DK(h:let cg:=gC;let cS:=(aA gZ cg);let dJ:=iI;(aA (bX jr dJ aX) cS) D σ H):(aA (bX jr iI aX) (aA gZ gC)) D σ H:=h
abbrev ik:Stmt:=top 30
theorem qD:aD ["web","number"] ["web","number"] (ai ik):=by trivial
abbrev lQ:Stmt:=top 31
theorem wW:aD ["web","ring"] ["web","ring"] (ai lQ):=by trivial
abbrev kg:Stmt:=top 32
theorem zy:aD ["web","rings"] ["web","rings"] (ai kg):=by trivial
def cI:Pos:=⟨102,29,102,70⟩
abbrev vU:Stmt:=top 34
theorem GU:aD ["one","other"] ["one","other"] (ai vU):=by trivial
abbrev kH:Stmt:=top 35
theorem vV:aD ["tie_set","marks"] ["tie_set","marks"] (ai kH):=by trivial
abbrev rP:Stmt:=top 36
theorem lR:aD ["web","side","ahead","point"] ["web","side"] (ai rP):=by trivial
abbrev qF:Stmt:=top 37
theorem GV:aD ["web","side"] ["web","side"] (ai qF):=by trivial
abbrev oH:Stmt:=top 38
theorem lS:aD ["web","tie_set","trails","side","amiss"] ["web","tie_set"] (ai oH):=by trivial
theorem DL(h:let cg:=gC;let cS:=gZ;let dJ:=(aA (bX jr cS aX) cg);let fE:=(aA iI dJ);let gO:=(aA kT fE);let o4:=(aA tF gO);(aA Fo o4) D σ H):(aA Fo (aA tF (aA kT (aA iI (aA (bX jr gZ aX) gC))))) D σ H:=h
abbrev e8:Stmt:=top 40
theorem cX:aD ["web","marks","steps","tie","ends","turn"] ["web","marks"] (ai e8):=by trivial
theorem qG(h:let cg:=gC;let cS:=gZ;let dJ:=(aA iI cS);let fE:=(aA kT dJ);let gO:=(aA (dF mV mW fE) cg);(aA tF gO) D σ H):(aA tF (aA (dF mV mW (aA kT (aA iI gZ))) gC)) D σ H:=h
abbrev gR:Stmt:=top 41
theorem bH:aD ["web","marks","start","steps","found","waiting","nearest","way","tie","point","turn","part","further"] ["web","marks","start"] (ai gR):=by trivial
theorem wX(h:let cg:=gC;let cS:=gZ;let dJ:=(bX Lz cS aX);let fE:=(aA iI dJ);let gO:=(aA kT fE);let o4:=(dF mV mW gO);let yD:=(aA tF o4);let Fp:=(aA Fo yD);let Fq:=(aA Ia Fp);let Ft:=(aA (uD jr Fq) cg);let Kw:=(aA Ly Ft);let GW:=(aA NQ Kw);(aA Uc GW) D σ H):(aA Uc (aA NQ (aA Ly (aA (uD jr (aA Ia (aA Fo (aA tF (dF mV mW (aA kT (aA iI (bX Lz gZ aX)))))))) gC)))) D σ H:=h
def cK:Pos:=⟨140,35,140,63⟩
abbrev iW:Stmt:=top 42
theorem rQ:aD ["way"] ["way"] (ai iW):=by trivial
abbrev fb:Stmt:=top 43
theorem qH:aD ["ways"] ["ways"] (ai fb):=by trivial
abbrev fc:Stmt:=top 45
theorem qI:aD ["web","marks"] ["web","marks"] (ai fc):=by trivial
abbrev fV:Stmt:=top 46
theorem rR:aD ["ways"] ["ways"] (ai fV):=by trivial
abbrev lT:Stmt:=top 47
theorem wY:aD ["web","marks"] ["web","marks"] (ai lT):=by trivial
abbrev kh:Stmt:=top 48
theorem lU:aD ["web","marks","ways","rounds"] ["web","marks"] (ai kh):=by trivial
theorem zz(h:let cg:=gC;let cS:=gZ;let dJ:=(aA (bX jr cS aX) cg);let fE:=(aA iI dJ);let gO:=(aA kT fE);(aA tF gO) D σ H):(aA tF (aA kT (aA iI (aA (bX jr gZ aX) gC)))) D σ H:=h
abbrev rS:Stmt:=top 50
theorem eT:aD ["rows","tie_set","left","used","lead","row","places"] ["rows","tie_set"] (ai rS):=by trivial
theorem DM(h:let cg:=gC;let cS:=gZ;let dJ:=(aA iI cS);let fE:=(bX jr dJ aX);let gO:=(aA (dF mV mW fE) cg);let o4:=(aA kT gO);(aA tF o4) D σ H):(aA tF (aA kT (aA (dF mV mW (bX jr (aA iI gZ) aX)) gC))) D σ H:=h
abbrev pH:Stmt:=top 51
theorem nC:aD ["rows","added","found","old"] ["rows","added"] (ai pH):=by trivial
theorem BG(h:let cg:=gC;let cS:=gZ;let dJ:=iI;let fE:=(bX jr cS dJ);let gO:=(aA (dF mV mW fE) cg);(aA kT gO) D σ H):(aA kT (aA (dF mV mW (bX jr gZ iI)) gC)) D σ H:=h
abbrev rT:Stmt:=top 52
theorem iq:aD ["sets","rows","place","tie_set","rest"] ["sets"] (ai rT):=by trivial
theorem DN(h:let cg:=gC;let cS:=gZ;let dJ:=(bX jr cS aX);let fE:=(aA iI dJ);let gO:=(aA (dF mV mW fE) cg);(aA kT gO) D σ H):(aA kT (aA (dF mV mW (aA iI (bX jr gZ aX))) gC)) D σ H:=h
abbrev oJ:Stmt:=top 53
theorem DO:aD ["web","rings"] ["web","rings"] (ai oJ):=by trivial
abbrev ki:Stmt:=top 54
theorem jd:aD ["web","rings","rows","found","place"] ["web","rings"] (ai ki):=by trivial
theorem zA(h:let cg:=gC;let cS:=gZ;let dJ:=(aA (dF mV mW cS) cg);let fE:=(aA iI dJ);let gO:=(aA kT fE);let o4:=tF;(aA (bX jr o4 aX) gO) D σ H):(aA (bX jr tF aX) (aA kT (aA iI (aA (dF mV mW gZ) gC)))) D σ H:=h
abbrev fQ:Stmt:=top 55
theorem dB:aD ["web","waiting","found","marks","ring"] ["web"] (ai fQ):=by trivial
theorem vW(h:let cg:=gC;let cS:=gZ;let dJ:=(aA iI cS);let fE:=(aA kT dJ);let gO:=(aA tF fE);let o4:=(aA (uD jr gO) cg);let yD:=(aA Fo o4);(aA Ia yD) D σ H):(aA Ia (aA Fo (aA (uD jr (aA tF (aA kT (aA iI gZ)))) gC))) D σ H:=h
abbrev je:Stmt:=top 56
theorem kI:aD ["web","rings","marks"] ["web"] (ai je):=by trivial
abbrev lV:Stmt:=top 59
theorem wZ:aD ["web"] ["web"] (ai lV):=by trivial
abbrev kj:Stmt:=top 60
theorem gU:aD ["web","found","chord","ring"] ["web"] (ai kj):=by trivial
abbrev ko:Stmt:=top 61
theorem zB:aD ["web"] ["web"] (ai ko):=by trivial
abbrev fW:Stmt:=top 63
theorem k8:aD ["web","ring","length"] ["web","ring"] (ai fW):=by trivial
abbrev iJ:Stmt:=top 64
theorem nE:aD ["web","ring","length"] ["web","ring"] (ai iJ):=by trivial
abbrev lW:Stmt:=top 65
theorem BH:aD ["rings","rows","ring"] ["rings","rows","ring"] (ai lW):=by trivial
abbrev iX:Stmt:=top 66
theorem bZ:aD ["rows","ring","tie","marks","lead","row","places"] ["rows","ring"] (ai iX):=by trivial
theorem rV(h:let cg:=gC;let cS:=gZ;let dJ:=(bX jr cS aX);let fE:=(aA (dF mV mW dJ) cg);let gO:=(aA iI fE);(aA kT gO) D σ H):(aA kT (aA iI (aA (dF mV mW (bX jr gZ aX)) gC))) D σ H:=h
abbrev lX:Stmt:=top 67
theorem fR:aD ["web","ring","shorter","rows","others","more_rows"] ["web","ring"] (ai lX):=by trivial
theorem w4(h:let cg:=gC;let cS:=gZ;let dJ:=(aA (bX jr cS aX) cg);let fE:=(aA iI dJ);let gO:=(aA kT fE);let o4:=tF;let yD:=(aA (bX Lz o4 aX) gO);let Fp:=(aA Fo yD);let Fq:=(aA Ia Fp);let Ft:=(aA Ly Fq);(aA NQ Ft) D σ H):(aA NQ (aA Ly (aA Ia (aA Fo (aA (bX Lz tF aX) (aA kT (aA iI (aA (bX jr gZ aX) gC)))))))) D σ H:=h
abbrev kJ:Stmt:=top 69
theorem vX:aD ["script","k"] ["script","k"] (ai kJ):=by trivial
abbrev nF:Stmt:=top 70
theorem lY:aD ["cell","k","near","stir"] ["cell","k"] (ai nF):=by trivial
abbrev lZ:Stmt:=top 71
theorem w5:aD ["cell","way"] ["cell","way"] (ai lZ):=by trivial
theorem w6(h:let cg:=gC;let cS:=gZ;let dJ:=(aA (bX jr cS aX) cg);let fE:=iI;(aA (bX Lz fE aX) dJ) D σ H):(aA (bX Lz iI aX) (aA (bX jr gZ aX) gC)) D σ H:=h
abbrev rW:Stmt:=top 72
theorem l6:aD ["cell","points","way","one","other"] ["cell","points","way"] (ai rW):=by trivial
theorem DQ(h:let cg:=gC;let cS:=(aA gZ cg);let dJ:=(aA iI cS);(aA kT dJ) D σ H):(aA kT (aA iI (aA gZ gC))) D σ H:=h
abbrev ir:Stmt:=top 73
theorem bK:aD ["script","most","ranked","head","points","way","cells","ties","marks","free","cell","tie","joined","old"] ["script","most","ranked"] (ai ir):=by trivial
theorem DR(h:let cg:=gC;let cS:=gZ;let dJ:=(aA iI cS);let fE:=(aA kT dJ);let gO:=(aA tF fE);let o4:=(bX jr gO aX);let yD:=(aA Fo o4);let Fp:=(aA Ia yD);let Fq:=(aA (dF mV mW Fp) cg);let Ft:=(aA Ly Fq);let Kw:=(aA NQ Ft);let GW:=(aA Uc Kw);let So:=Si;let Sq:=(aA Sj So);let Ss:=(aA (bX Lz Sq aX) GW);let Su:=(aA Sk Ss);let Sv:=(aA Sl Su);let Sw:=(aA Sm Sv);(aA Sn Sw) D σ H):(aA Sn (aA Sm (aA Sl (aA Sk (aA (bX Lz (aA Sj Si) aX) (aA Uc (aA NQ (aA Ly (aA (dF mV mW (aA Ia (aA Fo (bX jr (aA tF (aA kT (aA iI gZ))) aX)))) gC))))))))) D σ H:=h
abbrev l8:Stmt:=top 75
theorem kK:aD ["web","some","counts","k"] ["web","some"] (ai l8):=by trivial
theorem o5(h:let cg:=gC;let cS:=gZ;let dJ:=(aA iI cS);let fE:=(bX jr dJ aX);let gO:=(aA (dF mV mW fE) cg);(aA kT gO) D σ H):(aA kT (aA (dF mV mW (bX jr (aA iI gZ) aX)) gC)) D σ H:=h
abbrev gV:Stmt:=top 76
theorem fT:aD ["web","some","marks","k","old"] ["web","some"] (ai gV):=by trivial
abbrev l9:Stmt:=top 78
theorem BI:aD ["web","some"] ["web","some"] (ai l9):=by trivial
abbrev jN:Stmt:=top 79
theorem tG:aD ["web","some","counts"] ["web","some"] (ai jN):=by trivial
theorem BJ(h:let cg:=gC;let cS:=gZ;let dJ:=(aA (bX jr cS aX) cg);(aA iI dJ) D σ H):(aA iI (aA (bX jr gZ aX) gC)) D σ H:=h
abbrev mh:Stmt:=top 80
theorem BK:aD ["web","some"] ["web","some"] (ai mh):=by trivial
abbrev nG:Stmt:=top 82
theorem mj:aD ["kept","some","one"] ["kept","some"] (ai nG):=by trivial
theorem zC(h:let cg:=gC;let cS:=(aA gZ cg);let dJ:=iI;let fE:=(aA (bX jr dJ aX) cS);let gO:=kT;(aA (dF mV mW gO) fE) D σ H):(aA (dF mV mW kT) (aA (bX jr iI aX) (aA gZ gC))) D σ H:=h
abbrev fX:Stmt:=top 84
theorem iw:aD ["web","found","some"] ["web"] (ai fX):=by trivial
theorem rX(h:let cg:=gC;let cS:=gZ;let dJ:=(bX jr cS aX);let fE:=(aA (dF mV mW dJ) cg);(aA iI fE) D σ H):(aA iI (aA (dF mV mW (bX jr gZ aX)) gC)) D σ H:=h
abbrev nH:Stmt:=top 85
theorem gW:aD ["web","rings","ring","behind","far","kept","one","length"] ["web","rings","ring","behind"] (ai nH):=by trivial
theorem zD(h:let cg:=gC;let cS:=gZ;let dJ:=(bX jr cS aX);let fE:=(aA iI dJ);let gO:=(aA (dF mV mW fE) cg);let o4:=(aA kT gO);(aA tF o4) D σ H):(aA tF (aA kT (aA (dF mV mW (aA iI (bX jr gZ aX))) gC))) D σ H:=h
abbrev pJ:Stmt:=top 86
theorem BL:aD ["web","rings","ring"] ["web","rings","ring"] (ai pJ):=by trivial
abbrev Fv:Stmt:=top 87
theorem pL:aD ["script","web","rings","base","at","ring","kind"] ["script"] (ai Fv):=by trivial
theorem PB(h:let cg:=gC;let cS:=gZ;let dJ:=(bX jr cS aX);let fE:=iI;let gO:=(aA (bX Lz fE aX) dJ);let o4:=(aA kT gO);let yD:=(aA (dF mV mW o4) cg);let Fp:=(aA tF yD);let Fq:=(aA Fo Fp);let Ft:=(aA Ia Fq);(aA Ly Ft) D σ H):(aA Ly (aA Ia (aA Fo (aA tF (aA (dF mV mW (aA kT (aA (bX Lz iI aX) (bX jr gZ aX)))) gC))))) D σ H:=h
end
set_option genInjectivity false
set_option genSizeOf false
structure VO where
 GX:Addr
 GY:FuncData
 GZ:Addr
 G0:FuncData
 Kx:Addr
 Ky:FuncData
 DS:Addr
 DT:FuncData
 Kz:Addr
 KA:FuncData
 BN:Addr
 BO:FuncData
 zE:Addr
 zF:FuncData
 BP:Addr
 BQ:FuncData
 zG:Addr
 zH:FuncData
 rY:Addr
 rZ:FuncData
 KC:Addr
 KD:FuncData
 PC:Addr
 PD:FuncData
 G3:Addr
 G4:FuncData
 tP:Addr
 tQ:FuncData
 KG:Addr
 KH:FuncData
 KI:Addr
 KJ:FuncData
 w9:Addr
 xg:FuncData
 zI:Addr
 zJ:FuncData
 G5:Addr
 G6:FuncData
 r6:Addr
 r9:FuncData
 zK:Addr
 zL:FuncData
 BR:Addr
 BS:FuncData
 KL:Addr
 KN:FuncData
 xh:Addr
 xj:FuncData
 G7:Addr
 G8:FuncData
 KO:Addr
 KP:FuncData
 G9:Addr
 Hf:FuncData
 se:Addr
 sj:FuncData
 zM:Addr
 zN:FuncData
 tR:Addr
 tS:FuncData
 sr:Addr
 su:FuncData
 sy:Addr
 sA:FuncData
 tT:Addr
 tU:FuncData
 zO:Addr
 zP:FuncData
 BU:Addr
 BV:FuncData
 Hg:Addr
 Hh:FuncData
 DU:Addr
 DV:FuncData
 Hi:Addr
 Hj:FuncData
 Hl:Addr
 Ho:FuncData
 BW:Addr
 BX:FuncData
 xm:Addr
 xn:FuncData
 zQ:Addr
 zR:FuncData
 zS:Addr
 zT:FuncData
 BY:Addr
 BZ:FuncData
 B3:Addr
 B4:FuncData
 tV:Addr
 tW:FuncData
 xo:Addr
 xq:FuncData
 DW:Addr
 DX:FuncData
 tX:Addr
 tY:FuncData
 zU:Addr
 zV:FuncData
 xr:Addr
 xu:FuncData
 B5:Addr
 B6:FuncData
 zW:Addr
 zX:FuncData
 Hq:Addr
 Hr:FuncData
 Hs:Addr
 Ht:FuncData
 zY:Addr
 zZ:FuncData
 z5:Addr
 z6:FuncData
 DY:Addr
 DZ:FuncData
 D0:Addr
 D3:FuncData
 D5:Addr
 D6:FuncData
 B7:Addr
 B8:FuncData
 tZ:Addr
 t8:FuncData
 B9:Addr
 Ca:FuncData
 D7:Addr
 D8:FuncData
 Sx:Addr
 Sy:FuncData
 dD:Addr
 D9:Addr
 oM:Addr
 sC:Addr
 vY:Addr
 k9:Addr
 Cb:Addr
 cY:Addr
 z7:Addr
 cZ:Addr
structure Txt(P:Program)(w:World)(base:Heap)(K:bW)(mg:oQ)(a:VO):Prop where
 gz:Dn K mg "has_tie" rM a.GX a.GY ["tie_set","tie"]
 ff:Dn K mg "ties_in" oB a.GZ a.G0 ["tie_set"]
 qJ:Dn K mg "set_of" vO a.Kx a.Ky ["web","ties"]
 jO:Dn K mg "all_ties" pG a.DS a.DT ["web"]
 qK:Dn K mg "is_set" vP a.Kz a.KA ["web","number"]
 iP:Dn K mg "check_set" nA a.BN a.BO ["web","tie_set"]
 gX:Dn K mg "triples_in" ja a.zE a.zF ["web","tie_set"]
 eU:Dn K mg "length_of" kc a.BP a.BQ ["web","tie_set"]
 mq:Dn K mg "odd_points" jc a.zG a.zH ["web","tie_set"]
 fg:Dn K mg "drawn_together" e7 a.rY a.rZ ["leasts","one","other"]
 qL:Dn K mg "pieces" qC a.KC a.KD ["web","tie_set"]
 z8:Dn K mg "rank" DI a.PC a.PD ["web"]
 sD:Dn K mg "is_even" rN a.G3 a.G4 ["web","tie_set"]
 dX:Dn K mg "forest_trails" fU a.tP a.tQ ["web"]
 vZ:Dn K mg "forest" vQ a.KG a.KH ["web"]
 nJ:Dn K mg "chords" vR a.KI a.KJ ["web"]
 kL:Dn K mg "ring_closed" kG a.w9 a.xg ["web","trails","chord"]
 jf:Dn K mg "chord_ring" lP a.zI a.zJ ["web","tie"]
 lg:Dn K mg "is_ring" oG a.G5 a.G6 ["web","tie_set"]
 iy:Dn K mg "is_ring_number" ik a.r6 a.r9 ["web","number"]
 mw:Dn K mg "check_ring" lQ a.zK a.zL ["web","ring"]
 iQ:NO K mg "by_length" kg a.BR a.BS ["web","rings"] a.Cb a.cY
 wc:Dn K mg "common" vU a.KL a.KN ["one","other"]
 iK:Dn K mg "bears_oddly" kH a.xh a.xj ["tie_set","marks"]
 sE:Dn K mg "is_side" rP a.G7 a.G8 ["web","side"]
 we:Dn K mg "cut_of" qF a.KO a.KP ["web","side"]
 sF:Dn K mg "side_of" oH a.G9 a.Hf ["web","tie_set"]
 iz:Dn K mg "steps_by_point" e8 a.se a.sj ["web","marks"]
 jg:NO K mg "least_ways" gR a.zM a.zN ["web","marks","start"] a.z7 a.cZ
 fY:Dn K mg "length_of_way" iW a.tR a.tS ["way"]
 iA:Dn K mg "worths_of_ways" fb a.sr a.su ["ways"]
 fh:Dn K mg "all_least_ways" fc a.sy a.sA ["web","marks"]
 fZ:Dn K mg "worths_of_all" fV a.tT a.tU ["ways"]
 my:Dn K mg "worths_for" lT a.zO a.zP ["web","marks"]
 nK:Dn K mg "least_odd" kh a.BU a.BV ["web","marks"]
 iB:Dn K mg "reduced" rS a.Hg a.Hh ["rows","tie_set"]
 pM:Dn K mg "with_row" pH a.DU a.DV ["rows","added"]
 jt:Dn K mg "rows_of" rT a.Hi a.Hj ["sets"]
 sG:Dn K mg "is_base" oJ a.Hl a.Ho ["web","rings"]
 nL:Dn K mg "marks_for" ki a.BW a.BX ["web","rings"]
 kM:Dn K mg "least_rings" fQ a.xm a.xn ["web"]
 mz:Dn K mg "least_base" je a.zQ a.zR ["web"]
 jh:Dn K mg "check_rank" lV a.zS a.zT ["web"]
 nM:Dn K mg "even_sets" kj a.BY a.BZ ["web"]
 kq:Dn K mg "all_rings" ko a.B3 a.B4 ["web"]
 iY:Dn K mg "shorter_rings" fW a.tV a.tW ["web","ring"]
 kN:Dn K mg "other_rings" iJ a.xo a.xq ["web","ring"]
 mC:Dn K mg "parts_of" lW a.DW a.DX ["rings","rows","ring"]
 gb:Dn K mg "marks_against" iX a.tX a.tY ["rows","ring"]
 mD:Dn K mg "ring_paper" lX a.zU a.zV ["web","ring"]
 iL:Dn K mg "_law_cell_at" kJ a.xr a.xu ["script","k"]
 iR:Dn K mg "_law_mixed" nF a.B5 a.B6 ["cell","k"]
 mE:Dn K mg "_law_length" lZ a.zW a.zX ["cell","way"]
 sH:Dn K mg "_law_tie" rW a.Hq a.Hr ["cell","points","way"]
 sI:Dn K mg "_law_web" ir a.Hs a.Ht ["script","most","ranked"]
 ji:Dn K mg "_law_counts" l8 a.zY a.zZ ["web","some"]
 mF:Dn K mg "_law_pieces" gV a.z5 a.z6 ["web","some"]
 pN:Dn K mg "_law_even" l9 a.DY a.DZ ["web","some"]
 pO:Dn K mg "_law_ring" jN a.D0 a.D3 ["web","some"]
 jP:Dn K mg "_law_long" mh a.D5 a.D6 ["web","some"]
 kr:Dn K mg "_law_added" nG a.B7 a.B8 ["kept","some"]
 iZ:Dn K mg "_law_all_rings" fX a.tZ a.t8 ["web"]
 ku:Dn K mg "_law_taken" nH a.B9 a.Ca ["web","rings","ring","behind"]
 pP:Dn K mg "_law_kind" pJ a.D7 a.D8 ["web","rings","ring"]
 NR:Dn K mg "law" Fv a.Sx a.Sy ["script"]
 MV:mg "ValueError"=none
 Sz:mg "all"=none
 VP:mg "bool"=none
 kA:mg "enumerate"=none
 Fw:mg "int"=none
 MW:mg "isinstance"=none
 dM:mg "len"=none
 KQ:mg "list"=none
 KR:mg "max"=none
 Fy:mg "min"=none
 cj:mg "range"=none
 SA:mg "set"=none
 wg:mg "sorted"=none
 NS:mg "sum"=none
 uw:mg "tuple"=none
 NT:mg "zip"=none
 Cc:∃ t,mg "MOST_RANK"=some (.int 8 t)
 SD:mg "BadSet"=some (.ref a.dD)
 PF:mg "BadPoint"=some (.ref a.D9)
 Qz:mg "NotRing"=some (.ref a.oM)
 QA:mg "NoChord"=some (.ref a.sC)
 SE:mg "NoBase"=some (.ref a.vY)
 QB:mg "TooMany"=some (.ref a.k9)
 KS:∀ h:Heap,K.In h->h.Ns mainGlobals mg->PyProof.Rows.OwnCls "BadSet" a.dD [.type "ValueError",.type "Exception",.type "BaseException",.type "object"] "ValueError.__new__" mg h
 Hu:∀ h:Heap,K.In h->h.Ns mainGlobals mg->PyProof.Rows.OwnCls "NotRing" a.oM [.type "ValueError",.type "Exception",.type "BaseException",.type "object"] "ValueError.__new__" mg h
 Hv:∀ h:Heap,K.In h->h.Ns mainGlobals mg->PyProof.Rows.OwnCls "NoChord" a.sC [.type "ValueError",.type "Exception",.type "BaseException",.type "object"] "ValueError.__new__" mg h
 KU:∀ h:Heap,K.In h->h.Ns mainGlobals mg->PyProof.Rows.OwnCls "NoBase" a.vY [.type "ValueError",.type "Exception",.type "BaseException",.type "object"] "ValueError.__new__" mg h
 Hw:∀ h:Heap,K.In h->h.Ns mainGlobals mg->PyProof.Rows.OwnCls "TooMany" a.k9 [.type "ValueError",.type "Exception",.type "BaseException",.type "object"] "ValueError.__new__" mg h
section
variable {P:Program}{w:World}{K:bW}{mg:oQ}{base:Heap}{a:VO}{x:Str}{st:Stmt}{f c0 p0:Addr}{fd:FuncData}{ps:List Str}
abbrev Ok(_:Txt P w base K mg a)(_:Dn K mg x st f fd ps)(k:Nat)(sp:Sp):=m5 P w K mg base EJ k f fd ps sp
abbrev Ea(_:Txt P w base K mg a)(_:Dn K mg x st f fd ps)(k:Nat)(sp:Sp):=m5 P w K mg base (IQ P w) k f fd ps sp
abbrev Xr(_:Txt P w base K mg a)(_:NO K mg x st f fd ps c0 p0)(k:Nat)(sp:Sp):=m5 P w K mg base EJ k f fd ps sp
end
def Eb:Sp:=fun vs H Q _=>∃(S:Int) (k:Nat),vs=[.int S,.int (k:Int)]/\Q (.bl (bit S k)) H
def Ec:Sp:=fun vs H Q _=>∃ m:Nat,vs=[.int (m:Int)]/\Builtin.Int.intBits (m:Int)<=1000/\∀ D H',H D=none->aq H H'->H' D=some (.lst (ay (bu (m:Int))))->Q (.ref D) H'
def Cd:Sp:=fun vs H Q _=>∃ w p ts,vs=[.ref w]/\aY H w p ts/\Mg p ts/\Q (.int (2^ts.length-1)) H
def Hx:Sp:=fun vs H Q _=>∃ w p ts S,vs=[.ref w,.int S]/\aY H w p ts/\Mg p ts/\Q (.bl (decide (0<=S/\S<2^ts.length))) H
def nN(ts:List c6)(S:Int)(bad:Prop)(R:Nat->Prop):Prop:=(∃ m:Nat,S=(m:Int)/\m<2^ts.length/\R m)\/((S<0\/2^ts.length<=S)/\bad)
def z9(C:Addr):Sp:=fun vs H Q E=>∃ w p ts S,vs=[.ref w,.int S]/\aY H w p ts/\Mg p ts/\nN ts S (E (.ref C) none H) fun _=>Q .fD H
def xw(C:Addr):Sp:=fun vs H Q E=>∃ w p ts S,vs=[.ref w,.int S]/\aY H w p ts/\Mg p ts/\nN ts S (E (.ref C) none H) fun m =>
 ∀ D ys H',H D=none->aq H H'->H' D=some (.lst ys)->Paired (TupAt H') ys ((bu (m:Int)).map (bU ts))->Q (.ref D) H'
def xx(C:Addr):Sp:=fun vs H Q E=>∃ w p ts S,vs=[.ref w,.int S]/\aY H w p ts/\Mg p ts/\nN ts S (∀ H',aq H H'->E (.ref C) none H') fun m =>
 ∀ D H',aq H H'->H' D=some (.lst (ay (uO p ts (m:Int))))->Q (.ref D) H'
def Ed(C:Addr):Sp:=fun vs H Q E=>∃ w p ts S,vs=[.ref w,.int S]/\aY H w p ts/\Mg p ts/\nN ts S (∀ H',aq H H'->E (.ref C) none H') fun m=>∀ H',aq H H'->Q (.bl (decide (uO p ts (m:Int)=[]))) H'
section
variable {P:Program}{w:World}{K:bW}{mg:oQ}{base:Heap}{a:VO}(T:Txt P w base K mg a)
theorem bF:Ok T T.gz 1 Eb:=by
 refine T.gz.ok DG fun _ A _ s H vs Q E hr h=>?_
 ·obtain⟨S,k,rfl,q⟩:=h;refine⟨_,(av (aH (dP dI (aK Ip (aK yK (pv 0) (pv 1)) aj) aj (aO _)))),?_⟩;refine(au rfl (au rfl (cy ⟨(by lia),cy ⟨rfl,?_⟩⟩)))
  rw[Int.toNat_natCast,OM];exact q
theorem bj:Ok T T.ff 2 Ec:=by
 have bF:=bF T;refine T.ff.ok DH fun _ A _ s H vs Q E hr h=>?_
 ·obtain⟨m,rfl,hm,k⟩:=h;refine⟨_,(av (aH (bz (own:=["tie"]) (fq:=["tie_set"]) (js:=[0]) (aE (ai oB) ["tie_set"]) rfl (bL (by rfl) T.cj (aa (ID PySem.F.plainAttrs_int PyProof.Rows.slot_int_bit_length PyProof.Rows.type_int_bit_length EM (pv 0)) af)) (fun _ _ _ _=>(bf 0 (jS ["tie","tie_set"]))) (fun _ _ _ _=>(eN (c9 (aF bF hr T.gz.c aJ (aa (pv 1) (aa (pv 0) af)))))) (fun _ _ _ _=>(pv 0))))),?_⟩
  refine(au rfl ⟨rfl,au rfl ⟨rfl,au rfl ⟨(by lia),(by lia),fun D hD=>ck (lo:=0) (m:=Builtin.Int.intBits (m:Int)) (oN (bit (m:Int)) H D) (.start hD) (fun i acc H2 _ p=>p.len) (dl (Nat.ble_eq.mpr hm)) ?_ ?_⟩⟩⟩)
  ·intro i acc H2 hi p;rw[Int.zero_add];refine⟨rfl,au rfl (au rfl ⟨(m:Int),i,rfl,au rfl (?_)⟩)⟩;cases hb:bit (m:Int) i with
   | true=>exact(au rfl (p.yes hD (aq.refl _) hb))
   | false=>exact p.no (aq.refl _) hb
  ·intro acc H2 p;exact k D H2 hD p.1 (by rw[p.2.1,p.2.2];rfl)
theorem dR:Ok T T.jO 1 Cd:=by
 refine T.jO.ok BF fun _ A _ s H vs Q E hr h=>?_
 ·obtain⟨wb,p,ts,rfl,hw,W,q⟩:=h;refine⟨_,(av (aH (aK qS (aK kD aj (cH K T.dM (aa (aI (cz K) (pv 0) aj) af))) aj))),?_⟩;obtain⟨b,xs,h1,h2,h3⟩:=hw.ex;have hl:=h3.length;have wl:=W.len;refine(au rfl (cC (aV.of h1) (ak (j:=1) rfl) (pX rfl (.inr (aV.of h2)) (cy ⟨⟨by lia,by lia,by decide⟩,cy (?_)⟩))))
  rw[Int.toNat_natCast,hl,Int.one_mul];exact q
theorem lq:Ok T T.qK 2 Hx:=by
 have dR:=dR T;refine T.qK.ok GP fun _ A _ s H vs Q E hr h=>?_
 ·obtain⟨wb,p,ts,S,rfl,hw,W,q⟩:=h;refine⟨_,(av (aH (CF (dP Ir (pv 1) aj (aO _)) (CD (dP EF (pv 1) (aF dR hr T.jO.c aJ (aa (pv 0) af)) (aO _)))))),?_⟩;refine(au rfl (cy (au rfl (lE (fun hlt=>?_) (fun hlt=>?_)))))
  ·have hlt:0<=S:=i8 hlt;refine(au rfl (au rfl ⟨wb,p,ts,rfl,hw,W,_,_,rfl,rfl,?_⟩));have e:decide (S<=2^ts.length-1)=decide (0<=S/\S<2^ts.length):=decide_eq_decide.mpr ⟨fun z=>⟨hlt,by lia⟩,fun z=>by lia⟩
   rw[<-e]at q;exact q
  ·have hlt : ¬ 0<=S:=fun z=>hlt (cD z)
   rw[c7 (fun z=>hlt z.1)]at q
   exact q
theorem c5:Ea T T.iP 3 (z9 a.dD):=by
 have lq:=lq T;refine T.iP.AE zw fun _ A _ s H vs Q E hr h=>?_
 ·obtain⟨wb,p,ts,S,rfl,hw,W,q⟩:=h;refine⟨_,(av (b7 (o8 (c9 (aF lq hr T.qK.c aJ (aa (pv 0) (aa (pv 1) af))))) (av (m9 dm.RJ rfl (by rfl) T.KS PySem.F.excBase_ValueError (aa fF af))) aW)),?_⟩
  refine lO ?_;intro cg;refine(au rfl (au rfl ⟨wb,p,ts,S,rfl,hw,W,?_⟩));have h2:((2:Int)^ts.length)=((2^ts.length:Nat):Int):=by simp
  rcases q with⟨m,rfl,hm,q⟩|⟨hS,q⟩
  ·rw[cD ⟨by lia,by lia⟩]
   exact(au rfl (cE q))
  ·rw[c7 (by lia)]
   exact(au rfl (eF ⟨dl rfl,q⟩))
theorem cJ:Ea T T.gX 4 (xw a.dD):=by
 have c5:=c5 T;have bj:=bj T;refine T.gX.AE wR fun _ A _ s H vs Q E hr h=>?_
 ·obtain⟨wb,p,ts,S,rfl,hw,W,q⟩:=h;refine⟨_,(ah (cR (aF c5 hr T.iP.c dm.passes (aa (pv 0) (aa (pv 1) af))))
   (av (aH (bz (own:=["tie"]) (fq:=["web"]) (js:=[0]) (aE (ai ja) ["web","tie_set"]) rfl (m8 K (aF bj hr T.ff.c aJ (aa (pv 1) af))) (fun _ _ _ _=>(bf 0 (jS ["tie","web"]))) (fun _ _ _ _=>bQ) (fun _ _ _ _=>(aI (cz K) (aI (cz K) (pv 1) aj) (pv 0))))))),?_⟩
  refine fN ?_;intro cg;refine(au rfl (au rfl ⟨wb,p,ts,S,rfl,hw,W,?_⟩));rcases q with⟨m,rfl,hm,q⟩|⟨hS,q⟩
  ·refine .inl ⟨m,rfl,hm,?_⟩;have wl:=W.len;have hb:Builtin.Int.intBits (m:Int)<=ts.length:=bits_le hm;refine(au rfl ⟨m,rfl,by lia,fun L H1 _ s1 hL=>⟨L,rfl,⟨_,aM.of hL⟩,fun D hD=>?_⟩⟩)
   obtain⟨b,xs,h1,h2,h3⟩:=(hw.same s1).ex;have Aa:=h3.length;refine aZ (xs:=ay (bu (m:Int))) (fun i acc H2=>aq H1 H2/\H2 D=some (.lst acc)/\Paired (TupAt H2) acc (((bu (m:Int)).take i).map (bU ts))/\acc.length=i) ⟨aq.new hD,ae,.nil,rfl⟩ ?_ ?_ ?_ ?_
   ·rintro i acc H2 _ ⟨s2,hd,pr,hac⟩;exact⟨aM.of (s2 _ _ hL),hd,Nat.le_of_eq hac⟩
   ·rw[aB];refine dl (Nat.ble_eq.mpr (Nat.le_trans (List.length_filter_le _ _) ?_));rw[List.length_range]
    lia
   ·rintro i x acc H2 hx ⟨s2,hd,pr,hac⟩;obtain⟨k,hk,rfl⟩:=cf hx;have nZ:k<ts.length:=ue hm (iT hk);have hkx:k<xs.length:=by lia
    obtain⟨t,ht,c,hc,hct⟩:=Paired.qf h3 (i:=k) (x:=xs[k]) (by simp[hkx])
    have R0:bU ts k=t:=by
     unfold bU;rw[List.getD_eq_getElem?_getD,ht];rfl
    refine⟨rfl,au rfl (cC (aV.of (s2 _ _ h1)) (ak (j:=1) rfl) (au rfl (cC (v:=xs[k]) (aV.of (s2 _ _ h2)) (ak (j:=k) (by simp[hkx])) (?_))))⟩
    rw[hc];refine⟨hd,s2.put hD,ae,?_,by rw[List.length_append,List.length_singleton,hac]⟩
    rw[List.take_add_one,hk,List.map_append];refine Paired.snoc (Paired.imp' (fun _ _ z=>z.tups (dG.put hd)) pr) ?_
    rw[R0];exact⟨c,rfl,dG.put hd _ _ (s2 _ _ hct)⟩
   ·rintro acc H2 ⟨s2,hd,pr,hac⟩;rw[aB,List.take_length]at pr;exact q D acc H2 (s1.free hD) (s1.trans s2) hd pr
  ·exact .inr ⟨hS,q⟩
theorem mG:Ea T T.mq 5 (xx a.dD):=by
 have cJ:=cJ T;refine T.mq.AE fO fun _ A _ s H vs Q E hr h=>?_
 ·obtain⟨wb,p,ts,S,rfl,hw,W,q⟩:=h;refine⟨_,(ah (aG (i:=2) fO.nd rfl (Or.inr rfl) (aK CY (dQ (aa aj af)) (aI (cz K) (pv 0) aj)))
   (ah (ud rfl (m8 K (aF cJ hr T.gX.c dm.passes (aa (pv 0) (aa (pv 1) af)))) (HY K (n:=3) rfl (aP (bf 3 fO.nd) (aP (bf 4 fO.nd) (aP (bf 5 fO.nd) eW))))
   (ah (Ey (pv 2) (pv 3) (getL K) aj Ez set_list)
   (av (Ey (pv 2) (pv 4) (getL K) aj Ez set_list))))
   (av (aH (bz (own:=["point"]) (fq:=["ends"]) (js:=[2]) (aE (ai jc) ["web","tie_set","ends","one","other","length"]) rfl (bL (by rfl) T.cj (aa (aI (cz K) (pv 0) aj) af)) (fun _ _ _ _=>(bf 0 (jS ["point","ends"]))) (fun _ _ _ _=>(eN (aL dI (aK dO (aI (jR K) (pv 1) (pv 0)) aj) aj (aO _)))) (fun _ _ _ _=>(pv 0))))))),?_⟩
  refine oZ ?_;intro cg cS dJ fE;obtain⟨b,xs,h1,h2,h3⟩:=id hw.ex;have wp:=W.WY;refine⟨dl rfl,fun l0 EK=>?_⟩
  have s0:aq H (upd H l0 (.lst [.int 0])):=aq.new EK;refine(au rfl (cC (aV.of (s0 _ _ h1)) (ak (j:=0) rfl) ⟨l0,(p:Int),au rfl ⟨rfl,ae,by lia,by lia,(by rw[Int.toNat_natCast];show 1*p<=sizeLine;exact dl (Nat.ble_eq.mpr (by lia))),fun e he=>?_⟩⟩))
  have s1:=s0.trans (aq.new (o:=.lst (List.replicate (p:Int).toNat [V.int 0]).flatten) he);have Ud:upd (upd H l0 (.lst [.int 0])) e (.lst (List.replicate (p:Int).toNat [V.int 0]).flatten) e=some (.lst (nc (List.replicate p 0))):=by
   rw[ae,Int.toNat_natCast,Ja]
  generalize upd (upd H l0 (.lst [.int 0])) e (.lst (List.replicate (p:Int).toNat [V.int 0]).flatten)=H1 at s1 Ud;have SG:H e=none:=s0.free he;refine(au rfl (au rfl ⟨wb,p,ts,S,rfl,hw.same s1,W,?_⟩));rcases q with⟨m,rfl,hm,q⟩|⟨hS,q⟩
  ·refine .inl ⟨m,rfl,hm,fun L ys H2 VQ s2 hL pr=>⟨L,rfl,⟨_,aM.of hL⟩,?_⟩⟩
   have s12:=s1.trans s2;have heL:e≠L:=bq Ud VQ;have SH:ys.length<=24:=by
    rw[pr.length,List.length_map];have hb:Builtin.Int.intBits (m:Int)<=ts.length:=bits_le hm;have wl:=W.len;have:=List.length_filter_le (bit (m:Int)) (List.range (Builtin.Int.intBits (m:Int)));rw[List.length_range]at this;exact Nat.le_trans this (by lia)
   refine cT (K:=K) (a:=L) (xs:=ys) (fun i σ H3=>∃ v1 v2 v3,σ=[some (.ref wb),some (.int (m:Int)),some (.ref e),v1,v2,v3]/\(∀ x o,H2 x=some o->x≠e->H3 x=some o)/\H3 e=some (.lst (nc ((((bu (m:Int)).map (bU ts)).take i).foldl stepT (List.replicate p 0)))))
    ⟨none,none,none,rfl,fun _ _ z _=>z,s2 _ _ Ud⟩ (fun i σ H3 _ ⟨_,_,_,_,z,_⟩=>aM.of (z _ _ hL (Ne.symm heL))) ?_ ?_
   ·rintro i y D' σ H3 hi ⟨v1,v2,v3,rfl,z3,Hy⟩;obtain⟨t,ht,c,rfl,hc⟩:=Paired.qf pr hi;have hce:c≠e:=aS hc (s2 _ _ Ud) (by intro z;cases z)
    have hc3:=z3 _ _ hc hce;have htm:t∈ts:=by
     obtain⟨k,hk,rfl⟩:=List.mem_map.mp (iT ht);unfold bU;have nZ:=ue hm hk;rw[List.getD_eq_getElem?_getD];simp[nZ]
    obtain⟨a0,a1,b0,b1⟩:=W.WX.ends t htm;obtain⟨t1,t2,t3⟩:=t;dsimp only at a0 a1 b0 b1;obtain⟨j1,rfl⟩:=Int.eq_ofNat_of_zero_le a0;obtain⟨j2,rfl⟩:=Int.eq_ofNat_of_zero_le b0;generalize hE:(((bu (m:Int)).map (bU ts)).take i).foldl stepT (List.replicate p 0)=EE at Hy;have Xs:EE.length=p:=by rw[<-hE,qX,List.length_replicate]
    have Xu:j1<EE.length:=by lia
    have Lw:j2<(bump EE (j1:Int)).length:=by rw[kX];lia
    refine⟨c,_,rfl,aV.of hc3,rfl,_,_,rfl,_,_,rfl,_,_,rfl,rfl,?_⟩;refine(au rfl (au rfl ⟨e,_,j1,_,rfl,rfl,aM.of Hy,qY Xu,_,_,rfl,rfl,e,_,_,j1,rfl,rfl,Hy,qh (by rw[nc,List.length_map];exact Xu),?_⟩))
    rw[uQ];refine(au rfl (au rfl ⟨e,_,j2,_,rfl,rfl,aM.of ae,qY Lw,_,_,rfl,rfl,e,_,_,j2,rfl,rfl,ae,qh (by rw[nc,List.length_map];exact Lw),?_⟩))
    rw[uQ];refine⟨_,_,_,rfl,fun x o z hx=>by rw[ao hx,ao hx];exact z3 x o z hx,?_⟩
    rw[ae,List.take_add_one,ht,List.foldl_append,hE];rfl
   ·rintro σ H3 ⟨v1,v2,v3,rfl,z3,Hy⟩;have hwe:wb≠e:=bq h1 SG;have nO:aq H H3:=fun x o z=>z3 x o (s12 x o z) (bq z SG)
    have hE:H3 e=some (.lst (nc (kE p ts (m:Int)))):=by
     rw[Hy,List.take_of_length_le (by rw[<-pr.length];exact Nat.le_refl _),xV hm]
    have Xs:(kE p ts (m:Int)).length=p:=by rw[xV hm,qX,List.length_replicate]
    refine(au rfl (cC (aV.of (nO _ _ h1)) (ak (j:=0) rfl) (au rfl ⟨(by lia),(by lia),fun D hD=>ck (lo:=0) (m:=p) (oN (fun i=>decide ((kE p ts (m:Int)).getD i 0%2=1)) H3 D) (.start hD) (fun i acc H4 _ p=>p.len) (dl (Nat.ble_eq.mpr (by lia))) ?_ ?_⟩)))
    ·intro i acc H4 hi pk;rw[Int.zero_add];refine⟨rfl,au rfl (au rfl (jM (aM.of (pk.1 _ _ hE)) (ak (j:=i) (qY (by rw[Xs];exact hi))) (cy ⟨(pg rfl),rfl,au rfl (?_)⟩)))⟩
     rw[Mi];cases hb:decide ((kE p ts (m:Int)).getD i 0%2=1) with
     | true=>exact(au rfl (pk.yes hD (aq.refl _) hb))
     | false=>exact pk.no (aq.refl _) hb
    ·intro acc H4 pk;exact q D H4 (nO.trans pk.1) (by rw[pk.2.1,pk.2.2];rfl)
  ·exact .inr ⟨hS,q _ s1⟩
theorem sJ:Ea T T.sD 6 (Ed a.dD):=by
 have mG:=mG T;refine T.sD.AE DJ fun _ A _ s H vs Q E hr h=>?_
 ·obtain⟨wb,p,ts,S,rfl,hw,W,q⟩:=h;refine⟨_,(av (aH (dP (IK K hr.units) (aF mG hr T.mq.c dm.passes (aa (pv 0) (aa (pv 1) af))) (dQ af) (aO _)))),?_⟩;refine(au rfl (au rfl ⟨wb,p,ts,S,rfl,hw,W,?_⟩));rcases q with⟨m,rfl,hm,q⟩|⟨hS,q⟩
  ·refine .inl ⟨m,rfl,hm,fun D H1 s1 hD=>⟨dl rfl,fun l hl=>?_⟩⟩
   have s2:aq H1 (upd H1 l (.lst [])):=aq.new hl;refine⟨_,_,.lst (aM.of (s2 _ _ hD)) (AL _),.lst (aM.of ae) .nil,AN _,rfl,?_⟩;rw[Mh];exact q _ (s1.trans s2)
  ·exact .inr ⟨hS,q⟩
def KW:Sp:=fun vs H Q _=>∃(l:Addr) (L:Nat->Nat) (p u v:Nat),vs=[.ref l,.int (u:Int),.int (v:Int)]/\H l=some (.lst (cA L p))/\p<=10/\u<p/\v<p/\
 ∀ D H',H D=none->aq H H'->H' D=some (.lst (cA (RM.join L u v) p))->Q (.ref D) H'
def Hz(C:Addr):Sp:=fun vs H Q E=>∃ w p ts,∃ g:aC p ts,∃ S,vs=[.ref w,.int S]/\aY H w p ts/\nN ts S (∀ H',aq H H'->E (.ref C) none H') fun m =>
 ∀ D ys H',H D=none->aq H H'->H' D=some (.lst ys)->Paired (Ny D H H') ys ((eZ (bO p ts g m) p).map (pieceOf (bO p ts g m) p))->Q (.ref D) H'
def MX:Sp:=fun vs H Q _=>∃ w p ts,∃ g:aC p ts,vs=[.ref w]/\aY H w p ts/\∀ H',aq H H'->Q (.int (g.N.az.length:Int)) H'
theorem cM:Ok T T.fg 1 KW:=by
 refine T.fg.ok gP fun _ A _ s H vs Q E hr h=>?_
 ·obtain⟨l,L,p,u,v,rfl,hl,hp,hu,hv,q⟩:=h;refine⟨_,(ah (aG (i:=3) gP.nd rfl (Or.inr rfl) (cW (xO rfl) (by rfl) T.Fy PyProof.Rows.boot_min (aa (aI (jR K) (pv 0) (pv 1)) (aa (aI (jR K) (pv 0) (pv 2)) af))))
   (ah (aG (i:=4) gP.nd rfl (Or.inr rfl) (cW (qT rfl) (by rfl) T.KR PyProof.Rows.boot_max (aa (aI (jR K) (pv 0) (pv 1)) (aa (aI (jR K) (pv 0) (pv 2)) af))))
   (av (aH (bz (own:=["least"]) (fq:=["low","high"]) (js:=[3,4]) (aE (ai e7) ["leasts","one","other","low","high"]) rfl (m8 K (pv 0)) (fun _ _ _ _=>(bf 0 (jS ["least","low","high"]))) (fun _ _ _ _=>bQ) (fun _ _ _ _=>(m4 (aL dI (pv 0) (pv 2) (aO _)) (pv 1) (pv 0)))))))),?_⟩
  refine gQ ?_;intro cg cS;refine(au rfl (au rfl (jM (aM.of hl) (ak (j:=u) (bN hu)) (au rfl (au rfl (jM (aM.of hl) (ak (j:=v) (bN hv)) ⟨_,_,rfl,?_⟩))))));refine(au rfl (au rfl (jM (aM.of hl) (ak (j:=u) (bN hu)) (au rfl (au rfl (jM (aM.of hl) (ak (j:=v) (bN hv)) ⟨_,_,rfl,?_⟩))))));refine(au rfl ⟨l,rfl,⟨_,aM.of hl⟩,fun D hD=>aZ (xs:=cA L p) (uV (RM.join L u v) H D) (.start hD) (fun i acc H2 _ pd=>⟨aM.of (pd.1 _ _ hl),pd.len⟩) (by rw[bS];exact dl (Nat.ble_eq.mpr (by lia))) ?_ ?_⟩)
  ·intro i x acc H2 hx pd;obtain⟨hi,rfl⟩:=jZ hx;refine⟨rfl,au rfl (au rfl ⟨rfl,au rfl (?_)⟩)⟩;rw[EY,j6]
   by_cases hm:L i=max (L u) (L v)
   ·rw[cD hm];refine eF (au rfl (pd.next hD (aq.refl _) ?_));rw[EX];unfold RM.join;rw[if_pos hm]
   ·rw[c7 hm];refine cE (au rfl (pd.next hD (aq.refl _) ?_));unfold RM.join;rw[if_neg hm]
  ·intro acc H2 pd;rw[bS]at pd;exact q D H2 hD pd.1 (by rw[pd.2.1,pd.2.2])
theorem ly:Ea T T.qL 5 (Hz a.dD):=by
 have cJ:=cJ T;have cM:=cM T;refine T.qL.AE gy fun _ A _ s H vs Q E hr h=>?_
 ·obtain⟨wb,p,ts,g,S,rfl,hw,q⟩:=h;refine⟨_,(ah (aG (i:=2) gy.nd rfl (Or.inr rfl) (cL (Nv rfl) (by rfl) T.KQ PyProof.Rows.boot_list (aa (cL AG (by rfl) T.cj PyProof.Rows.boot_range (aa (aI (cz K) (pv 0) aj) af)) af)))
   (ah (ud rfl (m8 K (aF cJ hr T.gX.c dm.passes (aa (pv 0) (aa (pv 1) af)))) (HY K (n:=3) rfl (aP (bf 3 gy.nd) (aP (bf 4 gy.nd) (aP (bf 5 gy.nd) eW))))
   (av (aG (i:=2) gy.nd rfl (Or.inr rfl) (aF cM hr T.fg.c aJ (aa (pv 2) (aa (pv 3) (aa (pv 4) af)))))))
   (ah (aG (i:=6) gy.nd rfl (Or.inl rfl) (dQ af))
   (ah (ud rfl (bL (by rfl) T.cj (aa (aI (cz K) (pv 0) aj) af)) (uc (i:=7) gy.nd rfl (Or.inr rfl))
   (av (b7 (aL dI (aI (jR K) (pv 2) (pv 7)) (pv 7) (aO _)) (av (cR (Kv K (m7 PySem.F.plainAttrs_list PySem.F.slot_list_append PySem.F.type_list_append dc (pv 6) (aa (bz (own:=["point"]) (fq:=["leasts","start"]) (js:=[2,7]) (aE (ai qC) ["web","tie_set","leasts","one","other","length","found","start"]) rfl (bL (by rfl) T.cj (aa (aI (cz K) (pv 0) aj) af)) (fun _ _ _ _=>(bf 0 (jS ["point","leasts","start"]))) (fun _ _ _ _=>(eN (aL dI (aI (jR K) (pv 1) (pv 0)) (pv 2) (aO _)))) (fun _ _ _ _=>(pv 0))) af))))) aW)))
   (av (aH (pv 6))))))),?_⟩
  refine GQ ?_;intro cg cS dJ fE gO o4 yD;obtain⟨b,xs,h1,h2,h3⟩:=id hw.ex;have W:=g.F5;have wp:=W.WY;have wl:=W.len;refine(au rfl (cC (aV.of h1) (ak (j:=0) rfl) (au rfl (fun r hr=>⟨r,p,rfl,ae,by lia,fun l hl=>?_⟩))))
  have s1:aq H (upd (upd H r (.FH 0 (p:Int))) l (.lst (wM p))):=(aq.new hr).trans (aq.new hl);have hl1:upd (upd H r (.FH 0 (p:Int))) l (.lst (wM p)) l=some (.lst (cA (fun x=>x) p)):=ae
  generalize upd (upd H r (.FH 0 (p:Int))) l (.lst (wM p))=H1 at s1 hl1;refine(au rfl (au rfl ⟨wb,p,ts,S,rfl,hw.same s1,W,?_⟩));rcases q with⟨m,rfl,hm,q⟩|⟨hS,q⟩
  ·refine .inl ⟨m,rfl,hm,fun T0 ys H2 WV s2 hT pr=>⟨T0,rfl,⟨_,aM.of hT⟩,?_⟩⟩
   have SH:ys.length<=24:=by
    rw[pr.length,List.length_map];have hb:Builtin.Int.intBits (m:Int)<=ts.length:=bits_le hm;have:=List.length_filter_le (bit (m:Int)) (List.range (Builtin.Int.intBits (m:Int)));rw[List.length_range]at this;exact Nat.le_trans this (by lia)
   refine cT (K:=K) (a:=T0) (xs:=ys) (fun i σ H3=>∃ la v3 v4 v5,σ=[some (.ref wb),some (.int (m:Int)),some (.ref la),v3,v4,v5,none,none]/\aq H2 H3/\H3 la=some (.lst (cA (sX p ts g ((bu (m:Int)).take i)) p)))
    ⟨l,none,none,none,rfl,aq.refl _,s2 _ _ hl1⟩ (fun i σ H3 _ ⟨_,_,_,_,_,z,_⟩=>aM.of (z _ _ hT)) ?_ ?_
   ·rintro i y D' σ H3 hi ⟨la,v3,v4,v5,rfl,s3,hla⟩;obtain⟨t,ht,c,rfl,hc⟩:=Paired.qf pr hi;have hc3:=s3 _ _ hc;rw[List.getElem?_map]at ht;obtain⟨k,hk,hkt⟩:=wH.mp ht;have nZ:=ue hm (iT hk);have ea:=EU (g:=g) nZ;have eb:=EV (g:=g) nZ;rw[hkt]at ea eb;have la':=g.N.al k nZ;have lb':=g.N.bl k nZ;refine⟨c,_,rfl,aV.of hc3,rfl,_,_,rfl,_,_,rfl,_,_,rfl,rfl,?_⟩;refine(au rfl (au rfl (au rfl ⟨la,sX p ts g ((bu (m:Int)).take i),p,g.N.a k,g.N.b k,?_,hla,wp,la',lb',fun D H4 MY s4 hD=>?_⟩)))
    ·rw[<-ea,<-eb];rfl
    ·refine⟨D,_,_,_,rfl,s3.trans s4,?_⟩;rw[hD,List.take_add_one,hk];show _=some (HO.lst (cA (sX p ts g ((bu (m:Int)).take i++[k])) p));rw[C3]
   ·rintro σ H3 ⟨la,v3,v4,v5,rfl,s3,hla⟩;have hys:ys.length=(bu (m:Int)).length:=by rw[pr.length,List.length_map]
    rw[hys,List.take_length,C4 hm]at hla;have nO:aq H H3:=(s1.trans s2).trans s3;refine⟨dl rfl,fun D hD=>?_⟩
    have t0:uX (bO p ts g m) p H3 D 0 (upd H3 D (.lst [])):=uX.start hD;generalize upd H3 D (.lst [])=H4 at t0;refine(au rfl (cC (aV.of (t0.1 _ _ (nO _ _ h1))) (ak (j:=0) rfl) (au rfl ⟨(by lia),(by lia),?_⟩)))
    refine ig (lo:=0) (n:=(p:Int).toNat) (fun i σ H5=>∃ v7,σ=[some (.ref wb),some (.int (m:Int)),some (.ref la),v3,v4,v5,some (.ref D),v7]/\uX (bO p ts g m) p H3 D i H5) ⟨none,rfl,t0⟩ ?_ ?_
    ·rintro i D' σ H5 hi ⟨v7,rfl,t5⟩;rw[Int.toNat_natCast]at hi;rw[Int.zero_add];have SJ:=t5.1 _ _ hla;refine(au rfl (au rfl (jM (aM.of SJ) (ak (j:=i) (bN hi)) (au rfl ⟨rfl,au rfl (?_)⟩))));rw[j6]
     by_cases hr:bO p ts g m i=i
     ·rw[cD hr];obtain⟨ys0,LA⟩:∃ ys,H5 D=some (.lst ys):=let⟨_,ys,z,_⟩:=t5;⟨ys,z⟩;refine eF (au rfl ⟨.inl ⟨rfl,_,aM.of LA⟩,au rfl (cC (aV.of (t5.1 _ _ (nO _ _ h1))) (ak (j:=0) rfl) (au rfl ⟨(by lia),(by lia),fun B hB=>ck (lo:=0) (m:=(p:Int).toNat) (oN (fun x=>decide (bO p ts g m x=i)) H5 B) (.start hB) (fun i acc H6 _ pk=>pk.len) (dl (Nat.ble_eq.mpr (by lia))) ?_ ?_⟩))⟩)
      ·intro x acc H6 hx pk;rw[Int.toNat_natCast]at hx;rw[Int.zero_add];refine⟨rfl,au rfl (au rfl (jM (aM.of (pk.1 _ _ SJ)) (ak (j:=x) (bN hx)) (au rfl ⟨rfl,au rfl (?_)⟩)))⟩;rw[j6];cases hb:decide (bO p ts g m x=i) with
       | true=>exact(au rfl (pk.yes hB (aq.refl _) hb))
       | false=>exact pk.no (aq.refl _) hb
      ·intro acc H6 pk;have hB6:H6 B=some (.lst (ay (pieceOf (bO p ts g m) p i))):=by rw[pk.2.1,pk.2.2,Int.toNat_natCast];rfl
       obtain⟨ys1,VR,hl1,t7⟩:=t5.push hD hr pk.1 hB hB6;exact⟨D,ys1,_,rfl,rfl,VR,dw (by lia),au rfl (t7)⟩
     ·rw[c7 hr];exact cE (au rfl (t5.skip hr))
    ·rintro σ H5 ⟨v7,rfl,t5⟩;rw[Int.toNat_natCast]at t5;obtain⟨s5,ys5,LA,pr5,hl5⟩:=t5;exact(au rfl (q D ys5 H5 (nO.free hD) (nO.trans s5) LA (Paired.imp' (fun _ _ ⟨e,he,hn,h0,z⟩=>⟨e,he,hn,nO.free h0,z⟩) pr5)))
  ·exact .inr ⟨hS,q _ s1⟩
theorem sL:Ok T T.z8 6 MX:=by
 have ly:=ly T;have dR:=dR T;refine T.z8.ok MU fun _ A _ s H vs Q E hr h=>?_
 ·obtain⟨wb,p,ts,g,rfl,hw,q⟩:=h;refine⟨_,(av (aH (aK fG (aK qS (cH K T.dM (aa (aI (cz K) (pv 0) aj) af)) (aI (cz K) (pv 0) aj)) (cH K T.dM (aa (aF ly hr T.qL.c jV (aa (pv 0) (aa (aF dR hr T.jO.c aJ (aa (pv 0) af)) af))) af))))),?_⟩;obtain⟨b,xs,h1,h2,h3⟩:=id hw.ex;have Aa:=h3.length;have e2:((2:Int)^ts.length-1)=((2^ts.length-1:Nat):Int):=by
   have h:((2:Int)^ts.length)=((2^ts.length:Nat):Int):=by simp
   have:=Nat.two_pow_pos ts.length
   lia
  have hlt:2^ts.length-1<2^ts.length:=by have:=Nat.two_pow_pos ts.length;lia
  refine(au rfl (cC (aV.of h1) (ak (j:=1) rfl) (pX rfl (.inr (aV.of h2)) (au rfl (cC (aV.of h1) (ak (j:=0) rfl) (cy (?_)))))));refine(au rfl (au rfl ⟨wb,p,ts,rfl,hw,g.F5,wb,p,ts,g,_,rfl,hw,.inl ⟨2^ts.length-1,e2,hlt,fun D ys H' MY s' hD pr=>(pX rfl (.inl (aM.of hD)) (cy (?_)))⟩⟩))
  have hv:=Mm (g:=g);have hy:ys.length=(eZ (bO p ts g (2^ts.length-1)) p).length:=by rw[pr.length,List.length_map]
  show Q (.int ((xs.length:Int)-(p:Int)+(ys.length:Int))) H';rw[Aa,hy,hv];exact q H' s'
def Ef(C:Addr):Sp:=fun vs H Q E=>∃ w p ts,∃ g:aC p ts,∃ S,vs=[.ref w,.int S]/\aY H w p ts/\nN ts S (∀ H',aq H H'->E (.ref C) none H') fun m=>∀ H',aq H H'->Q (.bl (kZ p ts g m)) H'
theorem fj:Ea T T.lg 7 (Ef a.dD):=by
 have sJ:=sJ T;have ly:=ly T;have bj:=bj T;refine T.lg.AE vS fun _ A _ s H vs Q E hr h=>?_
 ·obtain⟨wb,p,ts,g,S,rfl,hw,q⟩:=h;refine⟨_,(ah (b7 (o8 (c9 (aF sJ hr T.sD.c dm.passes (aa (pv 0) (aa (pv 1) af))))) (av (aH mS)) aW)
   (ah (iF (i:=2) vS.nd rfl rfl (own:=["piece"]) (fq:=[]) (js:=[]) (aE (ai oG) ["web","tie_set","touched"]) rfl (m8 K (aF ly hr T.qL.c dm.passes (aa (pv 0) (aa (pv 1) af)))) (fun _ _ _ _=>(bf 0 (jS ["piece"]))) (fun _ _ _ _=>(eN (aL uG (cH K T.dM (aa (pv 0) af)) aj (aO _)))) (fun _ _ _ _=>(pv 0)))
   (av (aH (CF (dP dI (cH K T.dM (aa (pv 2) af)) aj (aO _)) (CD (dP dI (cH K T.dM (aa (aI (jR K) (pv 2) aj) af)) (cH K T.dM (aa (aF bj hr T.ff.c aJ (aa (pv 1) af)) af)) (aO _)))))))),?_⟩
  refine DK ?_;intro cg cS dJ;have W:=g.F5;have wp:=g.p2;have wl:=g.len;refine(au rfl (au rfl ⟨wb,p,ts,S,rfl,hw,W,?_⟩));rcases q with⟨m,rfl,hm,q⟩|⟨hS,q⟩
  ·refine .inl ⟨m,rfl,hm,fun H1 s1=>(au rfl (?_))⟩
   by_cases ev:uO p ts (m:Int)=[]
   ·rw[cD ev];rw[C9 ev]at q;refine cE (au rfl (au rfl ⟨wb,p,ts,g,_,rfl,hw.same s1,.inl ⟨m,rfl,hm,fun D ys H2 MY s2 hD pr=>⟨D,rfl,⟨_,aM.of hD⟩,fun C hC=>?_⟩⟩⟩))
    have SH:ys.length<=10:=by
     rw[pr.length,List.length_map];unfold eZ;have:=List.length_filter_le (fun x=>decide (bO p ts g m x=x)) (List.range p)
     rw[List.length_range]at this;exact Nat.le_trans this wp
    refine aZ (xs:=ys) (vd (fun l=>decide (1<l.length)) ((eZ (bO p ts g m) p).map (pieceOf (bO p ts g m) p)) H2 C) (.start hC) (fun i acc H3 _ sf=>⟨aM.of (sf.1 _ _ hD),sf.len⟩) (c8 (by lia)) ?_ ?_
    ·intro i x acc H3 hx sf;obtain⟨l,hl,b,rfl,hbn,hb0,hb⟩:=Paired.qf pr hx;refine⟨rfl,au rfl (pX rfl (.inl (aM.of (sf.1 _ _ hb))) (cy (au rfl (?_))))⟩;cases KY:decide (1<l.length) with
     | true =>
       have e:decide ((1:Int)<((ay l).length:Int))=true:=cD (by have:=i8 KY;rw[aB];lia)
       show if decide ((1:Int)<((ay l).length:Int))=true then _ else _
       rw[e];exact eF (au rfl (sf.yes hC hl KY ⟨b,rfl,hb⟩))
     | false =>
       have e:decide ((1:Int)<((ay l).length:Int))=false:=c7 (by have:=of_decide_eq_false KY;rw[aB];lia)
       show if decide ((1:Int)<((ay l).length:Int))=true then _ else _
       rw[e];exact cE (sf.no hl KY)
    ·intro acc H3 sf;have pa:Paired (OU H2) acc ((dY (bO p ts g m) p).map (pieceOf (bO p ts g m) p)):=by
      have h:=sf.2.2;rw[pr.length,List.take_length,List.filter_map]at h;exact h
     have hal:=pa.length;rw[List.length_map]at hal;refine(au rfl (pX rfl (.inl (aM.of sf.2.1)) ⟨rfl,au rfl (?_)⟩));have nO:=(s1.trans s2).trans sf.1;have aay:Builtin.Int.intBits (m:Int)<=ts.length:=bits_le hm;generalize dY (bO p ts g m) p=tl at q pa hal;cases tl with
     | nil =>
       have hal:acc.length=0:=hal;rw[hal];exact cE (q H3 nO)
     | cons s r =>
       cases r with
       | nil =>
         cases pa with
         | cons hy pn =>
           cases pn;obtain⟨b,rfl,hb⟩:=hy;refine eF (au rfl (jM (aM.of sf.2.1) (ak (j:=0) rfl) (pX rfl (.inl (aM.of (sf.1 _ _ hb))) (au rfl ⟨m,rfl,by lia,fun D4 H4 hn4 s4 sM=>(pX rfl (.inl (aM.of sM)) ⟨rfl,?_⟩)⟩))))
           rw[aB,aB,j6];exact q H4 (nO.trans s4)
       | cons t r =>
         have hal:acc.length=r.length+2:=hal;have e:decide (V.int ((acc.length:Nat):Int)=V.int 1)=false:=c7 fun z=>by
          have:=V.int.inj z
          lia
         rw[e];exact cE (q H3 nO)
   ·rw[c7 ev];have er:kZ p ts g m=false:=by
     unfold kZ;rw[c7 ev,Bool.false_and]
    rw[er]at q;exact eF (q H1 s1)
  ·exact .inr ⟨hS,q⟩
def qM:Sp:=fun vs H Q _=>∃ w p ts,∃ g:aC p ts,∃ S:Int,vs=[.ref w,.int S]/\aY H w p ts/\∀ H' (d:Bool),aq H H'->(d=true↔∃ m:Nat,S=(m:Int)/\m<2^ts.length/\g.N.Ring m)->Q (.bl d) H'
theorem iC:Ok T T.iy 8 qM:=by
 have lq:=lq T;have fj:=fj T;refine T.iy.ok qD fun _ A _ s H vs Q E hr h=>?_
 ·obtain⟨wb,p,ts,g,S,rfl,hw,q⟩:=h;refine⟨_,(av (aH (CF (aF lq hr T.qK.c aJ (aa (pv 0) (aa (pv 1) af))) (CD (aF fj hr T.lg.c jV (aa (pv 0) (aa (pv 1) af))))))),?_⟩;have h2n:((2:Int)^ts.length)=((2^ts.length:Nat):Int):=by simp
  refine(au rfl (au rfl ⟨wb,p,ts,S,rfl,hw,g.F5,_,rfl,?_⟩))
  by_cases hs:0<=S/\S<2^ts.length
  ·rw[cD hs];obtain⟨m,rfl⟩:=Int.eq_ofNat_of_zero_le hs.1;have hm:m<2^ts.length:=by lia
   refine eF (au rfl (au rfl ⟨wb,p,ts,g,_,rfl,hw,.inl ⟨m,rfl,hm,fun H1 s1=>q H1 _ s1 ?_⟩⟩))
   rw[k6 g hm];exact⟨fun r=>⟨m,rfl,hm,r⟩,fun⟨m',e,_,r⟩=>by
    have:m=m':=by lia
    rw[this];exact r⟩
  ·rw[c7 hs];refine cE (q H false (aq.refl _) ⟨fun z=>(Bool.false_ne_true z).elim,fun⟨m',e,hm,_⟩=>absurd ⟨by lia,by lia⟩ hs⟩)
def HA:Sp:=fun vs H Q _=>∃ w p ts,∃ g:aC p ts,vs=[.ref w]/\aY H w p ts/\∀ D H',H D=none->aq H H'->H' D=some (.lst (cA (g.N.trail ts.length) p))->Q (.ref D) H'
def HB:Sp:=fun vs H Q _=>∃ w p ts,∃ g:aC p ts,vs=[.ref w]/\aY H w p ts/\∀ H',aq H H'->Q (.int ((j7 p ts g:Nat):Int)) H'
def HC:Sp:=fun vs H Q _=>∃ w p ts,∃ g:aC p ts,vs=[.ref w]/\aY H w p ts/\∀ D H',H D=none->aq H H'->H' D=some (.lst (ay g.N.az))->Q (.ref D) H'
def wj:Sp:=fun vs H Q _=>∃ w p ts,∃ g:aC p ts,∃(D:Addr) (c:Nat),vs=[.ref w,.ref D,.int (c:Int)]/\aY H w p ts/\H D=some (.lst (cA (g.N.trail ts.length) p))/\c<ts.length/\Q (.int ((g.N.ring c:Nat):Int)) H
theorem Eg{H:Hp}{xs:List V}{p:Nat}{ts:List c6}{g:aC p ts}{k:Nat}(h3:Paired (TupAt H) xs ts)(hk:k<ts.length):∃ c,xs[k]?=some (.ref c)/\H c=some (.tup [.int ((g.N.a k:Nat):Int),.int ((g.N.b k:Nat):Int),.int (bU ts k).2.2]):=by
 have hkx:k<xs.length:=by rw[h3.length];exact hk
 obtain⟨t,ht,c,hc,hct⟩:=Paired.qf h3 (i:=k) (x:=xs[k]) (by simp[hkx])
 have R0:t=bU ts k:=by
  have z:=qZ hk;rw[ht]at z;exact Option.some.inj z
 refine⟨c,by rw[<-hc];simp[hkx],?_⟩
 rw[hct,<-EU hk,<-EV hk,R0];rfl
theorem bI:Ok T T.dX 2 HA:=by
 have cM:=cM T;refine T.dX.ok bg fun _ A _ s H vs Q E hr h=>?_
 ·obtain⟨wb,p,ts,g,rfl,hw,q⟩:=h;refine⟨_,(ah (aG (i:=1) bg.nd rfl (Or.inl rfl) (cL (Nv rfl) (by rfl) T.KQ PyProof.Rows.boot_list (aa (cL AG (by rfl) T.cj PyProof.Rows.boot_range (aa (aI (cz K) (pv 0) aj) af)) af)))
   (ah (aG (i:=2) bg.nd rfl (Or.inl rfl) (aK CY (dQ (aa aj af)) (aI (cz K) (pv 0) aj)))
   (ah (eE PassesOwn.never rfl (bL (by rfl) T.cj (aa (cH K T.dM (aa (aI (cz K) (pv 0) aj) af)) af)) (bf 3 bg.nd)
   (ah (aG (i:=4) bg.nd rfl (Or.inl rfl) (aI (cz K) (aI (cz K) (aI (cz K) (pv 0) aj) (pv 3)) aj))
   (ah (aG (i:=5) bg.nd rfl (Or.inl rfl) (aI (cz K) (aI (cz K) (aI (cz K) (pv 0) aj) (pv 3)) aj))
   (av (b7 (aL uF (aI (jR K) (pv 1) (pv 4)) (aI (jR K) (pv 1) (pv 5)) (aO _)) (ah (aG (i:=6) bg.nd rfl (Or.inr rfl) (aK gi (aK gi (aI (jR K) (pv 2) (pv 4)) (aI (jR K) (pv 2) (pv 5))) (aK kD aj (pv 3))))
   (ah (aG (i:=7) bg.nd rfl (Or.inr rfl) (cW (qT rfl) (by rfl) T.KR PyProof.Rows.boot_max (aa (aI (jR K) (pv 1) (pv 4)) (aa (aI (jR K) (pv 1) (pv 5)) af))))
   (ah (iF (i:=2) bg.nd rfl rfl (own:=["trail","least"]) (fq:=["bridge","moved"]) (js:=[6,7]) (aE (ai fU) ["web","leasts","trails","tie","one","other","bridge","moved"]) rfl (IV K (by rfl) T.NT (aa (pv 2) (aa (pv 1) af))) (fun _ _ _ _=>(HY K (n:=2) rfl (aP (bf 0 (jS ["trail","least","bridge","moved"])) (aP (bf 1 (jS ["trail","least","bridge","moved"])) eW)))) (fun _ _ _ _=>bQ) (fun _ _ _ _=>(m4 (aL dI (pv 1) (pv 3) (aO _)) (aK gi (pv 0) (pv 2)) (pv 0))))
   (av (aG (i:=1) bg.nd rfl (Or.inl rfl) (aF cM hr T.fg.c aJ (aa (pv 1) (aa (pv 4) (aa (pv 5) af))))))))) aW)))))
   (av (aH (pv 2)))))),?_⟩
  refine rO ?_;intro cg cS dJ fE gO o4 yD Fp Fq Ft;obtain⟨bt,xs,h1,h2,h3⟩:=id hw.ex;have wp:=g.p2;have wl:=g.len;have Aa:=h3.length;refine(au rfl (cC (aV.of h1) (ak (j:=0) rfl) (au rfl (fun r hr=>⟨r,p,rfl,ae,by lia,fun l hl=>?_⟩))))
  have s1:aq H (upd (upd H r (.FH 0 (p:Int))) l (.lst (wM p))):=(aq.new hr).trans (aq.new hl);have hl1:upd (upd H r (.FH 0 (p:Int))) l (.lst (wM p)) l=some (.lst (cA (g.N.eO 0) p)):=ae;generalize upd (upd H r (.FH 0 (p:Int))) l (.lst (wM p))=H1 at s1 hl1;refine⟨dl rfl,fun l0 EK=>?_⟩
  have s0:aq H1 (upd H1 l0 (.lst [.int 0])):=aq.new EK;refine(au rfl (cC (aV.of (s0 _ _ (s1 _ _ h1))) (ak (j:=0) rfl) ⟨l0,(p:Int),au rfl ⟨rfl,ae,by lia,by lia,(by rw[Int.toNat_natCast];show 1*p<=sizeLine;exact dl (Nat.ble_eq.mpr (by lia))),fun e he=>?_⟩⟩))
  have s2:=s0.trans (aq.new (o:=.lst (List.replicate (p:Int).toNat [V.int 0]).flatten) he);have Me:upd (upd H1 l0 (.lst [.int 0])) e (.lst (List.replicate (p:Int).toNat [V.int 0]).flatten) e=some (.lst (cA (g.N.trail 0) p)):=by
   rw[ae,Int.toNat_natCast,AV];rfl
  generalize upd (upd H1 l0 (.lst [.int 0])) e (.lst (List.replicate (p:Int).toNat [V.int 0]).flatten)=H2 at s2 Me;refine(au rfl (cC (aV.of ((s1.trans s2) _ _ h1)) (ak (j:=1) rfl) (pX rfl (.inr (aV.of ((s1.trans s2) _ _ h2))) (au rfl ⟨(by lia),(by lia),?_⟩))))
  refine ig (lo:=0) (n:=(xs.length:Int).toNat) (fun k σ H3=>∃ la ta v3 v4 v5 v6 v7,σ=[some (.ref wb),some (.ref la),some (.ref ta),v3,v4,v5,v6,v7]/\aq H H3/\H3 la=some (.lst (cA (g.N.eO k) p))/\H3 ta=some (.lst (cA (g.N.trail k) p))/\H ta=none)
   ⟨l,e,none,none,none,none,none,rfl,s1.trans s2,s2 _ _ hl1,Me,s1.free (s0.free he)⟩ ?_ ?_
  ·rintro k D' σ H3 hk ⟨la,ta,v3,v4,v5,v6,v7,rfl,s3,hla,NU,NF⟩;rw[Int.toNat_natCast,Aa]at hk;rw[Int.zero_add];obtain⟨c,hxc,hct⟩:=Eg (g:=g) h3 hk;have hA:=g.N.al k hk;have hB:=g.N.bl k hk;have hls:=RM.AO (N:=g.N) k;have MZ:g.N.kF k = !decide (g.N.eO k (g.N.a k)=g.N.eO k (g.N.b k)):=rfl;have htr:g.N.trail (k+1)=if g.N.kF k=true then fun v=>if g.N.eO k v=max (g.N.eO k (g.N.a k)) (g.N.eO k (g.N.b k)) then g.N.trail k v^^^(g.N.trail k (g.N.a k)^^^g.N.trail k (g.N.b k)^^^2^k) else g.N.trail k v else g.N.trail k:=rfl
   generalize g.N.a k=A0 at *;generalize g.N.b k=B0 at *;refine(au rfl (cC (aV.of (s3 _ _ h1)) (ak (j:=1) rfl) (au rfl (cC (aV.of (s3 _ _ h2)) (ak (j:=k) hxc) (cC (aV.of (s3 _ _ hct)) (ak (j:=0) rfl) (?_))))));refine(au rfl (cC (aV.of (s3 _ _ h1)) (ak (j:=1) rfl) (au rfl (cC (aV.of (s3 _ _ h2)) (ak (j:=k) hxc) (cC (aV.of (s3 _ _ hct)) (ak (j:=1) rfl) (?_))))));refine(au rfl (au rfl (jM (aM.of hla) (ak (j:=A0) (bN hA)) (au rfl (au rfl (jM (aM.of hla) (ak (j:=B0) (bN hB)) ⟨rfl,au rfl (?_)⟩))))));rw[j6]
   by_cases he:g.N.eO k A0=g.N.eO k B0
   ·rw[cD he]at MZ;rw[MZ,if_neg (by decide)]at hls htr
    rw[cD he];exact cE ⟨la,ta,_,_,_,_,_,rfl,s3,by rw[hls];exact hla,by rw[htr];exact NU,NF⟩
   ·rw[c7 he]at MZ;rw[MZ,if_pos (by rfl)]at hls htr
    rw[c7 he];have hbr:Builtin.bitXor (Builtin.bitXor ((g.N.trail k A0:Nat):Int) ((g.N.trail k B0:Nat):Int)) (1*2^(k:Int).toNat)=((g.N.trail k A0^^^g.N.trail k B0^^^2^k:Nat):Int):=by
     rw[jY,xor_int,xor_int]
    refine eF (au rfl (au rfl (jM (aM.of NU) (ak (j:=A0) (bN hA)) (au rfl (au rfl (jM (aM.of NU) (ak (j:=B0) (bN hB)) (cy (au rfl (cy ⟨⟨by lia,by lia,by decide⟩,cy (?_)⟩)))))))))
    refine(au rfl (au rfl (jM (aM.of hla) (ak (j:=A0) (bN hA)) (au rfl (au rfl (jM (aM.of hla) (ak (j:=B0) (bN hB)) ⟨_,_,rfl,?_⟩))))));refine(au rfl (au rfl ⟨ta,la,rfl,⟨_,aM.of NU⟩,⟨_,aM.of hla⟩,fun D hD=>AF (xs:=cA (g.N.trail k) p) (ys:=cA (g.N.eO k) p) (by rw[bS,bS]) (uV (g.N.trail (k+1)) H3 D) (.start hD) (fun i acc H4 _ pd=>⟨aM.of (pd.1 _ _ NU),aM.of (pd.1 _ _ hla),pd.len⟩) (by rw[bS];exact dl (Nat.ble_eq.mpr (by lia))) ?_ ?_⟩))
    ·intro i x y T0 acc H4 hx hy pd hT;obtain⟨hi,rfl⟩:=jZ hx;obtain⟨_,rfl⟩:=jZ hy;refine⟨T0,_,rfl,aV.of ae,rfl,_,_,rfl,_,_,rfl,rfl,rfl,au rfl (au rfl ⟨rfl,au rfl (?_)⟩)⟩;rw[EY,j6]
     by_cases hm:g.N.eO k i=max (g.N.eO k A0) (g.N.eO k B0)
     ·rw[cD hm];refine eF (au rfl (au rfl (cy (pd.next hD (aq.new hT) ?_))));show V.int (Builtin.bitXor _ (Builtin.bitXor (Builtin.bitXor _ _) _))=_;rw[hbr,xor_int,htr];show _=V.int (((if _ then _ else _:Nat)):Int)
      rw[if_pos hm]
     ·rw[c7 hm];refine cE (au rfl (pd.next hD (aq.new hT) ?_));rw[htr];show _=V.int (((if _ then _ else _:Nat)):Int)
      rw[if_neg hm]
    ·intro acc H4 pd;rw[bS]at pd;have sM:H4 D=some (.lst (cA (g.N.trail (k+1)) p)):=by rw[pd.2.1,pd.2.2]
     refine(au rfl (au rfl (au rfl ⟨la,g.N.eO k,p,A0,B0,rfl,pd.1 _ _ hla,wp,hA,hB,fun D2 H5 hn5 s5 iV=>?_⟩)))
     exact⟨D2,D,_,_,_,_,_,rfl,(s3.trans pd.1).trans s5,by rw[hls];exact iV,s5 _ _ sM,s3.free hD⟩
  ·rintro σ H3 ⟨la,ta,v3,v4,v5,v6,v7,rfl,s3,hla,NU,NF⟩;rw[Int.toNat_natCast,Aa]at NU;exact(au rfl (q ta H3 NF s3 NU))
theorem wk:Ok T T.vZ 3 HB:=by
 have bI:=bI T;refine T.vZ.ok oF fun _ A _ s H vs Q E hr h=>?_
 ·obtain⟨wb,p,ts,g,rfl,hw,q⟩:=h;refine⟨_,(ah (aG (i:=1) oF.nd rfl (Or.inl rfl) aj)
   (ah (eE PassesOwn.never rfl (m8 K (aF bI hr T.dX.c aJ (aa (pv 0) af))) (bf 2 oF.nd)
   (av (uC (i:=1) oF.nd rfl (Or.inl rfl) (pv 2) CQ)))
   (av (aH (pv 1))))),?_⟩
  refine GR ?_;intro cg cS dJ;refine(au rfl ⟨wb,p,ts,g,rfl,hw,fun D H1 MY s1 hD=>⟨D,rfl,⟨_,aM.of hD⟩,?_⟩⟩)
  refine cT (K:=K) (a:=D) (xs:=cA (g.N.trail ts.length) p) (fun i σ H2=>∃ v2,σ=[some (.ref wb),some (.int ((Qt (g.N.trail ts.length) i:Nat):Int)),v2]/\H2=H1) ⟨none,rfl,rfl⟩ (fun i σ H2 _ ⟨_,_,z⟩=>by rw[z];exact aM.of hD) ?_ ?_
  ·rintro i x D' σ H2 hx ⟨v2,rfl,rfl⟩;obtain⟨hi,rfl⟩:=jZ hx;refine(au rfl (au rfl (cy ⟨some (.int ((g.N.trail ts.length i:Nat):Int)),?_,rfl⟩)));show[_,some (V.int (Builtin.bitOr _ _)),_]=_;rw[or_int];rfl
  ·rintro σ H2 ⟨v2,rfl,rfl⟩;rw[bS,C6];exact(au rfl (q _ s1))
theorem gY:Ok T T.nJ 4 HC:=by
 have wk:=wk T;have dR:=dR T;have bj:=bj T;refine T.nJ.ok GS fun _ A _ s H vs Q E hr h=>?_
 ·obtain⟨wb,p,ts,g,rfl,hw,q⟩:=h;refine⟨_,(av (aH (aF bj hr T.ff.c aJ (aa (aK gi (aF dR hr T.jO.c aJ (aa (pv 0) af)) (aF wk hr T.vZ.c aJ (aa (pv 0) af))) af)))),?_⟩;have wl:=g.len;refine(au rfl ⟨wb,p,ts,rfl,hw,g.F5,_,rfl,wb,p,ts,g,rfl,hw,fun H1 s1=>(cy ⟨(2^ts.length-1)^^^j7 p ts g,?_,?_,fun D H2 MY s2 hD=>?_⟩)⟩)
  ·show[V.int (Builtin.bitXor _ _)]=_;rw[Mp,xor_int]
  ·exact Nat.le_trans (bits_le yb) (by lia)
  ·rw[AW]at hD;exact q D H2 (s1.free MY) (s1.trans s2) hD
theorem kO:Ok T T.kL 1 wj:=by
 refine T.kL.ok nB fun _ A _ s H vs Q E hr h=>?_
 ·obtain⟨wb,p,ts,g,D,c,rfl,hw,hD,hc,q⟩:=h;refine⟨_,(ah (aG (i:=3) nB.nd rfl (Or.inl rfl) (aI (cz K) (aI (cz K) (pv 0) aj) (pv 2)))
   (av (aH (aK gi (aK gi (aI (jR K) (pv 1) (aI (cz K) (pv 3) aj)) (aI (jR K) (pv 1) (aI (cz K) (pv 3) aj))) (aK kD aj (pv 2)))))),?_⟩
  refine fN ?_;intro cg;obtain⟨bt,xs,h1,h2,h3⟩:=id hw.ex;have wl:=g.len;obtain⟨b,hxc,hct⟩:=Eg (g:=g) h3 hc;have hA:=g.N.al c hc;have hB:=g.N.bl c hc;refine(au rfl (cC (aV.of h1) (ak (j:=1) rfl) (au rfl (cC (aV.of h2) (ak (j:=c) hxc) (?_)))));refine(au rfl (au rfl (cC (aV.of hct) (ak (j:=0) rfl) (jM (aM.of hD) (ak (j:=g.N.a c) (bN hA)) (au rfl (au rfl (cC (aV.of hct) (ak (j:=1) rfl) (jM (aM.of hD) (ak (j:=g.N.b c) (bN hB)) (cy (au rfl (cy ⟨⟨by lia,by lia,by decide⟩,cy (?_)⟩)))))))))))
  show Q (V.int (Builtin.bitXor (Builtin.bitXor _ _) _)) H;rw[jY,xor_int,xor_int];exact q
def xy(C:Addr):Sp:=fun vs H Q E=>∃ w p ts,∃ g:aC p ts,∃ S,vs=[.ref w,.int S]/\aY H w p ts/\
 ((∃ c:Nat,S=(c:Int)/\c∈g.N.az/\∀ H',aq H H'->Q (.int ((g.N.ring c:Nat):Int)) H')\/((∀ c∈g.N.az,S≠((c:Nat):Int))/\∀ H',aq H H'->E (.ref C) none H'))
theorem fk:Ea T T.jf 5 (xy a.sC):=by
 have gY:=gY T;have bI:=bI T;have kO:=kO T;refine T.jf.AE wU fun _ A _ s H vs Q E hr h=>?_
 ·obtain⟨wb,p,ts,g,S,rfl,hw,q⟩:=h;refine⟨_,(ah (b7 (aL (yQ K) (pv 1) (aF gY hr T.nJ.c aJ (aa (pv 0) af)) (by with_unfolding_all rfl)) (av (m9 dm.RJ rfl (by rfl) T.Hv PySem.F.excBase_ValueError (aa fF af))) aW)
   (av (aH (aF kO hr T.kL.c aJ (aa (pv 0) (aa (aF bI hr T.dX.c aJ (aa (pv 0) af)) (aa (pv 1) af))))))),?_⟩
  refine fP ?_;intro cg cS;refine(au rfl (au rfl ⟨wb,p,ts,g,rfl,hw,fun D H1 MY s1 hD=>(pX rfl (.inl (aM.of hD)) ⟨rfl,jm _,_,rfl,?_⟩)⟩))
  rcases q with⟨c,rfl,hc,q⟩|⟨hS,q⟩
  ·rw[jB,cD hc];refine cE (au rfl (au rfl ⟨wb,p,ts,g,rfl,hw.same s1,fun D2 H2 hn2 s2 iV=>(au rfl ⟨wb,p,ts,g,D2,c,rfl,hw.same (s1.trans s2),iV,(RM.br.mp hc).1,q _ (s1.trans s2)⟩)⟩))
  ·rw[OS hS];exact eF ⟨dl rfl,q _ s1⟩
def HD:Sp:=fun vs H Q _=>∃ S1 S2,∃ a b:Nat,vs=[.int S1,.int S2]/\S1=(a:Int)/\S2=(b:Int)/\Builtin.Int.intBits ((a&&&b:Nat):Int)<=1000/\∀ H',aq H H'->Q (.int (((bu ((a&&&b:Nat):Int)).length:Nat):Int)) H'
def KZ:Sp:=fun vs H Q _=>∃ S1 S2,∃ a b:Nat,vs=[.int S1,.int S2]/\S1=(a:Int)/\S2=(b:Int)/\Builtin.Int.intBits ((a&&&b:Nat):Int)<=1000/\∀ H',aq H H'->Q (.bl (decide ((bu ((a&&&b:Nat):Int)).length%2=1))) H'
structure PJ(p:Nat)(xs:List Nat):Prop where
 up:xs.Pairwise (· < ·)
 lt:∀ x∈xs,x<p
def Eh:Sp:=fun vs H Q _=>∃ w p ts,∃(l:Addr) (xs:List Nat),vs=[.ref w,.ref l]/\aY H w p ts/\H l=some (.lst (ay xs))/\PJ p xs/\Q (.bl true) H
def HE:Sp:=fun vs H Q _=>∃ w p ts,∃(l:Addr) (ks:List Nat),vs=[.ref w,.ref l]/\aY H w p ts/\Mg p ts/\H l=some (.lst (ay ks))/\(∀ k∈ks,k<ts.length)/\Q (.int ((orM ks:Nat):Int)) H
def HF:Sp:=fun vs H Q _=>∃ w p ts,∃ g:aC p ts,∃(l:Addr) (xs:List Nat),vs=[.ref w,.ref l]/\aY H w p ts/\H l=some (.lst (ay xs))/\PJ p xs/\
 ∀ H',aq H H'->Q (.int ((g.N.cut (fun x=>decide (x∈xs)):Nat):Int)) H'
theorem Ce(p:Nat)(f:Nat->Bool):PJ p ((List.range p).filter f):=⟨C5,fun x hx=>List.mem_range.mp (List.mem_filter.mp hx).1⟩
theorem M0(n:Nat):decide (V.int (((n:Nat):Int)%2)=V.int 1)=decide (n%2=1):=decide_eq_decide.mpr ⟨fun z=>by have:=V.int.inj z;lia,fun z=>congrArg V.int (by lia)⟩
theorem wm:Ok T T.wc 3 HD:=by
 have bj:=bj T;refine T.wc.ok GU fun _ A _ s H vs Q E hr h=>?_
 ·obtain⟨S1,S2,u,v,rfl,rfl,rfl,hb,q⟩:=h;refine⟨_,(av (aH (cH K T.dM (aa (aF bj hr T.ff.c aJ (aa (aK Ip (pv 0) (pv 1)) af)) af)))),?_⟩;refine(au rfl (au rfl (cy ⟨u&&&v,?_,hb,fun D H1 hn s1 hD=>(pX rfl (.inl (aM.of hD)) (?_))⟩)))
  ·show[V.int (Builtin.bitAnd _ _)]=_;rw[and_int]
  ·rw[aB];exact q H1 s1
theorem ee:Ok T T.iK 4 KZ:=by
 have wm:=wm T;refine T.iK.ok vV fun _ A _ s H vs Q E hr h=>?_
 ·obtain⟨S1,S2,u,v,rfl,rfl,rfl,hb,q⟩:=h;refine⟨_,(av (aH (dP dI (aK dO (aF wm hr T.wc.c aJ (aa (pv 0) (aa (pv 1) af))) aj) aj (aO _)))),?_⟩;refine(au rfl (au rfl ⟨_,_,u,v,rfl,rfl,rfl,hb,fun H1 s1=>(cy ⟨(pg rfl),rfl,?_⟩)⟩))
  rw[M0];exact q H1 s1
theorem sN:Ok T T.sE 1 Eh:=by
 refine T.sE.ok lR fun _ A _ s H vs Q E hr h=>?_
 ·obtain⟨wb,p,ts,l,zs,rfl,hw,hl,sd,q⟩:=h;refine⟨_,(ah (aG (i:=2) lR.nd rfl (Or.inl rfl) (Rb Oo aj))
   (ah (eE PassesOwn.never rfl (m8 K (pv 1)) (bf 3 lR.nd)
   (ah (b7 (PW.pt (uA (aL EF (pv 3) (pv 2) (aO _)) (o7 (aL Ir (pv 3) (aI (cz K) (pv 0) aj) (aO _))))) (av (aH mS)) aW)
   (av (aG (i:=2) lR.nd rfl (Or.inl rfl) (pv 3)))))
   (av (aH mS)))),?_⟩
  refine yC ?_;intro cg cS dJ fE gO;obtain⟨bt,xs,h1,h2,h3⟩:=id hw.ex;refine(au rfl (au rfl ⟨l,rfl,⟨_,aM.of hl⟩,uE (K:=K) (a:=l) (xs:=ay zs) (fun i σ H2=>∃ z v3,σ=[some (.ref wb),some (.ref l),some (.int z),v3]/\H2=H/\∀ x∈zs.drop i,z<(x:Int)) ⟨_,none,rfl,rfl,fun x _=>by show(-1:Int)<_;lia⟩ (fun i σ H2 _ ⟨_,_,_,z,_⟩=>by rw[z];exact aM.of hl) ?_ ?_⟩))
  ·rintro i y σ H2 hy ⟨z,v3,rfl,rfl,hz⟩;obtain⟨x,hx,rfl⟩:=cf hy;have hdr:zs.drop i=x::zs.drop (i+1):=by
    obtain⟨hi,e⟩:=jQ.mp hx;rw[List.drop_eq_getElem_cons hi,e]
   have hzx:=hz x (by rw[hdr];exact List.mem_cons_self)
   have hxp:=sd.lt x (iT hx);refine(au rfl (au rfl (cy (au rfl (F0 (by lia) (au rfl (au rfl (cC (aV.of h1) (ak (j:=0) rfl) (cy (au rfl (F0 (by lia) ?_)))))))))))
   refine(au rfl ⟨(x:Int),au rfl ⟨rfl,fun y hy=>?_⟩⟩)
   have pw:(zs.drop i).Pairwise (· < ·):=sd.up.sublist (List.drop_sublist _ _);rw[hdr]at pw;have:=(List.pairwise_cons.mp pw).1 y hy
   lia
  ·rintro σ H2 ⟨z,v3,rfl,rfl,_⟩;exact q
theorem lA:Ok T T.qJ 1 HE:=by
 refine T.qJ.ok oE fun _ A _ s H vs Q E hr h=>?_
 ·obtain⟨wb,p,ts,l,ks,rfl,hw,W,hl,hk,q⟩:=h;refine⟨_,(ah (aG (i:=2) oE.nd rfl (Or.inl rfl) aj)
   (ah (eE PassesOwn.never rfl (m8 K (pv 1)) (bf 3 oE.nd)
   (ah (b7 (PW.pt (uA (aL xN (pv 3) aj (aO _)) (o7 (aL Ir (pv 3) (cH K T.dM (aa (aI (cz K) (pv 0) aj) af)) (aO _))))) xM aW)
   (av (uC (i:=2) oE.nd rfl (Or.inl rfl) (aK kD aj (pv 3)) CQ))))
   (av (aH (pv 2))))),?_⟩
  refine yC ?_;intro cg cS dJ fE gO;obtain⟨bt,xs,h1,h2,h3⟩:=id hw.ex;have Aa:=h3.length;have wl:=W.len;refine(au rfl ⟨l,rfl,⟨_,aM.of hl⟩,uE (K:=K) (a:=l) (xs:=ay ks) (fun i σ H2=>∃ v3,σ=[some (.ref wb),some (.ref l),some (.int ((orM (ks.take i):Nat):Int)),v3]/\H2=H) ⟨none,rfl,rfl⟩ (fun i σ H2 _ ⟨_,_,z⟩=>by rw[z];exact aM.of hl) ?_ ?_⟩)
  ·rintro i x σ H2 hx ⟨v3,rfl,rfl⟩;obtain⟨k,hki,rfl⟩:=cf hx;have hkn:=hk k (iT hki);refine(au rfl (cy (au rfl (F0 (by lia) (au rfl (au rfl (cC (aV.of h1) (ak (j:=1) rfl) (pX rfl (.inr (aV.of h2)) (cy (au rfl (F0 (by lia) ?_)))))))))))
   refine(au rfl (au rfl (cy ⟨⟨by lia,by lia,by decide⟩,cy ⟨some (.int (k:Int)),?_,rfl⟩⟩)))
   show[_,_,some (V.int (Builtin.bitOr _ (1*2^(k:Int).toNat))),_]=_;rw[jY,or_int,List.take_add_one,hki];unfold Ring.orM;rw[List.foldl_append];rfl
  ·rintro σ H2 ⟨v3,rfl,rfl⟩;rw[aB,List.take_length];exact(au rfl (q))
theorem wq:Ok T T.we 2 HF:=by
 have sN:=sN T;have lA:=lA T;refine T.we.ok GV fun _ A _ s H vs Q E hr h=>?_
 ·obtain⟨wb,p,ts,g,l,zs,rfl,hw,hl,sd,q⟩:=h;refine⟨_,(ah (b7 (o8 (c9 (aF sN hr T.sE.c aJ (aa (pv 0) (aa (pv 1) af))))) xM aW)
   (av (aH (aF lA hr T.qJ.c aJ (aa (pv 0) (aa (bz (own:=["k","tie"]) (fq:=["side"]) (js:=[1]) (aE (ai qF) ["web","side"]) rfl (A1 K (by rfl) T.kA (aa (aI (cz K) (pv 0) aj) af)) (fun _ _ _ _=>(HY K (n:=2) rfl (aP (bf 0 (jS ["k","tie","side"])) (aP (bf 1 (jS ["k","tie","side"])) eW)))) (fun _ _ _ _=>(eN (aL uF (dP (RE K) (aI (cz K) (pv 1) aj) (pv 2) (by with_unfolding_all rfl)) (dP (RE K) (aI (cz K) (pv 1) aj) (pv 2) (by with_unfolding_all rfl)) (aO _)))) (fun _ _ _ _=>(pv 0))) af)))))),?_⟩
  refine fP ?_;intro cg cS;obtain⟨bt,xs,h1,h2,h3⟩:=id hw.ex;have Aa:=h3.length;have wl:=g.len;refine(au rfl (au rfl ⟨wb,p,ts,l,zs,rfl,hw,hl,sd,_,rfl,cE ?_⟩));refine(au rfl (au rfl (cC (aV.of h1) (ak (j:=1) rfl) ⟨bt,rfl,⟨_,aV.of h2⟩,fun D hD=>Dg (xs:=xs) (oN (fun k=>decide (g.N.a k∈zs)^^decide (g.N.b k∈zs)) H D) (.start hD) (fun i acc H2 _ pk=>⟨aV.of (pk.1 _ _ h2),pk.len⟩) (c8 (by lia)) ?_ ?_⟩)))
  ·intro i x T0 acc H2 hx pk hT;have hi:i<ts.length:=by have:=(jQ.mp hx).1;lia
   obtain⟨b,hxb,hct⟩:=Eg (g:=g) h3 hi;rw[hx]at hxb;cases hxb;have SK:upd H2 T0 (.tup [.int (i:Int),.ref b]) b=some _:=aq.new hT _ _ (pk.1 _ _ hct);have hl2:upd H2 T0 (.tup [.int (i:Int),.ref b]) l=some _:=aq.new hT _ _ (pk.1 _ _ hl);refine⟨T0,_,rfl,aV.of ae,rfl,_,_,rfl,_,_,rfl,rfl,rfl,?_⟩;refine(au rfl (cC (aV.of SK) (ak (j:=0) rfl) (au rfl (pX rfl (.inl (aM.of hl2)) ⟨rfl,jm _,_,rfl,cC (aV.of SK) (ak (j:=1) rfl) (au rfl (pX rfl (.inl (aM.of hl2)) ⟨rfl,jm _,rfl,au rfl (?_)⟩))⟩))));rw[jB,jB];cases e1:decide (g.N.a i∈zs)<;>cases e2:decide (g.N.b i∈zs)
   ·exact pk.no (aq.new hT) (by rw[e1,e2];rfl)
   ·exact(au rfl (pk.yes hD (aq.new hT) (by rw[e1,e2];rfl)))
   ·exact(au rfl (pk.yes hD (aq.new hT) (by rw[e1,e2];rfl)))
   ·exact pk.no (aq.new hT) (by rw[e1,e2];rfl)
  ·intro acc H2 pk;refine⟨wb,p,ts,D,_,rfl,hw.same pk.1,g.F5,by rw[pk.2.1,pk.2.2],fun k hk=>?_,?_⟩
   ·have:=List.mem_range.mp (List.mem_filter.mp hk).1
    lia
   ·rw[Dh,Aa];exact q H2 pk.1
def tH(p:Nat)(ts:List c6)(g:aC p ts)(m:Nat):List Nat:=(List.range p).filter fun x=>g.N.par (g.N.trail ts.length x) m
def Told(p:Nat)(ts:List c6)(g:aC p ts)(m:Nat)(H H' : Hp)(t:Addr):Prop :=
 (m=g.N.cut (fun x=>decide (x∈tH p ts g m))/\∃ l,H l=none/\H' t=some (.tup [.str "side",.ref l])/\H' l=some (.lst (ay (tH p ts g m))))\/
 (∃ c,c∈g.N.az/\g.N.par (g.N.ring c) m=true/\H' t=some (.tup [.str "ring",.int ((g.N.ring c:Nat):Int)]))
def Ei(C:Addr):Sp:=fun vs H Q E=>∃ w p ts,∃ g:aC p ts,∃ S,vs=[.ref w,.int S]/\aY H w p ts/\nN ts S (E (.ref C) none H) fun m=>∀ t H',H t=none->aq H H'->Told p ts g m H H' t->Q (.ref t) H'
theorem Cf{p:Nat}{ts:List c6}{g:aC p ts}{m:Nat}:g.N.cut (fun x=>decide (x∈tH p ts g m))=g.N.cut fun x=>g.N.par (g.N.trail g.N.n x) m:=RM.Gi fun x hx=>by
 unfold tH;rw[Bool.eq_iff_iff,decide_eq_true_eq,List.mem_filter,List.mem_range];exact⟨fun z=>z.2,fun z=>⟨hx,z⟩⟩
theorem Ej{m:Nat}(h:m≠0):∃ c,(bu (m:Int))[0]?=some c/\m.testBit c=true:=by
 obtain⟨k,hk⟩:=Nat.exists_testBit_of_ne_zero h;have hm:k∈bu (m:Int):=by
  unfold bu;refine List.mem_filter.mpr ⟨List.mem_range.mpr (Nat.lt_of_not_le fun z=>?_),by rw[eX];exact hk⟩
  have:=AK z;rw[eX,hk]at this;cases this
 cases e:bu (m:Int) with
 | nil =>
   rw[e]at hm;cases hm
 | cons c r =>
   have hc:c∈bu (m:Int):=by rw[e];exact List.mem_cons_self
   unfold bu at hc;have:=(List.mem_filter.mp hc).2;rw[eX]at this;exact⟨c,rfl,this⟩
theorem gw{u v:Nat}(h:u^^^v=0):u=v:=by
 have:=congrArg (fun x=>x^^^v) h
 simpa[Nat.xor_assoc]using this
theorem K0(n:Nat):decide (V.int ((n:Nat):Int)=V.int 0)=decide (n=0):=decide_eq_decide.mpr ⟨fun z=>by have:=V.int.inj z;lia,fun z=>by rw[z];rfl⟩
theorem sO:Ea T T.sF 6 (Ei a.dD):=by
 have c5:=c5 T;have bI:=bI T;have ee:=ee T;have wq:=wq T;have bj:=bj T;have fk:=fk T;refine T.sF.AE lS fun _ A _ s H vs Q E hr h=>?_
 ·obtain⟨wb,p,ts,g,S,rfl,hw,q⟩:=h;refine⟨_,(ah (cR (aF c5 hr T.iP.c dm.passes (aa (pv 0) (aa (pv 1) af))))
   (ah (aG (i:=2) lS.nd rfl (Or.inr rfl) (aF bI hr T.dX.c aJ (aa (pv 0) af)))
   (ah (iF (i:=3) lS.nd rfl rfl (own:=["point"]) (fq:=["tie_set","trails"]) (js:=[1,2]) (aE (ai oH) ["web","tie_set","trails","side","amiss"]) rfl (bL (by rfl) T.cj (aa (aI (cz K) (pv 0) aj) af)) (fun _ _ _ _=>(bf 0 (jS ["point","tie_set","trails"]))) (fun _ _ _ _=>(eN (c9 (aF ee hr T.iK.c aJ (aa (aI (jR K) (pv 2) (pv 0)) (aa (pv 1) af)))))) (fun _ _ _ _=>(pv 0)))
   (ah (aG (i:=4) lS.nd rfl (Or.inl rfl) (aK gi (pv 1) (aF wq hr T.we.c aJ (aa (pv 0) (aa (pv 3) af)))))
   (ah (b7 (aL dI (pv 4) aj (aO _)) (av (aH (cP (aa fF (aa (pv 3) af))))) aW)
   (av (aH (cP (aa fF (aa (aF fk hr T.jf.c dm.passes (aa (pv 0) (aa (aI (jR K) (aF bj hr T.ff.c aJ (aa (pv 4) af)) aj) af))) af)))))))))),?_⟩
  refine DL ?_;intro cg cS dJ fE gO o4;obtain⟨bt,xs,h1,h2,h3⟩:=id hw.ex;have wl:=g.len;have wp:=g.p2;have W:=g.F5;rcases q with⟨m,rfl,hm,q⟩|⟨hS,q⟩
  case inr=>exact(au rfl (au rfl ⟨wb,p,ts,_,rfl,hw,W,.inr ⟨hS,q⟩⟩))
  refine(au rfl (au rfl ⟨wb,p,ts,_,rfl,hw,W,.inl ⟨m,rfl,hm,?_⟩⟩));refine(au rfl ⟨wb,p,ts,g,rfl,hw,fun D H1 hn1 s1 hD=>?_⟩)
  refine(au rfl (cC (aV.of (s1 _ _ h1)) (ak (j:=0) rfl) (au rfl ⟨(by lia),(by lia),fun C hC=>ck (lo:=0) (m:=(p:Int).toNat) (oN (fun x=>g.N.par (g.N.trail ts.length x) m) H1 C) (.start hC) (fun i acc H2 _ pk=>pk.len) (c8 (by lia)) ?_ ?_⟩)))
  ·intro i acc H2 hi pk;rw[Int.toNat_natCast]at hi;rw[Int.zero_add];have K1:Builtin.Int.intBits ((g.N.trail ts.length i&&&m:Nat):Int)<=1000:=Nat.le_trans (bits_le (Nat.and_lt_two_pow _ hm)) (by lia)
   refine⟨rfl,au rfl (au rfl (jM (aM.of (pk.1 _ _ hD)) (ak (j:=i) (bN hi)) (au rfl ⟨_,_,g.N.trail ts.length i,m,rfl,rfl,rfl,K1,fun H3 s3=>(au rfl (?_))⟩)))⟩
   rw[E5 (g:=g) hm];cases hb:g.N.par (g.N.trail ts.length i) m with
   | true=>exact(au rfl (pk.yes hC s3 hb))
   | false=>exact pk.no s3 hb
  ·intro acc H2 pk;have Am:H2 C=some (.lst (ay (tH p ts g m))):=by rw[pk.2.1,pk.2.2,Int.toNat_natCast];rfl
   have s12:=s1.trans pk.1;refine(au rfl (au rfl (au rfl ⟨wb,p,ts,g,C,_,rfl,hw.same s12,Am,Ce p _,fun H3 s3=>(cy (?_))⟩)))
   have nO:=s12.trans s3;dsimp only;rw[xor_int,Cf];have ac:=fun k=>RM.A3 (N:=g.N) (m:=m) (k:=k) hm
   have hlt:(m^^^g.N.cut fun x=>g.N.par (g.N.trail g.N.n x) m)<2^ts.length:=Nat.xor_lt_two_pow hm (RM.OX _)
   have hz:(m^^^g.N.cut fun x=>g.N.par (g.N.trail g.N.n x) m)=0->m=g.N.cut (fun x=>decide (x∈tH p ts g m)):=fun z=>by rw[Cf];exact gw z
   generalize (m^^^g.N.cut fun x=>g.N.par (g.N.trail g.N.n x) m)=A at ac hlt hz
   refine(au rfl ⟨rfl,au rfl (?_)⟩);rw[K0]
   by_cases hA:A=0
   ·rw[cD hA];refine eF (au rfl ⟨dl rfl,fun t ht=>q t _ (nO.free ht) (nO.trans (aq.new ht)) (.inl ⟨hz hA,C,s1.free hC,ae,aq.new ht _ _ (s3 _ _ Am)⟩)⟩)
   ·rw[c7 hA];obtain⟨c,hc0,hcb⟩:=Ej hA;obtain⟨hcn,hcf,hcp⟩:=ac c hcb;refine cE (au rfl (au rfl ⟨A,rfl,Nat.le_trans (bits_le hlt) (by lia),fun D4 H4 hn4 s4 sM=>(jM (aM.of sM) (ak (j:=0) (yW hc0)) ⟨wb,p,ts,g,_,rfl,hw.same (nO.trans s4),.inl ⟨c,rfl,RM.br.mpr ⟨hcn,hcf⟩,fun H5 s5=>⟨dl rfl,fun t ht=>?_⟩⟩⟩)⟩))
    have NV:=(nO.trans s4).trans s5;exact q t _ (NV.free ht) (NV.trans (aq.new ht)) (.inr ⟨c,RM.br.mpr ⟨hcn,hcf⟩,hcp,ae⟩)
def Ab(C:Addr):Sp:=fun vs H Q E=>∃ w p ts S,vs=[.ref w,.int S]/\aY H w p ts/\Mg p ts/\nN ts S (∀ H',aq H H'->E (.ref C) none H') fun m=>∀ H',aq H H'->Q (.int (lenOf ts m)) H'
theorem b8:Ea T T.eU 5 (Ab a.dD):=by
 have cJ:=cJ T;refine T.eU.AE zx fun _ A _ s H vs Q E hr h=>?_
 ·obtain⟨wb,p,ts,S,rfl,hw,W,q⟩:=h;refine⟨_,(av (aH (cW (sumK K rfl) (by rfl) T.NS PyProof.Rows.boot_sum (aa (bz (own:=["tie"]) (fq:=[]) (js:=[]) (aE (ai kc) ["web","tie_set"]) rfl (m8 K (aF cJ hr T.gX.c dm.passes (aa (pv 0) (aa (pv 1) af)))) (fun _ _ _ _=>(bf 0 (jS ["tie"]))) (fun _ _ _ _=>bQ) (fun _ _ _ _=>(aI (cz K) (pv 0) aj))) af)))),?_⟩
  refine(au rfl (au rfl ⟨wb,p,ts,S,rfl,hw,W,?_⟩));rcases q with⟨m,rfl,hm,q⟩|⟨hS,q⟩
  ·refine .inl ⟨m,rfl,hm,fun L ys H1 VQ s1 hL pr=>⟨L,rfl,⟨_,aM.of hL⟩,fun D hD=>?_⟩⟩
   have wl:=W.len;have SH:ys.length=(bu (m:Int)).length:=by rw[pr.length,List.length_map]
   have VS:ys.length<=24:=by
    rw[SH];have hb:Builtin.Int.intBits (m:Int)<=ts.length:=bits_le hm;have:=List.length_filter_le (bit (m:Int)) (List.range (Builtin.Int.intBits (m:Int)));rw[List.length_range]at this;exact Nat.le_trans this (by lia)
   refine aZ (xs:=ys) (wN (fun k=>(bU ts k).2.2) (bu (m:Int)) H1 D) (.start hD) (fun i acc H2 _ pm=>⟨aM.of (pm.1 _ _ hL),pm.len⟩) (c8 VS) ?_ ?_
   ·intro i x acc H2 hx pm;obtain⟨t,ht,c,rfl,hc⟩:=Paired.qf pr hx;rw[List.getElem?_map]at ht;obtain⟨k,hk,rfl⟩:=wH.mp ht;exact⟨rfl,au rfl (cC (aV.of (pm.1 _ _ hc)) (ak (j:=2) rfl) (pm.next hD (aq.refl _) hk rfl))⟩
   ·intro acc H2 pm;rw[SH]at pm;exact⟨D,_,rfl,aM.of pm.fin,q H2 (s1.trans pm.1)⟩
  ·exact .inr ⟨hS,q _ (aq.refl _)⟩
def nQ(ts:List c6)(x y:Nat):Prop:=lenOf ts x<lenOf ts y\/(lenOf ts x=lenOf ts y/\x<=y)
def K2(t:Addr)(lp:Pos):Sp:=fun vs H Q _=>∃ w p ts,∃ g:aC p ts,∃(l:Addr) (ms:List Nat),vs=[.ref w,.ref l]/\aY H w p ts/\H l=some (.lst (ay ms))/\ms.length<64/\(∀ m∈ms,m<2^ts.length)/\H t=some (.ju (eI (nu "by_length") lp))/\
 ∀ D ms' H',H D=none->aq H H'->H' D=some (.lst (ay ms'))->ms'.Perm ms->ms'.Pairwise (nQ ts)->Q (.ref D) H'
theorem K3:∀{l:List Int},(∀ x∈l,0<=x)->∃ ms:List Nat,l=ms.map (fun x=>((x:Nat):Int))
 | [],_=>⟨[],rfl⟩
 | x::r,h=>by
   obtain⟨ms,e⟩:=K3 (l:=r) fun y hy=>h y (kU _ hy)
   have hx:=h x List.mem_cons_self;refine⟨x.toNat::ms,?_⟩;rw[List.map_cons,<-e]
   congr 1
   lia
theorem gA:Xr T T.iQ 9 (K2 a.cY cI):=by
 have b8:=b8 T;refine T.iQ.ok zy fun A _ s H vs Q E hr h=>?_
 ·obtain⟨wb,p,ts,g,l,ms,rfl,hw,hl,h64,hms,htb,q⟩:=h;refine⟨_,(av (aH (Kl (x:="ring") (fq:=["web"]) (js:=[0]) hr (aE (ai kg) ["web","rings"]) rfl (by rfl) T.wg rfl T.iQ.F.hd (aa (pv 1) af) (fun _ _ _ _ hr=>(cP (aa (aF b8 hr T.eU.c jV (aa (pv 1) (aa (pv 0) af))) (aa (pv 0) af))))))),?_⟩
  have W:=g.F5;have wl:=g.len;have big:(2:Nat)^ts.length<=2^24:=Nat.pow_le_pow_right (by decide) wl
  have PK:∀ n,n∈ms.map (fun x=>((x:Nat):Int))->∃ m:Nat,n=(m:Int)/\m∈ms:=fun n hn=>by
   obtain⟨m,hm,rfl⟩:=List.mem_map.mp hn;exact⟨m,rfl,hm⟩
  refine(au rfl ⟨l,ms.map (fun x=>((x:Nat):Int)),fun z=>(lenOf ts z.toNat,z),rfl,by rw[<-gn];exact hl,by rw[List.length_map];exact h64,fun n hn=>?_,htb,fun H3 hk n hn=>?_,fun D ns' H4 hD s4 sM hp hs=>?_⟩)
  ·obtain⟨m,rfl,hm⟩:=PK n hn;have:=hms m hm;exact⟨by show(0:Int)<=(m:Int);lia,by show(m:Int)<1073741824;lia⟩
  ·obtain⟨m,rfl,hm⟩:=PK n hn;have tp:dG H H3:=fun b xs e=>hk b _ e (fun y z=>nomatch z) (fun y z=>nomatch z)
   refine(au rfl (au rfl ⟨wb,p,ts,_,rfl,hw.tups tp,W,.inl ⟨m,rfl,hms m hm,fun H4 s4=>(au rfl ⟨dl rfl,fun d hd=>?_⟩)⟩⟩))
   exact⟨s4.trans (aq.new hd),d,rfl,ae⟩
  ·obtain⟨ms',rfl⟩:∃ ms' : List Nat,ns' = ms'.map (fun x=>((x:Nat):Int)):=by
    refine K3 fun x hx=>?_
    obtain⟨m,rfl,_⟩:=PK x (hp.mem_iff.mp hx)
    lia
   have VT:ms'.Perm ms:=by
    have:=hp.map Int.toNat;rw[List.map_map,List.map_map]at this;have e:∀ l:List Nat,l.map (Int.toNat∘fun x=>((x:Nat):Int))=l:=fun l=>by
     induction l with
     | nil=>rfl
     | cons x r ih=>rw[List.map_cons,ih];rfl
    rw[e,e]at this;exact this
   refine q D ms' H4 hD s4 (by rw[gn];exact sM) VT ?_
   rw[List.pairwise_map]at hs;refine List.Pairwise.imp_of_mem (fun {x y} hx hy h=>?_) hs
   have hx:=hms x (VT.mem_iff.mp hx);have hy:=hms y (VT.mem_iff.mp hy);have h:lenOf ts x*1073741824+(x:Int)<=lenOf ts y*1073741824+(y:Int):=h;unfold nQ
   lia
def K4:Sp:=fun vs H Q _=>∃ w p ts,∃ g:aC p ts,∃ m:Nat,vs=[.ref w,.int (m:Int)]/\aY H w p ts/\m<2^ts.length/\
 ∀ D es S H',es.length=p->GG m H D es S H'->NK g.N ts.length S->Q (.ref D) H'
theorem PM{b:Bool}{σ:St}{f:VK}{H:Hp}(h:f (.int (b.toNat:Int)) H):if b=true then tC (.int 1) σ H f else tC (.int 0) σ H f:=by
 cases b<;>exact h
theorem iD:Ok T T.iz 2 K4:=by
 have bF:=bF T;refine T.iz.ok cX fun _ A _ s H vs Q E hr h=>?_
 ·obtain⟨wb,p,ts,g,m,rfl,hw,hm,q⟩:=h;refine⟨_,(ah (iF (i:=2) cX.nd rfl rfl (own:=["point"]) (fq:=[]) (js:=[]) (aE (ai e8) ["web","marks","steps","tie","ends","turn"]) rfl (bL (by rfl) T.cj (aa (aI (cz K) (pv 0) aj) af)) (fun _ _ _ _=>(bf 0 (jS ["point"]))) (fun _ _ _ _=>bQ) (fun _ _ _ _=>(dQ af)))
   (ah (eE PassesOwn.never rfl (A1 K (by rfl) T.kA (aa (aI (cz K) (pv 0) aj) af)) (HY K (n:=2) rfl (aP (bf 3 cX.nd) (aP (bf 4 cX.nd) eW)))
   (ah (aG (i:=5) cX.nd rfl (Or.inl rfl) (m4 (c9 (aF bF hr T.gz.c aJ (aa (pv 1) (aa (pv 3) af)))) aj aj))
   (ah (cR (Kv K (m7 PySem.F.plainAttrs_list PySem.F.slot_list_append PySem.F.type_list_append dc (aI (jR K) (pv 2) (aI (cz K) (pv 4) aj)) (aa (cP (aa (pv 3) (aa (aI (cz K) (pv 4) aj) (aa (pv 5) af)))) af))))
   (av (cR (Kv K (m7 PySem.F.plainAttrs_list PySem.F.slot_list_append PySem.F.type_list_append dc (aI (jR K) (pv 2) (aI (cz K) (pv 4) aj)) (aa (cP (aa (pv 3) (aa (aI (cz K) (pv 4) aj) (aa (pv 5) af)))) af))))))))
   (av (aH (pv 2))))),?_⟩
  refine qG ?_;intro cg cS dJ fE gO;obtain⟨bt,xs,h1,h2,h3⟩:=id hw.ex;have Aa:=h3.length;have wp:=g.p2;have wl:=g.len;refine(au rfl (cC (aV.of h1) (ak (j:=0) rfl) (au rfl ⟨(by lia),(by lia),fun D hD=>ck (lo:=0) (m:=p) (NJ m H D) (.start hD) (fun i acc H2 _ z=>z.len) (dl (Nat.ble_eq.mpr (by lia))) ?_ ?_⟩)))
  ·rintro i acc H2 hi f2;exact⟨rfl,dl rfl,fun l hl=>f2.next hl⟩
  rintro acc H2 ⟨es,rfl,hel,f2⟩;refine(au rfl (cC (aV.of (f2.same _ _ h1)) (ak (j:=1) rfl) ⟨bt,rfl,⟨_,aV.of (f2.same _ _ h2)⟩,?_⟩));refine Gr (K:=K) (a:=bt) (xs:=xs) (fun k σ H3=>∃ v3 v4 v5,σ=[some (.ref wb),some (.int (m:Int)),some (.ref D),v3,v4,v5]/\∃ S,GG m H D es S H3/\NK g.N k S) ⟨none,none,none,rfl,_,f2,NK.start⟩ (fun k σ H3 _ ⟨_,_,_,_,_,z,_⟩=>aV.of (z.same _ _ h2)) ?_ ?_
  ·rintro k x T0 σ H3 hk ⟨v3,v4,v5,rfl,S,f3,k3⟩ hT;have hkx:k<xs.length:=(jQ.mp hk).1;have nZ:k<ts.length:=by lia
   obtain⟨ct,ex,hct⟩:=vg (g:=g) h3 nZ;rw[hk]at ex;cases ex;have s4:aq H3 (upd H3 T0 (.tup [.int (k:Int),.ref ct])):=aq.new hT;have TV:upd H3 T0 (.tup [.int (k:Int),.ref ct]) T0=some (.tup [.int (k:Int),.ref ct]):=ae;have f4:=f3.go s4;generalize upd H3 T0 (.tup [.int (k:Int),.ref ct])=H4 at f4 TV;refine⟨T0,_,rfl,aV.of TV,rfl,_,_,rfl,_,_,rfl,rfl,?_⟩;refine(au rfl (au rfl ⟨(m:Int),k,rfl,au rfl (?_)⟩));rw[eX];have ha:g.N.a k<p:=g.N.al k nZ;have hb:g.N.b k<p:=g.N.bl k nZ;have PN:=f4.same _ _ hct;refine PM ?_;obtain⟨b1,VU,e1,e1',hb1,q1⟩:=f4.get (i:=g.N.a k) (by lia)
   refine(au rfl (au rfl (cC (aV.of PN) (ak (j:=0) rfl) (jM (aM.of f4.lst) (ak e1) (?_)))));have l1:VU.length<=2*k:=by rw[q1.length];exact k3.len _
   refine⟨.inl ⟨rfl,_,aM.of hb1⟩,au rfl (au rfl (cC (aV.of PN) (ak (j:=1) rfl) (au rfl ⟨dl rfl,fun t1 LC=>?_⟩)))⟩
   have s5:aq H4 (upd H4 t1 (.tup [.int (k:Int),.int (g.N.b k:Int),.int ((m.testBit k).toNat:Int)])):=aq.new LC;have u5:jL m (upd H4 t1 (.tup [.int (k:Int),.int (g.N.b k:Int),.int ((m.testBit k).toNat:Int)])) t1 (k,g.N.b k):=ae;have f5:=f4.go s5;have Xv:=s5 _ _ hb1;have aaC:=s5 _ _ PN;have q5:Paired (jL m (upd H4 t1 (.tup [.int (k:Int),.int (g.N.b k:Int),.int ((m.testBit k).toNat:Int)]))) VU (S (g.N.a k)):=Paired.yH q1 fun _ _ z=>s5 _ _ z
   refine⟨b1,_,_,rfl,rfl,Xv,dw (by rw[List.length_map];lia),?_⟩
   have f6:=f5.put e1' Xv q5 u5;have PR:=f6.same _ _ hct;generalize upd (upd H4 t1 (.tup [.int (k:Int),.int (g.N.b k:Int),.int ((m.testBit k).toNat:Int)])) b1 (.lst (VU.map V.ref++[.ref t1]))=H6 at f6 PR;obtain⟨b2,cs2,e2,e2',KY,q2⟩:=f6.get (i:=g.N.b k) (by lia)
   refine(au rfl (au rfl (cC (aV.of PR) (ak (j:=1) rfl) (jM (aM.of f6.lst) (ak e2) (?_)))));have l2:cs2.length<=2*k+1:=by
    rw[q2.length];unfold vG;have:=k3.len (g.N.b k)
    split
    ·rw[List.length_append,List.length_singleton];lia
    ·lia
   refine⟨.inl ⟨rfl,_,aM.of KY⟩,au rfl (au rfl (cC (aV.of PR) (ak (j:=0) rfl) (au rfl ⟨dl rfl,fun t2 M4=>?_⟩)))⟩
   have s7:aq H6 (upd H6 t2 (.tup [.int (k:Int),.int (g.N.a k:Int),.int ((m.testBit k).toNat:Int)])):=aq.new M4;have u7:jL m (upd H6 t2 (.tup [.int (k:Int),.int (g.N.a k:Int),.int ((m.testBit k).toNat:Int)])) t2 (k,g.N.a k):=ae;have f7:=f6.go s7;have QC:=s7 _ _ KY;refine⟨b2,_,_,rfl,rfl,QC,dw (by rw[List.length_map];lia),?_⟩
   exact⟨_,_,_,rfl,_,f7.put e2' QC (Paired.yH q2 fun _ _ z=>s7 _ _ z) u7,k3.next⟩
  ·rintro σ H3 ⟨v3,v4,v5,rfl,S,f3,k3⟩;refine(au rfl (q D es S H3 hel f3 ?_));rw[<-Aa];exact k3
def kP(p:Nat)(N:RM.Net)(L:Nat->Int)(m u:Nat)(D:Addr)(F:RM.OW)(H0 H:Hp):Prop:=∃ es:List Addr,es.length=p/\H D=some (.lst (es.map V.ref))/\
 (∀(i:Nat) b,es[i]?=some b->∃ v0 v1,H b=some (.lst [v0,v1])/\wV H (F i false) v0/\wV H (F i true) v1)/\(∀ x s,RM.Gy N L m u x s ((F x s).map (·.1)))/\(∀ x s d,F x s=some d->RM.Wz N L m u x s d.1 d.2)/\(∀ b∈es,H0 b=none)/\RM.Fx N L m u F
theorem M5(a b:Bool):Builtin.bitXor ((a.toNat:Nat):Int) ((b.toNat:Nat):Int)=(((a^^b).toNat:Nat):Int):=by
 cases a<;>cases b<;>decide
def xA(t:Addr)(lp:Pos):Sp:=fun vs H Q _=>∃ w p ts,∃ g:aC p ts,∃(m u:Nat),vs=[.ref w,.int (m:Int),.int (u:Int)]/\aY H w p ts/\m<2^ts.length/\u<p/\H t=some (.ju (eI (nu "least_ways") lp))/\
 ∀ D F H',H D=none->aq H H'->kP p g.N (bx ts) m u D F H H'->Q (.ref D) H'
theorem mH:Xr T T.jg 5 (xA a.cZ cK):=by
 have iD:=iD T;refine T.jg.ok bH fun A _ s H vs Q E hr h=>?_
 ·obtain⟨wb,p,ts,g,m,u,rfl,hw,hm,hu,htb,q⟩:=h;refine⟨_,(ah (aG (i:=3) bH.nd rfl (Or.inl rfl) (aF iD hr T.iz.c aJ (aa (pv 0) (aa (pv 1) af))))
   (ah (iF (i:=4) bH.nd rfl rfl (own:=["point"]) (fq:=[]) (js:=[]) (aE (ai gR) ["web","marks","start","steps","found","waiting","nearest","way","tie","point","turn","part","further"]) rfl (bL (by rfl) T.cj (aa (aI (cz K) (pv 0) aj) af)) (fun _ _ _ _=>(bf 0 (jS ["point"]))) (fun _ _ _ _=>bQ) (fun _ _ _ _=>(dQ (aa qQ (aa qQ af)))))
   (ah (aG (i:=5) bH.nd rfl (Or.inr rfl) (JZ (by exact AB hr) (cP (aa (pv 2) (aa aj af))) (cP (aa aj (aa aj af)))))
   (ah (Au PassesOwn.never (aL uG (cW VD (by rfl) T.dM PySem.boot_len (aa (pv 5) af)) aj (aO _)) (ah (aG (i:=6) bH.nd rfl (Or.inl rfl) (ML (x:="place") (fq:=["waiting"]) (js:=[5]) hr (aE (ai gR) ["web","marks","start","steps","found","waiting","nearest","way","tie","point","turn","part","further"]) rfl (by rfl) T.Fy rfl T.jg.F.hd (aa (pv 5) af) (fun _ _ _ _ hr=>(Mt (by exact AB hr) (pv 1) (pv 0) (fun _ _=>rfl)))))
   (ah (aG (i:=7) bH.nd rfl (Or.inl rfl) (JY (by exact AB hr) (pv 5) (pv 6) ⟨rfl,rfl,rfl,rfl⟩))
   (ah (CH (pv 7) (CG (aI (jR K) (pv 4) (aI (cz K) (pv 6) aj)) (aI (cz K) (pv 6) aj) set_list))
   (av (eE PassesOwn.never rfl (m8 K (aI (jR K) (pv 3) (aI (cz K) (pv 6) aj))) (HY K (n:=3) rfl (aP (bf 8 bH.nd) (aP (bf 9 bH.nd) (aP (bf 10 bH.nd) eW))))
   (ah (aG (i:=11) bH.nd rfl (Or.inl rfl) (aK gi (aI (cz K) (pv 6) aj) (pv 10)))
   (ah (aG (i:=12) bH.nd rfl (Or.inl rfl) (cP (aa (aK fG (aI (cz K) (pv 7) aj) (aI (cz K) (aI (cz K) (aI (cz K) (pv 0) aj) (pv 8)) aj)) (aa (aK gi (aI (cz K) (pv 7) aj) (aK kD aj (pv 8))) af))))
   (av (b7 (PW.pt (mZ (aL Iu (aI (jR K) (aI (jR K) (pv 4) (pv 9)) (pv 11)) qQ (aO _)) (jT (aL (Pn hr.CS) (pv 12) (Jv (by exact AB hr) (pv 5) (cP (aa (pv 9) (aa (pv 11) af))) (pv 12) ⟨rfl,rfl,rfl,rfl⟩) (aO _))))) (av (Mu (by exact AB hr) (pv 5) (cP (aa (pv 9) (aa (pv 11) af))) (pv 12) rfl)) aW))))))))))
   (av (aH (pv 4))))))),?_⟩
  refine wX ?_;intro cg cS dJ fE gO o4 yD Fp Fq Ft Kw GW;obtain⟨bt,xs,h1,h2,h3⟩:=id hw.ex;have Aa:=h3.length;have wp:=g.p2;have wl:=g.len;refine(au rfl (au rfl ⟨wb,p,ts,g,m,rfl,hw,hm,fun Ds ess S H1 hel1 f1 k1=>?_⟩))
  have s1:=f1.same;refine(au rfl (cC (aV.of (s1 _ _ h1)) (ak (j:=0) rfl) (au rfl ⟨(by lia),(by lia),fun D hD=>ck (lo:=0) (m:=p) (Bf H1 D) (.start hD) (fun i acc H2 _ z=>z.len) (dl (Nat.ble_eq.mpr (by lia))) ?_ ?_⟩)))
  ·rintro i acc H2 hi f2;exact⟨rfl,dl rfl,fun l hl=>f2.next hl⟩
  rintro acc H2 ⟨es,rfl,hel,f2⟩;refine fun wd Xw=>(au rfl ⟨dl rfl,fun t1 LC=>⟨dl rfl,fun t2 M4=>?_⟩⟩)
  have Xx:aq (upd H2 wd (.dT [])) (upd (upd H2 wd (.dT [])) t1 (.tup [.int (u:Int),.int 0])):=aq.new LC;have VV:aq (upd (upd H2 wd (.dT [])) t1 (.tup [.int (u:Int),.int 0])) (upd (upd (upd H2 wd (.dT [])) t1 (.tup [.int (u:Int),.int 0])) t2 (.tup [.int 0,.int 0])):=aq.new M4;have f3:=((f2.go (aq.new Xw (o:=.dT []))).go Xx).go VV;have w3:=VV _ _ (Xx _ _ (ae (H:=H2) (a:=wd) (o:=.dT [])));have u3:=VV _ _ (ae (H:=upd H2 wd (.dT [])) (a:=t1) (o:=.tup [.int (u:Int),.int 0]));have v3:(upd (upd (upd H2 wd (.dT [])) t1 (.tup [.int (u:Int),.int 0])) t2 (.tup [.int 0,.int 0])) t2=some (.tup [.int 0,.int 0]):=ae;generalize upd (upd (upd H2 wd (.dT [])) t1 (.tup [.int (u:Int),.int 0])) t2 (.tup [.int 0,.int 0])=H3 at f3 w3 u3 v3;refine⟨t1,ky u false,rfl,u3,w3,?_⟩;have lw3:=vF.start f3 hu w3 (f2.same.free Xw) v3;have VW:=s1 _ _ htb;have hL:∀ k,k<g.N.n->0<=bx ts k:=yn g;have PU:∀ k,k<g.N.n->0<bx ts k:=fun k hk=>by
   have:=(g.yU _ (gv hk)).l0;unfold bx
   lia
  refine⟨fun n σ H4=>∃ v6 v7 v8 v9 v10 v11 Ib,σ=[some (.ref wb),some (.int (m:Int)),some (.int (u:Int)),some (.ref Ds),some (.ref D),some (.ref wd),v6,v7,v8,v9,v10,v11,Ib]/\∃ kvs F W,vF p H1 D wd es kvs F W H4/\RM.Dx g.N (bx ts) m u F W none (fun _ _=>False)/\n=RM.left F p,⟨_,none,none,none,none,none,none,none,rfl,_,_,_,lw3,RM.Dx.start,rfl⟩,?_⟩
  rintro n σ H4 ⟨v6,v7,v8,v9,v10,v11,Ib,rfl,kvs,F,W,lw,dj,rfl⟩;refine(au rfl ⟨wd,kvs,rfl,.inl lw.dt,_,_,rfl,rfl,au rfl (lE (fun hlen=>?_) (fun hlen=>?_))⟩)
  case refine_2 =>
   have hl : ¬(0:Int)<(kvs.length:Int):=fun z=>hlen (cD z)
   have e:kvs=[]:=List.eq_nil_of_length_eq_zero (by lia)
   subst e;have hW:∀ x s,W x s=none:=fun x s=>by
    rcases lw.val x s with⟨z,_⟩|⟨_,_,_,z,_⟩
    ·exact z
    ·rw[ve]at z;cases z
   exact(au rfl (q D F H4 (s1.free lw.Dn) (s1.trans lw.same) ⟨es,hel,lw.lst,lw.at_,dj.dj.best hW,dj.dj.fw,fun b hb=>s1.free (lw.fr b hb),dj.fin PU hu hW⟩))
  have hlen:(0:Int)<(kvs.length:Int):=i8 hlen;refine⟨fun σ' H'=>∃ v6 v7 v8 v9 v10 v11 Ib,σ' = [some (.ref wb),some (.int (m:Int)),some (.int (u:Int)),some (.ref Ds),some (.ref D),some (.ref wd),v6,v7,v8,v9,v10,v11,Ib]/\∃ kvs' F' W',vF p H1 D wd es kvs' F' W' H'/\RM.Dx g.N (bx ts) m u F' W' none (fun _ _=>False)/\RM.left F' p<RM.left F p,fun σ' H' ⟨a6,a7,a8,a9,VX,VY,VZ,e,kvs',F',W',b1,b2,b3⟩=>⟨_,b3,a6,a7,a8,a9,VX,VY,VZ,e,kvs',F',W',b1,b2,rfl⟩,?_⟩
  refine(au rfl ⟨wd,kvs,Ka W kvs,rfl,lw.dt,(by lia),lw.same _ _ VW,fun ob H5 zf hfz i kv b hkv hb=>?_,fun i kv b H5 hkv hmin s5 hb=>?_⟩)
  ·obtain⟨x,t,d,c,hx,ek,SM,V0,_,hc,V1⟩:=lw.entry hkv;have hcw:c≠wd:=aS hc lw.dt (by intro z;cases z)
   refine(au rfl (au rfl ⟨wd,.ref c,rfl,.inr ⟨kvs,ky x t,b,.inr ⟨ob,hfz⟩,rfl,by rw[<-ek];exact hb,V0.symm⟩,aq.refl _,c,rfl,?_⟩))
   rw[V1];exact aV.of (zf c _ hc hcw (by intro y z;cases z) (by intro y z;cases z))
  obtain⟨x,t,d,c,hx,ek,SM,V0,_,hc,V1⟩:=lw.entry hkv;rw[ek]at hb;have hmn:∀ y t' d',W y t' = some d'->d.1<=d'.1:=fun y t' d' hW'=>by
   obtain⟨j,Xe,hj,_,ej⟩:=lw.find hW';have:=hmin j (jQ.mp hj).1;rw[ej,V1]at this;exact zl this
  have M6:=lw.go s5;have hc5:=s5 _ _ hc;have hF:F x t=none:=dj.dj.dj x t d SM;refine(au rfl ⟨wd,rfl,.inr ⟨kvs,.inl M6.dt⟩,au rfl ⟨kvs,ky x t,b,.ref c,M6.dt,rfl,hb,V0,?_⟩⟩);obtain⟨rb,r0,r1,er,er',hrb,hr0,hr1⟩:=M6.row (i:=x) (by lia)
  have bw:b≠wd:=aS hb M6.dt (by intro z;cases z)
  have rw_:rb≠wd:=aS hrb M6.dt (by intro z;cases z)
  have Xy:upd H5 wd (.dT (dW kvs (ky x t))) b=some (.tup [.int (x:Int),.int (t.toNat:Int)]):=by rw[ao bw];exact hb
  have VR:upd H5 wd (.dT (dW kvs (ky x t))) D=some (.lst (es.map V.ref)):=by rw[ao (Ne.symm M6.wD)];exact M6.lst
  have hr6:upd H5 wd (.dT (dW kvs (ky x t))) rb=some (.lst [r0,r1]):=by rw[ao rw_];exact hrb
  refine(au rfl (au rfl (au rfl (cC (aV.of Xy) (ak (j:=0) rfl) (jM (aM.of VR) (ak er) (au rfl (cC (aV.of Xy) (ak (j:=1) rfl) ⟨rb,_,_,t.toNat,rfl,rfl,hr6,qh (n:=2) (j:=t.toNat) (by cases t<;>decide),?_⟩)))))))
  have QD:=M6.take SM hc5 er' hrb;have V2:=dj.pop SM hmn;have hd0:0<=d.1:=by
   obtain⟨pre,w0⟩:=dj.dj.ww x t d SM;exact(RM.qw hL hu w0).2.2.2.2.2
  have hlt:RM.left (RM.jK F x t d) p<RM.left F p:=RM.Bv hF hx;have Xz:dG H5 (upd (upd H5 wd (.dT (dW kvs (ky x t)))) rb (.lst (([r0,r1]:List V).set t.toNat (.ref c)))):=fun z ys e=>by
   rw[ao (aS e hrb (by intro z;cases z)),ao (aS e M6.dt (by intro z;cases z))]
   exact e
  have QC:=Xz _ _ hb;have QE:=Xz _ _ hc5;generalize upd (upd H5 wd (.dT (dW kvs (ky x t)))) rb (.lst (([r0,r1]:List V).set t.toNat (.ref c)))=H7 at QD QC QE;generalize RM.zk W x t=W7 at QD V2;have Ue:RM.jK F x t d x t=some d:=RM.bV _ _ _ _;generalize RM.jK F x t d=F7 at QD V2 hlt Ue;obtain⟨sb,cs,esb,aaM,R3,V3⟩:=f1.get (i:=x) (by lia)
  have hlS:=k1.len x;refine(au rfl (au rfl (cC (aV.of QC) (ak (j:=0) rfl) (jM (aM.of (QD.same _ _ f1.lst)) (ak esb) ⟨sb,rfl,⟨_,aM.of (QD.same _ _ R3)⟩,?_⟩))));refine cT (K:=K) (a:=sb) (xs:=cs.map V.ref) (fun j σ H8=>∃ v8 v9 v10 v11 Ib,σ=[some (.ref wb),some (.int (m:Int)),some (.int (u:Int)),some (.ref Ds),some (.ref D),some (.ref wd),some (.ref b),some (.ref c),v8,v9,v10,v11,Ib]/\dG H7 H8/\∃ Ac W8,vF p H1 D wd es Ac F7 W8 H8/\RM.Dx g.N (bx ts) m u F7 W8 (some (x,t)) (fun k y=>∃ j',j'<j/\(S x)[j']?=some (k,y)))
   ⟨_,_,_,_,_,rfl,(aq.refl _).tups,_,_,QD,?_⟩ (fun j σ H8 _ ⟨_,_,_,_,_,_,_,_,_,z,_⟩=>aM.of (z.same _ _ R3)) ?_ ?_
  ·exact V2.less fun k y ⟨j',h0,_⟩=>absurd h0 (Nat.not_lt_zero _)
  ·rintro j y D3' σ H8 hj ⟨v8,v9,v10,v11,Ib,rfl,Ug,Ac,W8,PV,SN⟩;obtain⟨cc,hcc,rfl⟩:∃ cc,cs[j]?=some cc/\y = .ref cc:=by
    rw[List.getElem?_map]at hj;obtain⟨cc,h1,h2⟩:=wH.mp hj;exact⟨cc,h1,h2.symm⟩
   have NG:j<(S x).length:=by rw[<-V3.length];exact(jQ.mp hcc).1
   have eS:(S x)[j]?=some (S x)[j]:=List.getElem?_eq_getElem NG;have XA:=L2.rK V3 hcc eS;generalize hkw:(S x)[j]=kw at eS XA;obtain⟨k,y⟩:=kw;have hmem:=(k1.mem x (k,y)).mp (iT eS);obtain⟨hk,Cz⟩:=hmem;have hk:k<ts.length:=hk;have Cz:RM.Jn g.N k x y:=Cz;have hy:y<p:=Cz.lt hk;have V4:=PV.same _ _ XA;have V4:H8 cc=some (.tup [.int (k:Int),.int (y:Int),.int ((m.testBit k).toNat:Int)]):=V4;refine⟨cc,_,rfl,aV.of V4,rfl,_,_,rfl,_,_,rfl,_,_,rfl,rfl,?_⟩;have hb8:=Ug _ _ QC;have XC:=Ug _ _ QE;refine(au rfl (cC (aV.of hb8) (ak (j:=1) rfl) (au rfl (cy (?_)))));dsimp only;rw[M5];obtain⟨ct,ex,hct⟩:=vg (g:=g) h3 hk;have hw8:=PV.same _ _ (s1 _ _ h1);have ht8:=PV.same _ _ (s1 _ _ h2);have V5:=PV.same _ _ (s1 _ _ hct);refine(au rfl (cC (aV.of XC) (ak (j:=0) rfl) (au rfl (cC (aV.of hw8) (ak (j:=1) rfl) (au rfl (cC (aV.of ht8) (ak (j:=k) ex) (cC (aV.of V5) (ak (j:=2) rfl) (?_))))))));refine(cy (au rfl (cC (aV.of XC) (ak (j:=1) rfl) (au rfl (cy ⟨⟨by lia,by lia,by decide⟩,cy ⟨dl rfl,fun f hf=>?_⟩⟩)))))
   have ef:Builtin.bitXor ((d.2:Nat):Int) (1*2^((k:Nat):Int).toNat)=((d.2^^^2^k:Nat):Int):=by
    rw[Int.toNat_natCast,Int.one_mul,show((2:Int)^k)=((2^k:Nat):Int) by simp]
    exact xor_int _ _
   dsimp only;rw[ef];have s9:aq H8 (upd H8 f (.tup [.int (d.1+(bU ts k).2.2),.int ((d.2^^^2^k:Nat):Int)])):=aq.new hf;have XD:upd H8 f (.tup [.int (d.1+(bU ts k).2.2),.int ((d.2^^^2^k:Nat):Int)]) f=some (.tup [.int (d.1+bx ts k),.int ((d.2^^^2^k:Nat):Int)]):=ae;have QF:=PV.go s9;have V6:dG H7 (upd H8 f (.tup [.int (d.1+(bU ts k).2.2),.int ((d.2^^^2^k:Nat):Int)])):=fun z ys e=>s9 _ _ (Ug _ _ e)
   generalize upd H8 f (.tup [.int (d.1+(bU ts k).2.2),.int ((d.2^^^2^k:Nat):Int)])=H9 at QF XD V6;obtain⟨rb2,q0,q1,er2,aaS,V7,C8,hq1⟩:=QF.row (i:=y) (by lia)
   obtain⟨vv,hvv,QG⟩:∃ vv,([q0,q1]:List V)[(t^^m.testBit k).toNat]?=some vv/\wV H9 (F7 y (t^^m.testBit k)) vv:=by
    cases(t^^m.testBit k) with
    | false=>exact⟨q0,rfl,C8⟩
    | true=>exact⟨q1,rfl,hq1⟩
   have Lk:=hL k hk;refine(au rfl (au rfl (jM (aM.of QF.lst) (ak er2) (au rfl (jM (aM.of V7) (ak hvv) (?_))))));refine⟨rfl,au rfl (?_)⟩;have dn:∀{Fz:Nat->Nat->Prop} {Wx:RM.OW},RM.Dx g.N (bx ts) m u F7 Wx (some (x,t)) (fun k' y'=>(∃ j',j'<j/\(S x)[j']?=some (k',y'))\/(k' = k/\y' = y))->
    RM.Dx g.N (bx ts) m u F7 Wx (some (x,t)) (fun k' y'=>∃ j',j'<j+1/\(S x)[j']?=some (k',y')):=fun {Fz Wx} h =>
    h.less fun k' y' ⟨j',h0,h5⟩=>by
     by_cases ej:j' = j
     ·subst ej;rw[eS]at h5;cases h5;exact .inr ⟨rfl,rfl⟩
     ·exact .inl ⟨j',by lia,h5⟩
   cases Uh:F7 y (t^^m.testBit k) with
   | some d2 =>
     rw[Uh]at QG;obtain⟨c2,rfl,hc2⟩:=QG;refine F0 (fun z=>nomatch z) ?_
     exact⟨_,_,_,_,_,rfl,V6,Ac,W8,QF,dn (Fz:=fun _ _=>False) (SN.skip Ue (PU k hk) (.inl Uh))⟩
   | none =>
     rw[Uh]at QG;have QG:vv = .fD:=QG;subst QG;refine RB rfl ?_;refine(au rfl (au rfl ⟨wd,rfl,.inr ⟨Ac,.inl QF.dt⟩,au rfl (au rfl ⟨dl rfl,fun t3 ht3=>?_⟩)⟩))
     have SO:aq H9 (upd H9 t3 (.tup [.int (y:Int),.int ((t^^m.testBit k).toNat:Int)])):=aq.new ht3;have SQ:upd H9 t3 (.tup [.int (y:Int),.int ((t^^m.testBit k).toNat:Int)]) t3=some (.tup ((ky y (t^^m.testBit k)).map kV)):=ae;have HG:=QF.go SO;have K5:=SO _ _ XD;have PX:dG H7 (upd H9 t3 (.tup [.int (y:Int),.int ((t^^m.testBit k).toNat:Int)])):=fun z ys e=>SO _ _ (V6 _ _ e)
     generalize upd H9 t3 (.tup [.int (y:Int),.int ((t^^m.testBit k).toNat:Int)])=LD at HG K5 SQ PX;refine(au rfl ⟨eR Ac (ky y (t^^m.testBit k)),.inr ⟨Ac,ky y (t^^m.testBit k),t3,.inl HG.dt,rfl,SQ,rfl⟩,?_⟩);have XE:=HG.len;have put:(∀ d',W8 y (t^^m.testBit k)=some d'->RM.lx (RM.stp (bx ts) d k) d')->cS D3' [some (.ref wb),some (.int (m:Int)),some (.int (u:Int)),some (.ref Ds),some (.ref D),some (.ref wd),some (.ref b),some (.ref c),some (.int (k:Int)),some (.int (y:Int)),some (.int ((m.testBit k).toNat:Int)),some (.int ((t^^m.testBit k).toNat:Int)),some (.ref f)] LD:=fun hle=>by
      refine(au rfl (au rfl (au rfl (au rfl ⟨dl rfl,fun t4 V8=>?_⟩))))
      have V9:aq LD (upd LD t4 (.tup [.int (y:Int),.int ((t^^m.testBit k).toNat:Int)])):=aq.new V8;have Wa:upd LD t4 (.tup [.int (y:Int),.int ((t^^m.testBit k).toNat:Int)]) t4=some (.tup ((ky y (t^^m.testBit k)).map kV)):=ae;have PY:=HG.go V9;have Wb:=V9 _ _ K5;refine⟨wd,_,rfl,Js.t PY.dt Wa (jj (by lia)),?_⟩
      have Wc:=PY.wait (x:=y) (s:=(t^^m.testBit k)) (d:=(d.1+bx ts k,d.2^^^2^k)) hy Wb;refine⟨_,_,_,_,_,rfl,fun z ys e=>?_,_,_,Wc,dn (Fz:=fun _ _=>False) (SN.put Ue hd0 hk (PU k hk) Cz Uh hle)⟩
      have XF:=V9 _ _ (PX _ _ e);rw[ao (aS XF PY.dt (by intro z;cases z))]
      exact XF
     rcases HG.val y (t^^m.testBit k) with⟨hWn,hvn⟩|⟨d2,c2,XG,hvs,hc2⟩
     ·rw[hvn];refine⟨f,f,_,_,_,_,rfl,rfl,aV.of K5,aV.of K5,_,rfl,lE (fun _=>put fun d' e=>by rw[hWn]at e;cases e) fun z=>absurd ((HT.zh _ _ _ _).mpr (.inr ⟨rfl,Int.le_refl _⟩)) z⟩
     ·rw[hvs];refine⟨f,c2,_,_,_,_,rfl,rfl,aV.of K5,aV.of hc2,_,rfl,lE (fun hl=>?_) (fun hl=>?_)⟩
      ·have hl:=(HT.zh _ _ _ _).mp hl;refine put fun d' e=>?_
       rw[XG]at e;cases e;unfold RM.lx RM.stp;simp only
       lia
      ·have hl:=fun z=>hl ((HT.zh _ _ _ _).mpr z)
       refine⟨_,_,_,_,_,rfl,PX,Ac,W8,HG,dn (Fz:=fun _ _=>False) (SN.skip Ue (PU k hk) (.inr ⟨XG,?_⟩))⟩
       have h6 : ¬ d.1+bx ts k<d2.1:=fun z=>hl (.inl z)
       have h7 : ¬(d.1+bx ts k=d2.1/\((d.2^^^2^k:Nat):Int)<=(d2.2:Int)):=fun z=>hl (.inr z)
       unfold RM.lx RM.stp;simp only
       lia
  ·rintro σ H8 ⟨v8,v9,v10,v11,Ib,rfl,Ug,Ac,W8,PV,SN⟩;refine⟨_,_,_,_,_,_,_,rfl,Ac,F7,W8,PV,SN.all fun k y hk Cz=>?_,hlt⟩
   have hm':=(k1.mem x (k,y)).mpr ⟨hk,Cz⟩;obtain⟨j',hj'⟩:=List.getElem?_of_mem hm';have Wd:=(jQ.mp hj').1;exact⟨j',by rw[List.length_map,V3.length];exact Wd,hj'⟩
def HH:Sp:=fun vs H Q _=>∃ v o,vs=[v]/\wV H o v/\Q (oV (o.map (·.1))) H
abbrev xB(F:RM.OW):Nat->Bool->Option Int:=fun x s=>(F x s).map (·.1)
def Cg:Sp:=fun vs H Q _=>∃(D:Addr) (es:List Addr) (F:RM.OW),vs=[.ref D]/\H D=some (.lst (es.map V.ref))/\es.length<=900/\(∀(i:Nat) b,es[i]?=some b->∃ v0 v1,H b=some (.lst [v0,v1])/\wV H (F i false) v0/\wV H (F i true) v1)/\
 ∀ b ys H',aq H H'->H' b=some (.tup ys)->Paired (jD H') ys (k7 (xB F) es.length)->Q (.ref b) H'
theorem gf:Ok T T.fY 1 HH:=by
 refine T.fY.ok rQ fun _ A _ s H vs Q E hr h=>?_
 ·obtain⟨v,o,rfl,hv,q⟩:=h;refine⟨_,(av (aH (m4 (aL Iu (pv 0) qQ (aO _)) qQ (aI (cz K) (pv 0) aj)))),?_⟩;cases o with
  | none =>
    have hv:v = .fD:=hv;subst hv;exact(au rfl ⟨rfl,au rfl (RB rfl q)⟩)
  | some d =>
    obtain⟨c,rfl,hc⟩:=hv;exact(au rfl ⟨rfl,au rfl (F0 (fun z=>nomatch z) (au rfl (cC (aV.of hc) (ak (j:=0) rfl) (q))))⟩)
theorem iE:Ok T T.iA 2 Cg:=by
 have gf:=gf T;refine T.iA.ok qH fun _ A _ s H vs Q E hr h=>?_
 ·obtain⟨D,es,F,rfl,hD,hl,HJ,q⟩:=h;refine⟨_,(av (aH (cL (EN K) (by rfl) T.uw PyProof.Rows.boot_tuple (aa (bz (own:=["even","odd"]) (fq:=[]) (js:=[]) (aE (ai fb) ["ways"]) rfl (m8 K (pv 0)) (fun _ _ _ _=>(VI K rfl (aP (bf 0 (jS ["even","odd"])) (aP (bf 1 (jS ["even","odd"])) eW)))) (fun _ _ _ _=>bQ) (fun _ _ _ _=>(cP (aa (aF gf hr T.fY.c aJ (aa (pv 0) af)) (aa (aF gf hr T.fY.c aJ (aa (pv 1) af)) af))))) af)))),?_⟩
  refine(au rfl ⟨D,rfl,⟨_,aM.of hD⟩,fun L hL=>aZ (K:=K) (a:=D) (xs:=es.map V.ref) (fun i acc H2=>aq H H2/\H2 L=some (.lst acc)/\Paired (jD H2) acc (k7 (xB F) i)) ⟨aq.new hL,ae,.nil⟩ (fun i acc H2 _ z=>⟨aM.of (z.1 _ _ hD),z.2.1,by rw[z.2.2.length,zd];exact Nat.le_refl _⟩) (dl (Nat.ble_eq.mpr (by rw[List.length_map];lia))) ?_ ?_⟩)
  ·rintro i x acc H2 hx ⟨s2,M7,pr⟩;obtain⟨b,hb,rfl⟩:∃ b,es[i]?=some b/\x = .ref b:=by
    rw[List.getElem?_map]at hx;obtain⟨b,h1,h2⟩:=wH.mp hx;exact⟨b,h1,h2.symm⟩
   obtain⟨v0,v1,hv,w0,w1⟩:=HJ i b hb;refine⟨b,v0,v1,rfl,aM.of (s2 _ _ hv),_,_,rfl,_,_,rfl,rfl,rfl,au rfl ⟨v0,_,rfl,w0.tups s2.tups,_,rfl,v1,_,rfl,w1.tups s2.tups,dl rfl,fun t ht=>?_⟩⟩
   have s3:aq H2 (upd H2 t (.tup [oV (xB F i false),oV (xB F i true)])):=aq.new ht;have tL:t≠L:=fun z=>by rw[z,M7]at ht;cases ht
   have Sa:H L=none:=hL;refine⟨s3 _ _ M7,(s2.trans s3).put Sa,ae,?_⟩;rw[JK];have keep:∀ z pr,jD H2 z pr->jD (upd (upd H2 t (.tup [oV (xB F i false),oV (xB F i true)])) L (.lst (acc++[.ref t]))) z pr:=fun z pr ⟨b,e,hb⟩=>⟨b,e,by rw[ao (aS hb M7 (by intro z;cases z))];exact s3 _ _ hb⟩
   exact Paired.snoc (Paired.imp' (fun _ _ z=>keep _ _ z) pr) ⟨t,rfl,by rw[ao tL,ae]⟩
  ·rintro acc H2 ⟨s2,M7,pr⟩;rw[List.length_map]at pr;refine⟨L,_,rfl,.inl ⟨aM.of M7,fun l hl=>?_⟩⟩
   exact q l acc _ (s2.trans (aq.new hl)) ae (Paired.imp' (fun _ _ ⟨b,e,hb⟩=>⟨b,e,aq.new hl _ _ hb⟩) pr)
theorem kP.same{p:Nat}{N:RM.Net}{L:Nat->Int}{m u:Nat}{D:Addr}{F:RM.OW}{H0 H H' : Hp}(h:kP p N L m u D F H0 H)(s:aq H H'):kP p N L m u D F H0 H':=by
 obtain⟨es,e1,e2,e3,e4,e5,e6⟩:=h;exact⟨es,e1,s _ _ e2,fun i b hb=>let⟨v0,v1,q1,q2,q3⟩:=e3 i b hb;⟨v0,v1,s _ _ q1,q2.tups s.tups,q3.tups s.tups⟩,e4,e5,e6⟩
theorem kP.put{p:Nat}{N:RM.Net}{L:Nat->Int}{m u:Nat}{D X:Addr}{F:RM.OW}{H0 H:Hp}{xs ys:List V}(h:kP p N L m u D F H0 H)(hD:H0 D=none)(hX:H X=some (.lst xs))(hX0:∃ o,H0 X=some o):kP p N L m u D F H0 (upd H X (.lst ys)):=by
 obtain⟨es,e1,e2,e3,e4,e5,e6⟩:=h;obtain⟨o,ho⟩:=hX0;have ne:∀ b,H0 b=none->b≠X:=fun b hb z=>by rw[z,ho]at hb;cases hb
 have tp:dG H (upd H X (.lst ys)):=dG.put hX;refine⟨es,e1,by rw[ao (ne D hD)];exact e2,fun i b hb=>?_,e4,e5,e6⟩
 obtain⟨v0,v1,q1,q2,q3⟩:=e3 i b hb;exact⟨v0,v1,by rw[ao (ne b (e6.1 b (iT hb)))];exact q1,q2.tups tp,q3.tups tp⟩
def FA(p:Nat)(N:RM.Net)(L:Nat->Int)(m i:Nat)(ds:List Addr)(Fs:Nat->RM.OW)(H:Hp):Prop:=ds.length=i/\∀(j:Nat) d,ds[j]?=some d->∃ H0,kP p N L m j d (Fs j) H0 H
def Ci(t:Addr)(lp:Pos):Sp:=fun vs H Q _=>∃ w p ts,∃ g:aC p ts,∃ m:Nat,vs=[.ref w,.int (m:Int)]/\aY H w p ts/\m<2^ts.length/\H t=some (.ju (eI (nu "least_ways") lp))/\
 ∀ D ds Fs H',H D=none->aq H H'->H' D=some (.lst (ds.map V.ref))->FA p g.N (bx ts) m p ds Fs H'->Q (.ref D) H'
theorem cN:Ok T T.fh 6 (Ci a.cZ cK):=by
 have mH:=mH T;refine T.fh.ok qI fun _ A _ s H vs Q E hr h=>?_
 ·obtain⟨wb,p,ts,g,m,rfl,hw,hm,htb,q⟩:=h;refine⟨_,(av (aH (bz (own:=["start"]) (fq:=["web","marks"]) (js:=[0,1]) (aE (ai fc) ["web","marks"]) rfl (bL (by rfl) T.cj (aa (aI (cz K) (pv 0) aj) af)) (fun _ _ _ _=>(bf 0 (jS ["start","web","marks"]))) (fun _ _ _ _=>bQ) (fun _ _ _ _=>(aF mH hr T.jg.c aJ (aa (pv 1) (aa (pv 2) (aa (pv 0) af)))))))),?_⟩
  obtain⟨bt,xs,h1,h2,h3⟩:=id hw.ex;have wp:=g.p2;refine(au rfl (cC (aV.of h1) (ak (j:=0) rfl) (au rfl ⟨(by lia),(by lia),fun D hD=>ck (lo:=0) (m:=(p:Int).toNat) (fun i acc H2=>aq H H2/\H2 D=some (.lst acc)/\∃ ds Fs,acc=ds.map V.ref/\ds.length=i/\∀(j:Nat) d,ds[j]?=some d->∃ H0,kP p g.N (bx ts) m j d (Fs j) H0 H2/\H0 d=none/\∃ o,H0 D=some o) ⟨aq.new hD,ae,[],fun _ _ _=>none,rfl,rfl,fun j d e=>by cases e⟩ (fun i acc H2 _ ⟨_,z,ds,_,e,l,_⟩=>⟨z,by rw[e,List.length_map];lia⟩) (dl (Nat.ble_eq.mpr (by lia))) ?_ ?_⟩)))
  ·rintro i acc H2 hi ⟨s2,iV,ds,Fs,rfl,hl,all⟩;rw[Int.toNat_natCast]at hi;rw[Int.zero_add];refine⟨rfl,au rfl (au rfl (au rfl ⟨wb,p,ts,g,m,i,rfl,hw.same s2,hm,hi,s2 _ _ htb,fun d F H3 hd s3 wa=>?_⟩))⟩
   have qU:=s3 _ _ iV;refine⟨qU,(s2.trans s3).put hD,ae,ds++[d],fun j=>if j=i then F else Fs j,by simp,by simp[hl],fun j d' e=>?_⟩
   by_cases ej:j<ds.length
   ·rw[List.getElem?_append_left ej]at e;obtain⟨H0,w0,n0,o0⟩:=all j d' e;dsimp only;rw[if_neg (show ¬ j=i by lia)]
    exact⟨H0,(w0.same s3).put n0 qU o0,n0,o0⟩
   ·rw[List.getElem?_append_right (by lia)]at e
    have hj:j=i:=by
     have:=(jQ.mp e).1;simp at this
     lia
    subst hj;rw[hl,Nat.sub_self]at e;have e:d=d':=by simpa using e
    subst e;dsimp only;rw[if_pos rfl];exact⟨H2,wa.put hd qU ⟨_,iV⟩,hd,_,iV⟩
  ·rintro acc H2 ⟨s2,iV,ds,Fs,rfl,hl,all⟩;rw[Int.toNat_natCast]at hl;exact q D ds Fs H2 hD s2 iV ⟨hl,fun j d e=>let⟨H0,w0,_⟩:=all j d e;⟨H0,w0⟩⟩
def Ad:Sp:=fun vs H Q _=>∃(D:Addr) (ds:List Addr) (Fs:Nat->RM.OW),∃ p N L m,vs=[.ref D]/\H D=some (.lst (ds.map V.ref))/\p<=900/\FA p N L m p ds Fs H/\
 ∀ b H',aq H H'->jE H' b ((List.range p).map fun i=>k7 (xB (Fs i)) p)->Q (.ref b) H'
theorem cU:Ok T T.fZ 3 Ad:=by
 have iE:=iE T;refine T.fZ.ok rR fun _ A _ s H vs Q E hr h=>?_
 ·obtain⟨D,ds,Fs,p,N,L,m,rfl,hD,hp,⟨hl,all⟩,q⟩:=h;refine⟨_,(av (aH (cL (EN K) (by rfl) T.uw PyProof.Rows.boot_tuple (aa (bz (own:=["from_point"]) (fq:=[]) (js:=[]) (aE (ai fV) ["ways"]) rfl (m8 K (pv 0)) (fun _ _ _ _=>(bf 0 (jS ["from_point"]))) (fun _ _ _ _=>bQ) (fun _ _ _ _=>(aF iE hr T.iA.c aJ (aa (pv 0) af)))) af)))),?_⟩
  refine(au rfl ⟨D,rfl,⟨_,aM.of hD⟩,fun X hX=>aZ (K:=K) (a:=D) (xs:=ds.map V.ref) (fun i acc H2=>aq H H2/\H2 X=some (.lst acc)/\Paired (RowW H2) acc ((List.range i).map fun i=>k7 (xB (Fs i)) p)) ⟨aq.new hX,ae,.nil⟩ (fun i acc H2 _ z=>⟨aM.of (z.1 _ _ hD),z.2.1,by rw[z.2.2.length,List.length_map,List.length_range];exact Nat.le_refl _⟩) (dl (Nat.ble_eq.mpr (by rw[List.length_map];lia))) ?_ ?_⟩)
  ·rintro i x acc H2 hx ⟨s2,hX2,pr⟩;obtain⟨d,hd,rfl⟩:∃ d,ds[i]?=some d/\x = .ref d:=by
    rw[List.getElem?_map]at hx;obtain⟨b,h1,h2⟩:=wH.mp hx;exact⟨b,h1,h2.symm⟩
   obtain⟨H0,wa⟩:=all i d hd;obtain⟨es,e1,e2,e3,_⟩:=wa.same s2;refine⟨rfl,au rfl ⟨d,es,Fs i,rfl,e2,(by lia),e3,fun b ys H3 s3 hb QH=>?_⟩⟩
   have lB:=s3 _ _ hX2;refine⟨lB,(s2.trans s3).put hX,ae,?_⟩;rw[List.range_succ,List.map_append,e1]at *;exact Paired.snoc (Paired.imp' (fun _ _ z=>z.tups (s3.tups.trans (dG.put lB))) pr) (RowW.tups (dG.put lB) ⟨b,ys,rfl,hb,QH⟩)
  ·rintro acc H2 ⟨s2,hX2,pr⟩;rw[List.length_map,hl]at pr;refine⟨X,_,rfl,.inl ⟨aM.of hX2,fun l hl=>?_⟩⟩
   exact q l _ (s2.trans (aq.new hl)) ⟨acc,ae,Paired.imp' (fun _ _ z=>z.same (aq.new hl)) pr⟩
theorem SR{x y:V}{A B:Prop}(h:x≠y)(ha:A):if(!decide (x=y))=true then A else B:=by
 rw[c7 h];exact eF ha
def M8(p:Nat)(ts:List c6)(g:aC p ts)(m:Nat)(H H' : Hp)(t:Addr):Prop :=
 ((∀ x z,x<p->¬ RM.Wy g.N (bx ts) m x x true z)/\m=g.N.cut (fun x=>decide (x∈tH p ts g m))/\∃ l,H l=none/\H' t=some (.tup [.str "side",.ref l])/\H' l=some (.lst (ay (tH p ts g m))))\/
 ∃(z:Int) (e:Nat) (b:Addr) (W:List (List Pr)),RM.Lo g.N (bx ts) m z e/\RM.vH g.N (bx ts) m z e/\H' t=some (.tup [.str "ring",.int (e:Int),.ref b])/\jE H' b W/\W.length=p/\(∀ R∈W,R.length=p)/\Fe p ts g m W
def Ae(C t:Addr)(lp:Pos):Sp:=fun vs H Q E=>∃ w p ts,∃ g:aC p ts,∃ S,vs=[.ref w,.int S]/\aY H w p ts/\H t=some (.ju (eI (nu "least_ways") lp))/\nN ts S (E (.ref C) none H) fun m=>∀ r H',H r=none->aq H H'->M8 p ts g m H H' r->Q (.ref r) H'
def wu(H:Hp)(v:V)(d:Int×Nat):Prop:=∃ c,v = .ref c/\H c=some (.tup [.int d.1,.int (d.2:Int)])
theorem wu.tups{H H' : Hp}{v:V}{d:Int×Nat}(h:wu H v d)(s:dG H H'):wu H' v d:=let⟨c,e,q⟩:=h;⟨c,e,s _ _ q⟩
def pQ(d:Int×Nat):PyData:=.tuple [.int d.1,.int (d.2:Int)]
theorem Cj{K:bW}{H:Hp}:∀{ys:List V} {R:List (Int×Nat)},Paired (wu H) ys R->DatVs K H ys (R.map pQ)
 | _,_,.nil=>.nil
 | _,_,.cons h r=>by
   obtain⟨b,rfl,hb⟩:=h;exact .cons (.tup (aV.of hb) (.cons (.int _) (.cons (.int _) .nil))) (Cj r)
theorem K6:∀ l:List (Int×Nat),PyData.eqv (.list (l.map pQ)) (.list [])=decide (l=[])
 | []=>rfl
 | _::_=>rfl
theorem Ck:∀ R:List (Int×Nat),PyData.canLayAll0 (R.map pQ)=true
 | []=>rfl
 | q::r=>by
   have ih:=Ck r;have e:(pQ q).canLay0=true:=by simp[pQ,PyData.canLay0,PyData.canLayAll0]
   simp only[List.map_cons,PyData.canLayAll0,ih,Bool.and_true,e]
theorem yE:∀ R:List (Int×Nat),PyData.depthAll (R.map pQ)<=1
 | []=>Nat.zero_le _
 | q::r=>by
   have ih:=yE r;show max (PyData.depth (pQ q)) (PyData.depthAll (r.map pQ))<=1;have e:PyData.depth (pQ q)=1:=by simp[pQ,PyData.depth,PyData.depthAll]
   lia
theorem yF{H:Hp}:∀{ys:List V} {R:List (Int×Nat)},Paired (wu H) ys R->∃ cs:List Addr,ys=cs.map V.ref/\Paired (fun(c:Addr) (d:Int×Nat)=>H c=some (.tup [.int d.1,.int (d.2:Int)])) cs R
 | _,_,.nil=>⟨[],rfl,.nil⟩
 | _,_,.cons h r=>by
   obtain⟨b,rfl,hb⟩:=h;obtain⟨cs,rfl,pr⟩:=yF r;exact⟨b::cs,rfl,.cons hb pr⟩
theorem Cm(R:List (Int×Nat)):SeqAt.shaped (.list (R.map pQ))=true:=by
 unfold SeqAt.shaped;have e:(PyData.list (R.map pQ)).canLay0=PyData.canLayAll0 (R.map pQ):=by simp[PyData.canLay0]
 rw[e,Ck,Bool.true_and];refine cD ?_;have h:=yE R;have e2:PyData.depth (PyData.list (R.map pQ))=PyData.depthAll (R.map pQ)+1:=by simp[PyData.depth]
 rw[e2]
 lia
theorem zl{a b:Int×Nat}(h:HT.lexLt [a.1,(a.2:Int)] [b.1,(b.2:Int)]=false):RM.lx b a:=by
 rw[HT.g8]at h;unfold RM.lx
 by_cases e:a.1=b.1
 ·rw[if_pos e,HT.g8]at h;refine .inr ⟨e.symm,?_⟩
  by_cases e2:(a.2:Int)=(b.2:Int)
  ·lia
  ·rw[if_neg e2]at h;have:=of_decide_eq_false h
   lia
 ·rw[if_neg e]at h;have:=of_decide_eq_false h;exact .inl (by lia)
theorem nR:Ea T T.nK 7 (Ae a.dD a.cZ cK):=by
 have c5:=c5 T;have cN:=cN T;have cU:=cU T;have sO:=sO T;refine T.nK.AE lU fun _ A _ s H vs Q E hr h=>?_
 ·obtain⟨wb,p,ts,g,S,rfl,hw,htb,q⟩:=h;refine⟨_,(ah (cR (aF c5 hr T.iP.c dm.passes (aa (pv 0) (aa (pv 1) af))))
   (ah (aG (i:=2) lU.nd rfl (Or.inr rfl) (aF cN hr T.fh.c aJ (aa (pv 0) (aa (pv 1) af))))
   (ah (iF (i:=3) lU.nd rfl rfl (own:=["point"]) (fq:=["ways"]) (js:=[2]) (aE (ai kh) ["web","marks","ways","rounds"]) rfl (bL (by rfl) T.cj (aa (aI (cz K) (pv 0) aj) af)) (fun _ _ _ _=>(bf 0 (jS ["point","ways"]))) (fun _ _ _ _=>(eN (aL LS (aI (jR K) (aI (jR K) (aI (jR K) (pv 1) (pv 0)) (pv 0)) aj) qQ (aO _)))) (fun _ _ _ _=>(aI (jR K) (aI (jR K) (aI (jR K) (pv 1) (pv 0)) (pv 0)) aj)))
   (ah (b7 (aL (IK K hr.units) (pv 3) (dQ af) (aO _)) (av (aH (aF sO hr T.sF.c dm.passes (aa (pv 0) (aa (pv 1) af))))) aW)
   (av (aH (cP (aa fF (aa (aI (cz K) (cW (VJ hr.hd hr.in1.CS) (by rfl) T.Fy PyProof.Rows.boot_min (aa (pv 3) af)) aj) (aa (aF cU hr T.fZ.c aJ (aa (pv 2) af)) af)))))))))),?_⟩
  refine zz ?_;intro cg cS dJ fE gO;obtain⟨bt,xs,h1,h2,h3⟩:=id hw.ex;have wp:=g.p2;have W:=g.F5;rcases q with⟨m,rfl,hm,q⟩|⟨hS,q⟩
  case inr=>exact(au rfl (au rfl ⟨wb,p,ts,_,rfl,hw,W,.inr ⟨hS,q⟩⟩))
  refine(au rfl (au rfl ⟨wb,p,ts,_,rfl,hw,W,.inl ⟨m,rfl,hm,?_⟩⟩));refine(au rfl (au rfl ⟨wb,p,ts,g,m,rfl,hw,hm,htb,fun D ds Fs H1 hD s1 tO al=>?_⟩))
  obtain⟨hl,all⟩:=id al;have HJ:∀ i,i<p->∃ d H0,ds[i]?=some d/\kP p g.N (bx ts) m i d (Fs i) H0 H1:=fun i hi=>by
   have e:ds[i]?=some ds[i]:=List.getElem?_eq_getElem (by lia)
   obtain⟨H0,h0⟩:=all i _ e;exact⟨_,H0,e,h0⟩
  refine(au rfl (cC (aV.of (s1 _ _ h1)) (ak (j:=0) rfl) (au rfl ⟨(by lia),(by lia),fun X hX=>ck (lo:=0) (m:=(p:Int).toNat) (fun i acc H2=>aq H1 H2/\H2 X=some (.lst acc)/\Paired (wu H2) acc ((List.range i).filterMap fun j=>Fs j j true)) ⟨aq.new hX,ae,.nil⟩ (fun i acc H2 _ z=>⟨z.2.1,by rw[z.2.2.length];exact Nat.le_trans (List.length_filterMap_le ..) (by simp)⟩) (dl (Nat.ble_eq.mpr (by lia))) ?_ ?_⟩)))
  ·rintro i acc H2 hi ⟨s2,hX2,pr⟩;rw[Int.toNat_natCast]at hi;rw[Int.zero_add];obtain⟨d,H0,hd,es,e1,e2,e3,_⟩:=HJ i hi;have hei:es[i]?=some es[i]:=List.getElem?_eq_getElem (by lia)
   obtain⟨v0,v1,hv,w0,w1⟩:=e3 i _ hei;have fm:(List.range (i+1)).filterMap (fun j=>Fs j j true)=(List.range i).filterMap (fun j=>Fs j j true)++(Fs i i true).toList:=by
    rw[List.range_succ,List.filterMap_append];cases hF:Fs i i true<;>simp[hF]
   rw[fm];have XH:(ds.map V.ref)[i]?=some (.ref d):=by rw[List.getElem?_map,hd];rfl
   have hdi:(es.map V.ref)[i]?=some (.ref es[i]):=by rw[List.getElem?_map,hei];rfl
   refine⟨rfl,au rfl (au rfl (jM (aM.of (s2 _ _ tO)) (ak (j:=i) XH) (au rfl (jM (aM.of (s2 _ _ e2)) (ak (j:=i) hdi) (jM (aM.of (s2 _ _ hv)) (ak (j:=1) rfl) ⟨rfl,au rfl (?_)⟩)))))⟩;cases hF:Fs i i true with
   | none =>
     rw[hF]at w1;have w1:v1 = .fD:=w1;subst w1;refine Np rfl ⟨s2,hX2,?_⟩;rw[show(none:Option (Int×Nat)).toList=[] from rfl,List.append_nil]
     exact pr
   | some dd =>
     rw[hF]at w1;obtain⟨c,rfl,hc⟩:=w1;refine SR (fun z=>nomatch z) (au rfl (au rfl (jM (aM.of (s2 _ _ tO)) (ak (j:=i) XH) (au rfl (jM (aM.of (s2 _ _ e2)) (ak (j:=i) hdi) (jM (aM.of (s2 _ _ hv)) (ak (j:=1) rfl) ⟨hX2,s2.put hX,ae,?_⟩))))))
     have tp:dG H2 (upd H2 X (.lst (acc++[.ref c]))):=dG.put hX2;exact Paired.snoc (Paired.imp' (fun _ _ z=>z.tups tp) pr) ⟨c,rfl,tp _ _ (s2 _ _ hc)⟩
  ·rintro acc H2 ⟨s2,hX2,pr⟩;rw[Int.toNat_natCast]at pr;generalize hR:(List.range p).filterMap (fun j=>Fs j j true)=R at pr
   have s12:=s1.trans s2;have PU:∀ k,k<g.N.n->0<bx ts k:=fun k hk=>by
    have:=(g.yU _ (gv hk)).l0;unfold bx
    lia
   have inR:∀ j d,j<p->Fs j j true=some d->d∈R:=fun j d hj hd=>by
    rw[<-hR];exact List.mem_filterMap.mpr ⟨j,List.mem_range.mpr hj,hd⟩
   have ofR:∀ d,d∈R->∃ j,j<p/\Fs j j true=some d:=fun d hd=>by
    rw[<-hR]at hd;obtain⟨j,hj,e⟩:=List.mem_filterMap.mp hd;exact⟨j,List.mem_range.mp hj,e⟩
   have best:∀ i,i<p->∀ x s,RM.Gy g.N (bx ts) m i x s ((Fs i x s).map (·.1)):=fun i hi=>by
    obtain⟨d,H0,hd,es,e1,e2,e3,e4,_⟩:=HJ i hi;exact e4
   refine(au rfl ⟨dl rfl,fun l0 EK=>⟨_,_,.lst (aM.of (aq.new EK _ _ hX2)) (Cj (Paired.imp' (fun _ _ z=>z.tups (aq.new EK).tups) pr)),.lst (aM.of ae) .nil,Cm _,rfl,au rfl (?_)⟩⟩)
   rw[K6];have s3:=s12.trans (aq.new (o:=.lst []) EK);have NW:=s2.trans (aq.new (o:=.lst []) EK);have lB:=aq.new (o:=.lst []) EK _ _ hX2;have QH:=Paired.imp' (fun _ _ z=>wu.tups z (aq.new (o:=.lst []) EK).tups) pr
   clear hX2 pr;generalize upd H2 l0 (.lst [])=H3 at s3 NW lB QH
   by_cases hne:R=[]
   ·rw[cD hne];have no:∀ x z,x<p->¬ RM.Wy g.N (bx ts) m x x true z:=fun x z hx hw=>by
     have b:=best x hx x true;cases hF:Fs x x true with
     | none=>rw[hF]at b;exact b z hw
     | some d=>have:=inR x d hx hF;rw[hne]at this;cases this
    refine eF (au rfl (au rfl ⟨wb,p,ts,g,_,rfl,hw.same s3,.inl ⟨m,rfl,hm,fun t H4 ht s4 told=>?_⟩⟩))
    refine q t H4 (s3.free ht) (s3.trans s4) (.inl ⟨no,?_⟩);rcases told with⟨h0,l,hl,V8,XI⟩|⟨c,hc,hp,_⟩
    ·exact⟨h0,l,s3.free hl,V8,XI⟩
    ·obtain⟨c1,c2⟩:=RM.br.mp hc;rw[RM.Ke (fun k hk=>Int.le_of_lt (PU k hk)) no (RM.rC c1 c2) (RM.n6 c1)]at hp
     cases hp
   ·rw[c7 hne];obtain⟨cs,rfl,XJ⟩:=yF QH;have csl:=XJ.length;have hpos:0<cs.length:=by
     have:=List.length_pos_iff.mpr hne
     lia
    have hcs:∀(i:Nat) c,cs[i]?=some c->∃ d,R[i]?=some d/\H3 c=some (.tup [.int d.1,.int (d.2:Int)]):=fun i c hc=>Paired.qf XJ hc
    refine cE (au rfl ⟨X,cs,fun i=>[(R.getD i (0,0)).1,((R.getD i (0,0)).2:Int)],rfl,aM.of lB,hpos,fun i c hc=>?_,fun i c hc hmin=>?_⟩)
    ·obtain⟨d,hd,h⟩:=hcs i c hc;have e:R.getD i (0,0)=d:=by rw[List.getD_eq_getElem?_getD,hd];rfl
     dsimp only;rw[e];exact aV.of h
    obtain⟨d,hd,hcd⟩:=hcs i c hc;obtain⟨u,hu,XM⟩:=ofR d (iT hd);have hlx:∀ j d',j<p->Fs j j true=some d'->RM.lx d d':=fun j d' hj hF=>by
     obtain⟨i',hi'⟩:=List.getElem?_of_mem (inR j d' hj hF);have hlt:i'<cs.length:=by
      have:=(jQ.mp hi').1
      lia
     have hm2:=hmin i' hlt;have e:R.getD i (0,0)=d:=by rw[List.getD_eq_getElem?_getD,hd];rfl
     have e' : R.getD i' (0,0)=d':=by rw[List.getD_eq_getElem?_getD,hi'];rfl
     dsimp only at hm2;rw[e,e']at hm2;exact zl hm2
    have hmn:∀ x z',x<p->RM.Wy g.N (bx ts) m x x true z'->d.1<=z':=fun x z' hx hw=>by
     have b:=best x hx x true;cases hF:Fs x x true with
     | none=>rw[hF]at b;exact absurd hw (b z')
     | some d' =>
       rw[hF]at b;have h1:d'.1<=z':=b.2 z' hw;have h2:=hlx x d' hx hF;unfold RM.lx at h2
       lia
    obtain⟨_,_,_,es,_,_,_,_,wz,_,_⟩:=HJ u hu;have XN:=wz u true d XM;obtain⟨r1,r2,r3,r4⟩:=RM.Dz PU (show u<g.N.p from hu) XN hmn
    refine(cC (aV.of hcd) (ak (j:=1) rfl) (au rfl ⟨D,ds,Fs,p,g.N,bx ts,m,rfl,NW _ _ tO,(by lia),⟨hl,fun j d e=>let⟨H0,w0⟩:=all j d e;⟨H0,w0.same NW⟩⟩,fun b H4 s4 hW=>⟨dl rfl,fun t ht=>?_⟩⟩))
    have s5:aq H4 (upd H4 t (.tup [.str "ring",.int (d.2:Int),.ref b])):=aq.new ht;refine q t _ ((s3.trans s4).free ht) ((s3.trans s4).trans s5) (.inr ⟨d.1,d.2,b,_,⟨Fs,fun i hi=>?_,⟨u,hu,XM⟩,hlx⟩,⟨r1,r2,r3,r4,⟨u,hu,?_⟩,hmn⟩,ae,hW.same s5,by rw[List.length_map,List.length_range],fun R hR=>?_,fun i hi x s hx=>?_⟩)
    ·obtain⟨_,_,_,_,_,_,_,_,_,_,fx⟩:=HJ i hi;exact fx
    ·obtain⟨pre,w0⟩:=XN;exact⟨pre,_,w0⟩
    ·obtain⟨i,_,rfl⟩:=List.mem_map.mp hR;exact zd _ _
    ·rw[List.getD_eq_getElem?_getD,List.getElem?_map,List.getElem?_range hi];show RM.Gy _ _ m i x s (sel (Jx (k7 (xB (Fs i)) p) x) s);rw[JJ hx];exact best i hi x s
def Ek:Sp:=fun vs H Q _=>∃(l:Addr) (rows:List RM.Row3) (x:Nat),vs=[.ref l,.int (x:Int)]/\gH H l rows/\∀ c H',aq H H'->H' c=some (.tup [.int (((RM.bA rows x 0).1:Nat):Int),.int (((RM.bA rows x 0).2:Nat):Int)])->Q (.ref c) H'
def Cn:Sp:=fun vs H Q _=>∃(l b:Addr) (rows:List RM.Row3) (a:RM.Row3),vs=[.ref l,.ref b]/\gH H l rows/\H b=some (.tup (tw a))/\rows.length<=200/\∀ l' H',aq H H'->gH H' l' (RM.wQ rows a)->Q (.ref l') H'
def El:Sp:=fun vs H Q _=>∃(l:Addr) (B:List Nat),vs=[.ref l]/\H l=some (.lst (ay B))/\B.length<=200/\∀ l' rows H',aq H H'->gH H' l' rows->RM.Rw B rows->rows=RM.gM B B.length->Q (.ref l') H'
def NX(p:Nat)(ts:List c6)(g:aC p ts)(zs:List Int):Prop:=∃ rs:List Nat,zs=rs.map (fun x=>((x:Nat):Int))/\RM.Base g.N rs
def Em:Sp:=fun vs H Q _=>∃ w p ts,∃ g:aC p ts,∃(l:Addr) (zs:List Int),vs=[.ref w,.ref l]/\aY H w p ts/\H l=some (.lst (zs.map V.int))/\zs.length<=200/\∀ H' (d:Bool),aq H H'->(d=true↔NX p ts g zs)->Q (.bl d) H'
theorem cast_inj{xs ys:List Nat}(e:xs.map (fun x=>((x:Nat):Int))=ys.map fun x=>((x:Nat):Int)):xs=ys:=by
 have:=congrArg (List.map Int.toNat) e;rw[List.map_map,List.map_map]at this;have h1:(Int.toNat∘fun x=>((x:Nat):Int))=id:=funext fun x=>rfl
 rw[h1,List.map_id,List.map_id]at this;exact this
theorem SS{x y:V}{A B:Prop}(h:x≠y)(ha:A):if(!decide (x=y))=true then A else B:=by
 rw[c7 h];exact eF ha
theorem cO:Ok T T.iB 2 Ek:=by
 have bF:=bF T;refine T.iB.ok eT fun _ A _ s H vs Q E hr h=>?_
 ·obtain⟨l,rows,x,rfl,hR,q⟩:=h;refine⟨_,(ah (aG (i:=2) eT.nd rfl (Or.inl rfl) (pv 1))
   (ah (aG (i:=3) eT.nd rfl (Or.inl rfl) aj)
   (ah (eE PassesOwn.never rfl (m8 K (pv 0)) (HY K (n:=3) rfl (aP (bf 4 eT.nd) (aP (bf 5 eT.nd) (aP (bf 6 eT.nd) eW))))
   (av (b7 (c9 (aF bF hr T.gz.c aJ (aa (pv 2) (aa (pv 4) af)))) (ah (uC (i:=2) eT.nd rfl (Or.inl rfl) (pv 5) EA)
   (av (uC (i:=3) eT.nd rfl (Or.inl rfl) (pv 6) EA))) aW)))
   (av (aH (cP (aa (pv 2) (aa (pv 3) af)))))))),?_⟩
  refine DM ?_;intro cg cS dJ fE gO o4;obtain⟨xs,hl,pr⟩:=id hR;refine(au rfl (au rfl ⟨l,rfl,⟨_,aM.of hl⟩,cT (K:=K) (a:=l) (xs:=xs) (fun i σ H2=>∃ v4 v5 v6,σ=[some (.ref l),some (.int (x:Int)),some (.int (((RM.bA (rows.take i) x 0).1:Nat):Int)),some (.int (((RM.bA (rows.take i) x 0).2:Nat):Int)),v4,v5,v6]/\H2=H) ⟨none,none,none,rfl,rfl⟩ (fun i σ H2 _ ⟨_,_,_,_,z⟩=>by rw[z];exact aM.of hl) ?_ ?_⟩))
  ·rintro i y D' σ H2 hi ⟨v4,v5,v6,rfl,rfl⟩;obtain⟨qq,hq,b,rfl,hb⟩:=Paired.qf pr hi;refine⟨b,_,rfl,aV.of hb,rfl,_,_,rfl,_,_,rfl,_,_,rfl,rfl,?_⟩;refine(au rfl (au rfl ⟨_,qq.1,rfl,au rfl (?_)⟩));rw[eX];have e3:=GA (rows.take i) qq x 0;rw[<-take3 hq]at e3;cases ni:(RM.bA (rows.take i) x 0).1.testBit qq.1 with
   | true =>
     rw[ni,if_pos rfl]at e3;refine eF (au rfl (au rfl (cy (au rfl (au rfl (cy ⟨some (.int (qq.1:Int)),some (.int (qq.2.1:Int)),some (.int (qq.2.2:Int)),?_,rfl⟩))))));rw[e3];show[_,_,some (V.int (Builtin.bitXor _ _)),some (V.int (Builtin.bitXor _ _)),_,_,_]=_;rw[xor_int,xor_int]
   | false =>
     rw[ni,if_neg (by decide)]at e3
     refine cE ⟨some (.int (qq.1:Int)),some (.int (qq.2.1:Int)),some (.int (qq.2.2:Int)),?_,rfl⟩;rw[e3];rfl
  ·rintro σ H2 ⟨v4,v5,v6,rfl,rfl⟩;rw[pr.length,List.take_length];exact(au rfl (au rfl ⟨dl rfl,fun c hc=>q c _ (aq.new hc) ae⟩))
theorem pR:Ok T T.pM 2 Cn:=by
 have bF:=bF T;refine T.pM.ok nC fun _ A _ s H vs Q E hr h=>?_
 ·obtain⟨l,b,rows,ad,rfl,hR,hb,hlen,q⟩:=h;refine⟨_,(ah (aG (i:=2) nC.nd rfl (Or.inl rfl) (dQ (aa (pv 1) af)))
   (ah (eE PassesOwn.never rfl (m8 K (pv 0)) (bf 3 nC.nd)
   (av (b7 (c9 (aF bF hr T.gz.c aJ (aa (aI (cz K) (pv 3) aj) (aa (aI (cz K) (pv 1) aj) af)))) (av (cR (Kv K (m7 PySem.F.plainAttrs_list PySem.F.slot_list_append PySem.F.type_list_append dc (pv 2) (aa (cP (aa (aI (cz K) (pv 3) aj) (aa (aK gi (aI (cz K) (pv 3) aj) (aI (cz K) (pv 1) aj)) (aa (aK gi (aI (cz K) (pv 3) aj) (aI (cz K) (pv 1) aj)) af)))) af))))) (av (cR (Kv K (m7 PySem.F.plainAttrs_list PySem.F.slot_list_append PySem.F.type_list_append dc (pv 2) (aa (pv 3) af))))))))
   (av (aH (pv 2))))),?_⟩
  refine BG ?_;intro cg cS dJ fE gO;obtain⟨xs,hl,pr⟩:=id hR;have xsl:=pr.length;refine(au rfl ⟨dl rfl,fun D hD=>?_⟩)
  have s1:aq H (upd H D (.lst [.ref b])):=aq.new hD;have tO:upd H D (.lst [.ref b]) D=some (.lst [.ref b]):=ae;generalize upd H D (.lst [.ref b])=H1 at s1 tO;refine(au rfl ⟨l,rfl,⟨_,aM.of (s1 _ _ hl)⟩,cT (K:=K) (a:=l) (xs:=xs) (fun i σ H2=>∃ v3 acc,σ=[some (.ref l),some (.ref b),some (.ref D),v3]/\aq H H2/\H2 D=some (.lst acc)/\acc.length=i+1/\Paired (vy H2) acc (RM.wQ (rows.take i) ad)) ⟨none,_,rfl,s1,tO,rfl,.cons ⟨b,rfl,s1 _ _ hb⟩ .nil⟩ (fun i σ H2 _ ⟨_,_,_,z,_⟩=>aM.of (z _ _ hl)) ?_ ?_⟩)
  ·rintro i y D' σ H2 hi ⟨v3,acc,rfl,s2,iV,al,SV⟩;obtain⟨qq,hq,c,rfl,hc⟩:=Paired.qf pr hi;have A5:=(jQ.mp hi).1;have hc2:=s2 _ _ hc;have KY:=s2 _ _ hb;have put:RM.wQ (rows.take (i+1)) ad=RM.wQ (rows.take i) ad++[if qq.2.1.testBit ad.1=true then(qq.1,qq.2.1^^^ad.2.1,qq.2.2^^^ad.2.2) else qq]:=by
    unfold RM.wQ;rw[take3 hq,List.map_append];rfl
   refine(au rfl (cC (aV.of hc2) (ak (j:=1) rfl) (au rfl (cC (aV.of KY) (ak (j:=0) rfl) ⟨_,ad.1,rfl,au rfl (?_)⟩))));rw[eX];cases ni:qq.2.1.testBit ad.1 with
   | true =>
     rw[ni,if_pos rfl]at put;refine eF (au rfl ⟨.inl ⟨rfl,_,aM.of iV⟩,au rfl (cC (aV.of hc2) (ak (j:=0) rfl) (au rfl (cC (aV.of hc2) (ak (j:=1) rfl) (au rfl (cC (aV.of KY) (ak (j:=1) rfl) (cy (au rfl (cC (aV.of hc2) (ak (j:=2) rfl) (au rfl (cC (aV.of KY) (ak (j:=2) rfl) (cy ⟨dl rfl,fun d hd=>?_⟩)))))))))))⟩)
     have s3:aq H2 (upd H2 d (.tup (tw (qq.1,qq.2.1^^^ad.2.1,qq.2.2^^^ad.2.2)))):=aq.new hd;have Nx:upd H2 d (.tup (tw (qq.1,qq.2.1^^^ad.2.1,qq.2.2^^^ad.2.2))) d=some (.tup (tw (qq.1,qq.2.1^^^ad.2.1,qq.2.2^^^ad.2.2))):=ae;have ev:[V.int (qq.1:Int),V.int (Builtin.bitXor (qq.2.1:Int) (ad.2.1:Int)),V.int (Builtin.bitXor (qq.2.2:Int) (ad.2.2:Int))]=tw (qq.1,qq.2.1^^^ad.2.1,qq.2.2^^^ad.2.2):=by
      rw[xor_int,xor_int];rfl
     dsimp only;rw[ev];generalize upd H2 d (.tup (tw (qq.1,qq.2.1^^^ad.2.1,qq.2.2^^^ad.2.2)))=H3 at s3 Nx;have qU:=s3 _ _ iV;refine⟨D,_,_,rfl,rfl,qU,dw (by lia),_,acc++[.ref d],rfl,(s2.trans s3).put hD,ae,by rw[List.length_append,al];rfl,?_⟩
     rw[put];exact Paired.snoc (Paired.imp' (fun _ _ z=>z.tups (s3.tups.trans (dG.put qU))) SV) ⟨d,rfl,dG.put qU _ _ Nx⟩
   | false =>
     rw[ni,if_neg (by decide)]at put
     refine cE (au rfl ⟨.inl ⟨rfl,_,aM.of iV⟩,au rfl ⟨D,_,_,rfl,rfl,iV,dw (by lia),_,acc++[.ref c],rfl,s2.put hD,ae,by rw[List.length_append,al];rfl,?_⟩⟩)
     rw[put];exact Paired.snoc (Paired.imp' (fun _ _ z=>z.tups (dG.put iV)) SV) ⟨c,rfl,dG.put iV _ _ hc2⟩
  ·rintro σ H2 ⟨v3,acc,rfl,s2,iV,al,SV⟩;rw[xsl,List.take_length]at SV;exact(au rfl (q D H2 s2 ⟨acc,iV,SV⟩))
theorem eg:Ok T T.jt 3 El:=by
 have cO:=cO T;have pR:=pR T;refine T.jt.ok iq fun _ A _ s H vs Q E hr h=>?_
 ·obtain⟨l,B,rfl,hl,hB,q⟩:=h;refine⟨_,(ah (aG (i:=1) iq.nd rfl (Or.inl rfl) (dQ af))
   (ah (eE PassesOwn.never rfl (ER K (by rfl) T.kA (aa (pv 0) af)) (HY K (n:=2) rfl (aP (bf 2 iq.nd) (aP (bf 3 iq.nd) eW)))
   (ah (aG (i:=4) iq.nd rfl (Or.inl rfl) (aF cO hr T.iB.c aJ (aa (pv 1) (aa (pv 3) af))))
   (av (b7 (aL uG (aI (cz K) (pv 4) aj) aj (aO _)) (av (aG (i:=1) iq.nd rfl (Or.inl rfl) (aF pR hr T.pM.c aJ (aa (pv 1) (aa (cP (aa (aK qS (ID PySem.F.plainAttrs_int PyProof.Rows.slot_int_bit_length PyProof.Rows.type_int_bit_length EM (aI (cz K) (pv 4) aj)) aj) (aa (aI (cz K) (pv 4) aj) (aa (aK gi (aI (cz K) (pv 4) aj) (aK kD aj (pv 2))) af)))) af))))) aW))))
   (av (aH (pv 1))))),?_⟩
  refine DN ?_;intro cg cS dJ fE gO;refine⟨dl rfl,fun D hD=>?_⟩
  have s1:aq H (upd H D (.lst [])):=aq.new hD;have tO:upd H D (.lst []) D=some (.lst []):=ae;generalize upd H D (.lst [])=H1 at s1 tO;refine(au rfl ⟨l,rfl,⟨_,aM.of (s1 _ _ hl)⟩,IW (K:=K) (a:=l) (xs:=ay B) (fun i σ H2=>∃ l2 rows v2 v3 v4,σ=[some (.ref l),some (.ref l2),v2,v3,v4]/\aq H H2/\gH H2 l2 rows/\RM.Rw (B.take i) rows/\rows=RM.gM B i) ⟨D,[],none,none,none,rfl,s1,⟨[],tO,.nil⟩,RM.Rw.start,rfl⟩ (fun i σ H2 _ ⟨_,_,_,_,_,_,z,_⟩=>aM.of (z _ _ hl)) ?_ ?_⟩)
  ·rintro i x T0 σ H2 hx ⟨l2,rows,v2,v3,v4,rfl,s2,LF,K7,P0⟩ hT;obtain⟨b,hb,rfl⟩:=cf hx;have A5:=(jQ.mp hb).1;have s3:aq H2 (upd H2 T0 (.tup [.int (i:Int),.int (b:Int)])):=aq.new hT;have XO:upd H2 T0 (.tup [.int (i:Int),.int (b:Int)]) T0=some (.tup [.int (i:Int),.int (b:Int)]):=ae;generalize upd H2 T0 (.tup [.int (i:Int),.int (b:Int)])=H3 at s3 XO;refine⟨T0,_,rfl,aV.of XO,rfl,_,_,rfl,_,_,rfl,rfl,?_⟩;refine(au rfl (au rfl ⟨l2,rows,b,rfl,LF.same s3,fun c H4 s4 hc=>?_⟩))
   have hlt:(B.take i).length=i:=by rw[List.length_take];lia
   refine(au rfl (cC (aV.of hc) (ak (j:=0) rfl) (cy (au rfl (lE (fun h0=>?_) (fun h0=>?_))))))
   ·have h0:(0:Int)<_:=i8 h0;have QI:(RM.bA rows b 0).1≠0:=by lia
    have SW:=K7.put QI;rw[hlt,<-take3 hb]at SW;have NY:=(LF.same s3).same s4;have hrl:rows.length<=200:=by have:=K7.le;lia
    refine(au rfl (au rfl (cC (aV.of hc) (ak (j:=0) rfl) ⟨rfl,au rfl ⟨rfl,cy (au rfl (cC (aV.of hc) (ak (j:=0) rfl) (au rfl (cC (aV.of hc) (ak (j:=1) rfl) (au rfl (cy ⟨⟨by lia,by lia,by decide⟩,cy ⟨dl rfl,fun d hd=>?_⟩⟩))))))⟩⟩)))
    have ev:[V.int (((Builtin.Int.intBits (((RM.bA rows b 0).1:Nat):Int):Nat):Int)-1),V.int (((RM.bA rows b 0).1:Nat):Int),V.int (Builtin.bitXor (((RM.bA rows b 0).2:Nat):Int) (1*2^((i:Nat):Int).toNat))]=tw ((RM.bA rows b 0).1.log2,(RM.bA rows b 0).1,(RM.bA rows b 0).2^^^2^i):=by
     rw[JP QI,jY,xor_int];rfl
    dsimp only;rw[ev];refine⟨l2,d,rows,_,rfl,NY.same (aq.new hd),ae,hrl,fun l5 H5 s5 Ui=>?_⟩
    exact⟨l5,_,_,_,_,rfl,((s2.trans (s3.trans s4)).trans (aq.new hd)).trans s5,Ui,SW,RM.DC P0 hb QI⟩
   ·have QI:(RM.bA rows b 0).1=0:=by
     have : ¬(0:Int)<_:=fun z=>h0 (cD z)
     lia
    have XQ:=K7.skip ((K7.dZ b 0).mp QI);rw[<-take3 hb]at XQ;exact⟨l2,rows,_,_,_,rfl,s2.trans (s3.trans s4),(LF.same s3).same s4,XQ,RM.BC P0 hb QI⟩
  ·rintro σ H2 ⟨l2,rows,v2,v3,v4,rfl,s2,LF,K7,P0⟩;rw[aB]at P0;rw[aB,List.take_length]at K7;exact(au rfl (q l2 rows H2 s2 LF K7 P0))
theorem sP:Ok T T.sG 9 Em:=by
 have sL:=sL T;have iC:=iC T;have eg:=eg T;refine T.sG.ok DO fun _ A _ s H vs Q E hr h=>?_
 ·obtain⟨wb,p,ts,g,l,zs,rfl,hw,hl,hz,q⟩:=h;refine⟨_,(ah (b7 (PW.pt (uA (aL uF (cH K T.dM (aa (pv 1) af)) (aF sL hr T.z8.c aJ (aa (pv 0) af)) (aO _)) (o7 (o8 (c9 (cW (Vz K rfl) (by rfl) T.Sz PyProof.Rows.boot_all (aa (bz (own:=["ring"]) (fq:=["web"]) (js:=[0]) (aE (ai oJ) ["web","rings"]) rfl (m8 K (pv 1)) (fun _ _ _ _=>(bf 0 (jS ["ring","web"]))) (fun _ _ _ _=>bQ) (fun _ _ _ _=>(aF iC hr T.iy.c aJ (aa (pv 1) (aa (pv 0) af))))) af))))))) (av (aH mS)) aW)
   (av (aH (dP dI (cH K T.dM (aa (aF eg hr T.jt.c aJ (aa (pv 1) af)) af)) (cH K T.dM (aa (pv 1) af)) (aO _))))),?_⟩
  refine fP ?_;intro cg cS;refine(au rfl (pX rfl (.inl (aM.of hl)) (au rfl ⟨wb,p,ts,g,rfl,hw,fun H1 s1=>⟨rfl,au rfl (?_)⟩⟩)))
  by_cases hn:zs.length=g.N.az.length
  case neg =>
   refine SS (fun z=>hn ?_) (q H1 false s1 ⟨(fun z=>nomatch z),fun⟨rs,e,b⟩=>absurd b.len (fun z=>hn ?_)⟩)
   ·have z:=V.int.inj z;rw[List.length_map]at z
    lia
   ·rw[e,List.length_map];exact z
  refine Np (by rw[List.length_map,hn]) ?_
  have hl1:=s1 _ _ hl;refine(au rfl ⟨l,rfl,⟨_,aM.of hl1⟩,fun D hD=>aZ (xs:=zs.map V.int) (fun i acc H2=>aq H1 H2/\H2 D=some (.lst acc)/\∃ bs:List Bool,acc=bs.map V.bl/\bs.length=i/\∀(j:Nat) z d,j<i->zs[j]?=some z->bs[j]?=some d->(d=true↔∃ m:Nat,z=(m:Int)/\m<2^ts.length/\g.N.Ring m)) ⟨aq.new hD,ae,[],rfl,rfl,(fun j z d h=>by lia)⟩ (fun i acc H2 _ z=>⟨aM.of (z.1 _ _ hl1),z.2.1,by obtain⟨bs,e,e2,_⟩:=z.2.2;rw[e,List.length_map,e2];exact Nat.le_refl _⟩) (Nat.le_of_lt (dw (by rw[List.length_map];lia))) ?_ ?_⟩)
  ·rintro i x acc H2 hx ⟨s2,iV,bs,rfl,bl,all⟩;rw[List.getElem?_map]at hx;obtain⟨z,hz,rfl⟩:=wH.mp hx;refine⟨rfl,au rfl (au rfl ⟨wb,p,ts,g,z,rfl,hw.same (s1.trans s2),fun H3 d s3 hd=>?_⟩)⟩
   refine⟨s3 _ _ iV,(s2.trans s3).put hD,ae,bs++[d],by rw[List.map_append];rfl,by rw[List.length_append,bl];rfl,fun j z' d' hj hz' hd'=>?_⟩
   by_cases e:j=i
   ·subst e;rw[hz]at hz';cases hz';rw[List.getElem?_append_right (by lia),bl,Nat.sub_self]at hd'
    cases hd';exact hd
   ·rw[List.getElem?_append_left (by lia)]at hd'
    exact all j z' d' (by lia) hz' hd'
  ·rintro acc H2 ⟨s2,iV,bs,rfl,bl,all⟩;rw[List.length_map]at bl all;refine⟨D,_,rfl,aM.of iV,_,rfl,?_⟩;have ok:bs.all id=true↔∃ rs:List Nat,zs=rs.map (fun x=>((x:Nat):Int))/\∀ r∈rs,g.N.Ring r/\r<2^ts.length:=by
    rw[List.all_eq_true]
    constructor
    ·intro h;have each:∀ z∈zs,∃ m:Nat,z=(m:Int)/\m<2^ts.length/\g.N.Ring m:=fun z hz'=>by
      obtain⟨j,hj⟩:=List.getElem?_of_mem hz';have NG:=(jQ.mp hj).1;have hb:bs[j]?=some (bs[j]'(by lia)):=List.getElem?_eq_getElem _
      exact(all j z _ NG hj hb).mp (h _ (iT hb))
     refine⟨zs.map Int.toNat,?_,fun r hr=>?_⟩
     ·rw[List.map_map];refine(List.map_id zs).symm.trans (List.map_congr_left fun z hz'=>?_)
      obtain⟨m,rfl,_⟩:=each z hz';rfl
     ·obtain⟨z,hz',rfl⟩:=List.mem_map.mp hr;obtain⟨m,rfl,h1,h2⟩:=each z hz';exact⟨h2,h1⟩
    ·rintro⟨rs,rfl,hrs⟩ d hd;obtain⟨j,hj⟩:=List.getElem?_of_mem hd;have NG:=(jQ.mp hj).1;have hr:rs[j]?=some (rs[j]'(by rw[List.length_map]at bl;lia)):=List.getElem?_eq_getElem _
     have hm:=hrs _ (iT hr);exact(all j _ d (by lia) (by rw[List.getElem?_map,hr];rfl) hj).mpr (au rfl ⟨hm.2,hm.1⟩)
   cases hall:bs.all id with
   | false =>
     refine eF (q H2 false (s1.trans s2) ⟨(fun z=>nomatch z),fun⟨rs,e,b⟩=>?_⟩)
     rw[ok.mpr ⟨rs,e,b.ring⟩]at hall;cases hall
   | true =>
     obtain⟨rs,rfl,hrs⟩:=ok.mp hall;rw[List.length_map]at hz hn;rw[<-gn]at hl1;have hl2:=s2 _ _ hl1;refine cE (au rfl ⟨l,rs,rfl,hl2,hz,fun l3 rows H3 s3 Uj XR _=>?_⟩)
     obtain⟨xs,P1,QH⟩:=id Uj;refine(pX rfl (.inl (aM.of P1)) (au rfl (pX rfl (.inl (aM.of (s3 _ _ hl2))) ⟨rfl,q H3 _ ((s1.trans s2).trans s3) ?_⟩)));rw[aB,QH.length,decide_eq_true_iff]
     constructor
     ·intro e;have e:=V.int.inj e;exact⟨rs,rfl,hn,hrs,XR.len.mp (by lia)⟩
     ·rintro⟨rs2,e,b⟩;rw[<-cast_inj e]at b;have:=XR.len.mpr b.ind;rw[this]
def MarksOf(N:RM.Net)(rs ms:List Nat):Prop:=ms.length=rs.length/\∀(i m:Nat),ms[i]?=some m->m<2^N.n/\∀(j r:Nat),rs[j]?=some r->N.par r m=decide (i=j)
def Af(C:Addr):Sp:=fun vs H Q E=>∃ w p ts,∃ g:aC p ts,∃(l:Addr) (zs:List Int),vs=[.ref w,.ref l]/\aY H w p ts/\H l=some (.lst (zs.map V.int))/\zs.length<=200/\
 ((∃ rs:List Nat,zs=rs.map (fun x=>((x:Nat):Int))/\RM.Base g.N rs/\∀(D:Addr) (ms:List Nat) (H' : Hp),H D=none->aq H H'->H' D=some (.lst (ay ms))->MarksOf g.N rs ms->ms=(List.range rs.length).map (fun i=>orM (RM.cG (RM.gM rs rs.length) i))->Q (.ref D) H')\/(¬ NX p ts g zs/\∀ H',aq H H'->E (.ref C) none H'))
theorem nS:Ea T T.nL 10 (Af a.vY):=by
 have sP:=sP T;have eg:=eg T;have bF:=bF T;have lA:=lA T;refine T.nL.AE jd fun _ A _ s H vs Q E hr h=>?_
 ·obtain⟨wb,p,ts,g,l,zs,rfl,hw,hl,hz,q⟩:=h;refine⟨_,(ah (b7 (o8 (c9 (aF sP hr T.sG.c aJ (aa (pv 0) (aa (pv 1) af))))) (av (m9 dm.RJ rfl (by rfl) T.KU PySem.F.excBase_ValueError (aa fF af))) aW)
   (ah (aG (i:=2) jd.nd rfl (Or.inl rfl) (aF eg hr T.jt.c aJ (aa (pv 1) af)))
   (ah (aG (i:=3) jd.nd rfl (Or.inl rfl) (dQ af))
   (ah (ud rfl (bL (by rfl) T.cj (aa (cH K T.dM (aa (pv 1) af)) af)) (uc (i:=4) jd.nd rfl (Or.inr rfl))
   (av (cR (Kv K (m7 PySem.F.plainAttrs_list PySem.F.slot_list_append PySem.F.type_list_append dc (pv 3) (aa (aF lA hr T.qJ.c aJ (aa (pv 0) (aa (bz (own:=["lead","row","places"]) (fq:=["place"]) (js:=[4]) (aE (ai ki) ["web","rings","rows","found","place"]) rfl (m8 K (pv 2)) (fun _ _ _ _=>(HY K (n:=3) rfl (aP (bf 0 (jS ["lead","row","places","place"])) (aP (bf 1 (jS ["lead","row","places","place"])) (aP (bf 2 (jS ["lead","row","places","place"])) eW))))) (fun _ _ _ _=>(eN (c9 (aF bF hr T.gz.c aJ (aa (pv 2) (aa (pv 3) af)))))) (fun _ _ _ _=>(pv 0))) af))) af))))))
   (av (aH (pv 3))))))),?_⟩
  refine zA ?_;intro cg cS dJ fE gO o4;refine(au rfl (au rfl ⟨wb,p,ts,g,l,zs,rfl,hw,hl,hz,fun H1 d s1 hd=>(au rfl (?_))⟩))
  rcases q with⟨rs,rfl,bs,q⟩|⟨hn,q⟩
  case inr =>
   cases d with
   | true=>exact absurd (hd.mp rfl) hn
   | false=>exact eF ⟨dl rfl,q H1 s1⟩
  rw[hd.mpr ⟨rs,rfl,bs⟩];refine cE ?_;rw[List.length_map]at hz;rw[<-gn]at hl;have hl1:=s1 _ _ hl;refine(au rfl ⟨l,rs,rfl,hl1,hz,fun l2 rows H2 s2 LF K7 P0=>?_⟩)
  refine⟨dl rfl,fun D hD=>?_⟩
  have s3:aq H2 (upd H2 D (.lst [])):=aq.new hD;have qU:upd H2 D (.lst []) D=some (.lst (ay [])):=ae;generalize upd H2 D (.lst [])=H3 at s3 qU;have nO:=(s1.trans s2).trans s3;have MY:H D=none:=(s1.trans s2).free hD;have P1:=nO _ _ hl;have Uj:=LF.same s3;obtain⟨xs,hxs,prx⟩:=id Uj;have rwl:=K7.le;refine(au rfl (pX rfl (.inl (aM.of P1)) (au rfl ⟨(by rw[aB];lia),(by rw[aB];lia),?_⟩)))
  refine ig (lo:=0) (n:=((ay rs).length:Int).toNat) (fun i σ H4=>∃ v4 ms,σ=[some (.ref wb),some (.ref l),some (.ref l2),some (.ref D),v4]/\aq H H4/\gH H4 l2 rows/\H4 D=some (.lst (ay ms))/\ms=(List.range i).map fun j=>orM (RM.cG rows j)) ⟨none,[],rfl,nO,Uj,qU,rfl⟩ ?_ ?_
  ·rintro i D' σ H4 hi ⟨v4,ms,rfl,s4,NY,sM,P4⟩;rw[aB,Int.toNat_natCast]at hi;rw[Int.zero_add];obtain⟨xs4,SX,P5⟩:=id NY;have hms:ms.length=i:=by rw[P4,List.length_map,List.length_range]
   have We:D≠l2:=fun e=>by
    obtain⟨ys,e1,_⟩:=LF;rw[e,e1]at hD;cases hD
   refine(au rfl ⟨.inl ⟨rfl,_,aM.of sM⟩,au rfl (au rfl ⟨l2,rfl,⟨_,aM.of SX⟩,fun C hC=>aZ (xs:=xs4) (fun j acc H5=>aq H4 H5/\H5 C=some (.lst acc)/\acc=ay (RM.cG (rows.take j) i)) ⟨aq.new hC,ae,rfl⟩ ?_ (Nat.le_of_lt (dw (by rw[P5.length];lia))) ?_ ?_⟩)⟩)
   ·rintro j acc H5 hj ⟨s5,P6,rfl⟩;refine⟨aM.of (s5 _ _ SX),P6,?_⟩;rw[aB];unfold RM.cG;rw[List.length_map];have h1:=List.length_filter_le (fun q:RM.Row3=>q.2.2.testBit i) (rows.take j)
    rw[List.length_take]at h1
    lia
   ·rintro j x acc H5 hx ⟨s5,P6,rfl⟩;obtain⟨qq,hq,c,rfl,hc⟩:=Paired.qf P5 hx;have hc5:=s5 _ _ hc;have lead:RM.cG (rows.take (j+1)) i=RM.cG (rows.take j) i++(if qq.2.2.testBit i=true then[qq.1] else[]):=by
     unfold RM.cG;rw[take3 hq,List.filter_append,List.map_append]
     congr 1
     rw[List.filter_cons];cases qq.2.2.testBit i<;>rfl
    refine⟨c,_,rfl,aV.of hc5,rfl,_,_,rfl,_,_,rfl,_,_,rfl,rfl,rfl,au rfl (au rfl ⟨_,i,rfl,au rfl (?_)⟩)⟩;rw[eX];cases hb:qq.2.2.testBit i with
    | true =>
      rw[hb,if_pos rfl]at lead;refine(au rfl ⟨P6,s5.put hC,ae,?_⟩);rw[lead,bE]
    | false =>
      rw[hb,if_neg (by decide),List.append_nil]at lead
      exact⟨s5,P6,by rw[lead]⟩
   ·rintro acc H5 ⟨s5,P6,rfl⟩;rw[P5.length,List.take_length]at P6;have hir:rs[i]?=some rs[i]:=List.getElem?_eq_getElem hi;have mk:=K7.marks (N:=g.N) bs.ind (fun b hb=>(bs.ring b hb).2) (i:=i) hir
    refine⟨wb,p,ts,C,_,rfl,hw.same (s4.trans s5),g.F5,P6,mk.2,?_⟩;have LA:=s5 _ _ sM;refine⟨D,_,_,rfl,rfl,LA,dw (by rw[aB];lia),_,ms++[orM (RM.cG rows i)],rfl,(s4.trans s5).put MY,?_,?_,?_⟩
    ·obtain⟨ys,e1,e2⟩:=NY.same s5;exact⟨ys,by rw[ao We.symm];exact e1,Paired.imp' (fun _ _ z=>z.tups (dG.put LA)) e2⟩
    ·rw[ae,bE]
    ·rw[List.range_succ,List.map_append,P4];rfl
  ·rintro σ H4 ⟨v4,ms,rfl,s4,NY,sM,P4⟩;rw[aB,Int.toNat_natCast]at P4;refine(au rfl (q D ms H4 MY s4 sM ⟨by rw[P4,List.length_map,List.length_range],fun i m hm=>?_⟩ (by rw[P4,<-P0])))
   rw[P4,List.getElem?_map]at hm;obtain⟨j,hj,rfl⟩:=wH.mp hm;have ej:j=i/\i<rs.length:=by
    obtain⟨h1,h2⟩:=jQ.mp hj;rw[List.getElem_range]at h2;rw[List.length_range]at h1;exact⟨h2.symm,h1⟩
   obtain⟨rfl,NG⟩:=ej;have mk:=fun j' r (h:rs[j']?=some r)=>K7.marks (N:=g.N) bs.ind (fun b hb=>(bs.ring b hb).2) (i:=j) h
   have hjr:rs[j]?=some rs[j]:=List.getElem?_eq_getElem NG;exact⟨Jl (mk j _ hjr).2,fun j' r hr=>(mk j' r hr).1⟩
def HK(t1 t2:Addr)(Wf Wg:Pos):Sp:=fun vs H Q _=>∃ w p ts,∃ g:aC p ts,vs=[.ref w]/\aY H w p ts/\H t1=some (.ju (eI (nu "least_ways") Wf))/\H t2=some (.ju (eI (nu "by_length") Wg))/\
 ∀ D rs H',H D=none->aq H H'->H' D=some (.lst (ay rs))->RM.LB g.N (bx ts) rs->rs.Pairwise (nQ ts)->(∃ bs,RM.Pu g.N (bx ts) (g.N.az.map fun c=>2^c) bs []/\rs.Perm bs)->Q (.ref D) H'
theorem kQ:Ok T T.kM 10 (HK a.cZ a.cY cK cI):=by
 have gY:=gY T;have nR:=nR T;have ee:=ee T;have gA:=gA T;refine T.kM.ok dB fun _ A _ s H vs Q E hr h=>?_
 ·obtain⟨wb,p,ts,g,rfl,hw,LC,M4,q⟩:=h;refine⟨_,(ah (iF (i:=1) dB.nd rfl rfl (own:=["chord"]) (fq:=[]) (js:=[]) (aE (ai fQ) ["web","waiting","found","marks","ring"]) rfl (m8 K (aF gY hr T.nJ.c aJ (aa (pv 0) af))) (fun _ _ _ _=>(bf 0 (jS ["chord"]))) (fun _ _ _ _=>bQ) (fun _ _ _ _=>(aK kD aj (pv 0))))
   (ah (aG (i:=2) dB.nd rfl (Or.inl rfl) (dQ af))
   (ah (Au PassesOwn.never (aL uG (cH K T.dM (aa (pv 1) af)) aj (aO _)) (ah (aG (i:=3) dB.nd rfl (Or.inr rfl) (aI (jR K) (pv 1) aj))
   (ah (aG (i:=4) dB.nd rfl (Or.inr rfl) (aI (cz K) (aF nR hr T.nK.c jV (aa (pv 0) (aa (pv 3) af))) aj))
   (ah (cR (Kv K (m7 PySem.F.plainAttrs_list PySem.F.slot_list_append PySem.F.type_list_append dc (pv 2) (aa (pv 4) af))))
   (av (iF (i:=1) dB.nd rfl rfl (own:=["later"]) (fq:=["marks","ring"]) (js:=[3,4]) (aE (ai fQ) ["web","waiting","found","marks","ring"]) rfl (m8 K (kW (Qq K) (pv 1) (nY aj) nX)) (fun _ _ _ _=>(bf 0 (jS ["later","marks","ring"]))) (fun _ _ _ _=>bQ) (fun _ _ _ _=>(m4 (c9 (aF ee hr T.iK.c aJ (aa (pv 2) (aa (pv 0) af)))) (aK gi (pv 0) (pv 1)) (pv 0)))))))))
   (av (aH (aF gA hr T.iQ.c aJ (aa (pv 0) (aa (pv 2) af)))))))),?_⟩
  refine vW ?_;intro cg cS dJ fE gO o4 yD;have wl:=g.len;have cn:g.N.az.length<=24:=by
   have:g.N.az.length<=(List.range g.N.n).length:=List.length_filter_le ..;rw[List.length_range]at this;have h2:g.N.n=ts.length:=rfl
   lia
  have XS:(100:Nat)<sizeLine:=by decide
  refine(au rfl ⟨wb,p,ts,g,rfl,hw,fun Dc H1 hDc s1 hc1=>⟨Dc,rfl,⟨_,aM.of hc1⟩,fun X hX=>aZ (K:=K) (a:=Dc) (xs:=ay g.N.az) (fun i acc H2=>aq H1 H2/\H2 X=some (.lst acc)/\acc=ay ((g.N.az.take i).map fun c=>2^c)) ⟨aq.new hX,ae,rfl⟩ (fun i acc H2 _ z=>⟨aM.of (z.1 _ _ hc1),z.2.1,by rw[z.2.2,aB,List.length_map,List.length_take];lia⟩) (c8 (by rw[aB];lia)) ?_ ?_⟩⟩)
  ·rintro i x acc H2 hx ⟨s2,hX2,rfl⟩;obtain⟨c,CC,rfl⟩:∃ c,g.N.az[i]?=some c/\x = .int (c:Int):=by
    unfold ay at hx;rw[List.getElem?_map]at hx;obtain⟨c,h1,h2⟩:=wH.mp hx;exact⟨c,h1,h2.symm⟩
   have hcn:=(RM.br.mp (iT CC)).1;have hcn:c<ts.length:=hcn;refine⟨rfl,au rfl (cy ⟨⟨by lia,by lia,by decide⟩,hX2,s2.put hX,ae,?_⟩)⟩
   rw[List.take_add_one,CC];show _=ay (List.map _ (List.take i g.N.az++[c]));rw[List.map_append,List.map_singleton,bE];dsimp only;rw[jY]
  rintro acc H2 ⟨s2,hX2,rfl⟩;rw[aB,List.take_length]at hX2;refine⟨dl rfl,fun F hF=>?_⟩
  have s3:aq H2 (upd H2 F (.lst [])):=aq.new hF;have lB:=s3 _ _ hX2;have XT:upd H2 F (.lst []) F=some (.lst (ay [])):=ae;have hF0:H F=none:=(s1.trans s2).free hF;have hXF:X≠F:=fun z=>by rw[<-z,hX2]at hF;cases hF
  have XU:=(s1.trans s2).trans s3;generalize upd H2 F (.lst [])=H3 at lB XT XU;have nd:g.N.az.Nodup:=RM.rB;have hL:=yn g;refine⟨fun n σ H4=>∃ X bs us ws cs v3 v4,σ=[some (.ref wb),some (.ref X),some (.ref F),v3,v4]/\aq H H4/\H4 X=some (.lst (ay ws))/\H4 F=some (.lst (ay bs))/\X≠F/\RM.DP g.N (bx ts) bs us/\RM.Wt g.N bs ws cs/\RM.Pu g.N (bx ts) (g.N.az.map fun c=>2^c) bs ws/\n=ws.length,⟨_,X,[],[],_,_,none,none,rfl,XU,lB,XT,hXF,RM.DP.start,RM.Wt.start nd,.start,rfl⟩,?_⟩
  rintro n σ H4 ⟨X,bs,us,ws,cs,v3,v4,rfl,P7,Wh,XW,Wi,dp,wt,lr,rfl⟩;refine(au rfl (pX rfl (.inl (aM.of Wh)) (cy (au rfl (lE (fun hlen=>?_) (fun hlen=>?_))))))
  case refine_2 =>
   have hl : ¬(0:Int)<((ay ws).length:Int):=fun z=>hlen (cD z)
   have e:ws=[]:=List.eq_nil_of_length_eq_zero (by rw[aB]at hl;lia)
   subst e;have hb:bs.length=g.N.az.length:=by
    have:=wt.sum;rw[List.length_nil]at this
    lia
   refine(au rfl (au rfl ⟨wb,p,ts,g,F,bs,rfl,hw.same P7,XW,by lia,fun m hm=>(dp.ring m hm).2,P7 _ _ M4,fun D ms' H5 hD s5 LA hp hs=>?_⟩))
   exact q D ms' H5 (P7.free hD) (P7.trans s5) LA ((dp.least hb).perm hp) hs ⟨bs,lr,hp⟩
  have hlen:(0:Int)<((ay ws).length:Int):=i8 hlen;rw[aB]at hlen;refine⟨fun σ' H'=>∃ X bs us LG cs v3 v4,σ' = [some (.ref wb),some (.ref X),some (.ref F),v3,v4]/\aq H H'/\H' X=some (.lst (ay LG))/\H' F=some (.lst (ay bs))/\X≠F/\RM.DP g.N (bx ts) bs us/\RM.Wt g.N bs LG cs/\RM.Pu g.N (bx ts) (g.N.az.map fun c=>2^c) bs LG/\LG.length<ws.length,fun σ' H' ⟨X,bs,us,LG,cs,v3,v4,e,a1,a2,a3,a4,a5,a6,a8,a7⟩=>⟨_,a7,X,bs,us,LG,cs,v3,v4,e,a1,a2,a3,a4,a5,a6,a8,rfl⟩,?_⟩
  obtain⟨m,ws,rfl⟩:∃ m LG,ws=m::LG:=by
   cases ws with
   | nil=>simp at hlen
   | cons m LG=>exact⟨m,LG,rfl⟩
  have hml:m<2^ts.length:=wt.lt m List.mem_cons_self;refine(au rfl (jM (aM.of Wh) (ak (j:=0) rfl) (?_)));refine(au rfl (au rfl ⟨wb,p,ts,g,(m:Int),rfl,hw.same P7,P7 _ _ LC,.inl ⟨m,rfl,hml,fun r H5 hr5 s5 told=>?_⟩⟩))
  obtain⟨r0,g1,g2,g3⟩:=wt.odd;rcases told with⟨n1,_⟩|⟨z,e,b2,W,lo,le,a1,_⟩
  ·obtain⟨x,hx,Uk⟩:=RM.qx hL m g1 g2;rw[g3]at Uk;exact absurd Uk (n1 x _ hx)
  refine(cC (aV.of a1) (ak (j:=1) rfl) (?_));have XX:=s5 _ _ XW;have QJ:=s5 _ _ Wh;have hbl:bs.length<=24:=by have:=wt.sum;lia
  refine(au rfl ⟨(.inl ⟨rfl,_,aM.of XX⟩),au rfl ⟨F,_,_,rfl,rfl,XX,(by rw[aB];lia),?_⟩⟩)
  have XY:aq H (upd H5 F (.lst (ay bs++[.int (e:Int)]))):=(P7.trans s5).put hF0;have Ul:upd H5 F (.lst (ay bs++[.int (e:Int)])) F=some (.lst (ay (bs++[e]))):=by rw[ae,bE]
  have NZ:upd H5 F (.lst (ay bs++[.int (e:Int)])) X=some (.lst (ay (m::ws))):=by rw[ao Wi];exact QJ
  generalize upd H5 F (.lst (ay bs++[.int (e:Int)]))=H6 at XY Ul NZ;have Wj:uJ (ay (m::ws)) (some (1:Int)) none=ay ws:=Jm (m::ws) (i:=1) (by simp)
  have Wm:=wt.next le.par;obtain⟨cc,cs',_,Wm⟩:=Wm;have dp2:=dp.snoc le.ring le.lt le.par (fun r h1 h2 h3=>by
   have:=le.least hL h1 h2 h3;have e1:RM.len g.N (bx ts) e=z:=le.len;rw[e1];exact this) (wt.ia m List.mem_cons_self)
  have aa7:ws.length<=24:=by have:=wt.sum;rw[List.length_cons]at this;lia
  refine(au rfl (au rfl ⟨X,_,rfl,aM.of NZ,fun c hc=>?_⟩))
  rw[Wj];have XZ:aq H (upd H6 c (.lst (ay ws))):=XY.trans (aq.new hc);have Wn:=aq.new hc (o:=.lst (ay ws)) _ _ Ul;have QE:upd H6 c (.lst (ay ws)) c=some (.lst (ay ws)):=ae;generalize upd H6 c (.lst (ay ws))=H7 at XZ Wn QE;refine⟨c,rfl,⟨_,aM.of QE⟩,fun X' SY=>aZ (K:=K) (a:=c) (xs:=ay ws) (fun i acc H8=>aq H7 H8/\H8 X' = some (.lst acc)/\acc=ay ((ws.take i).map fun v=>if g.N.par e v=true then v^^^m else v)) ⟨aq.new SY,ae,rfl⟩ (fun i acc H8 _ z=>⟨aM.of (z.1 _ _ QE),z.2.1,by rw[z.2.2,aB,List.length_map,List.length_take];lia⟩) (c8 (by rw[aB];lia)) ?_ ?_⟩
  ·rintro i x acc H8 hx ⟨s8,Um,rfl⟩;obtain⟨v,Nn,rfl⟩:∃ v,ws[i]?=some v/\x = .int (v:Int):=by
    unfold ay at hx;rw[List.getElem?_map]at hx;obtain⟨c,h1,h2⟩:=wH.mp hx;exact⟨c,h1,h2.symm⟩
   have Uo:v<2^ts.length:=wt.lt v (kU _ (iT Nn));have K1:Builtin.Int.intBits ((e&&&v:Nat):Int)<=1000:=Nat.le_trans (bits_le (Nat.and_lt_two_pow _ Uo)) (by lia)
   have snoc:∀ y,(if g.N.par e v=true then v^^^m else v)=y->ay ((ws.take i).map fun v=>if g.N.par e v=true then v^^^m else v)++[.int (y:Int)]=ay ((ws.take (i+1)).map fun v=>if g.N.par e v=true then v^^^m else v):=fun y hy=>by
    rw[List.take_add_one,Nn];show _=ay (List.map _ (List.take i ws++[v]));rw[List.map_append,List.map_singleton,bE,hy]
   refine⟨rfl,au rfl (au rfl ⟨_,_,e,v,rfl,rfl,rfl,K1,fun H9 s9=>(au rfl (?_))⟩)⟩
   rw[E5 (g:=g) Uo];have X0:=s8.trans s9;have X3:=s9 _ _ Um;cases hb:g.N.par e v with
   | true =>
     refine eF (au rfl (au rfl (cy ⟨X3,X0.put SY,ae,?_⟩)));dsimp only;rw[xor_int];exact snoc _ (if_pos hb)
   | false=>exact cE (au rfl ⟨X3,X0.put SY,ae,snoc _ (if_neg (by rw[hb];decide))⟩)
  ·rintro acc H8 ⟨s8,Um,rfl⟩;rw[aB,List.take_length]at Um;refine⟨X',bs++[e],us++[m],_,cs',_,_,rfl,XZ.trans s8,Um,s8 _ _ Wn,?_,dp2,Wm,lr.step lo,by rw[List.length_map];simp⟩
   intro z;rw[z,Wn]at SY;cases SY
def Ag(t:Addr)(lp:Pos):Sp:=fun vs H Q _=>∃ w p ts,∃ g:aC p ts,∃ m:Nat,vs=[.ref w,.int (m:Int)]/\aY H w p ts/\m<2^ts.length/\H t=some (.ju (eI (nu "least_ways") lp))/\∀ b W H',aq H H'->jE H' b W->Vw p W->Fe p ts g m W->Q (.ref b) H'
abbrev Uq:=Nat×Nat×List (List Pr)
def Co(H:Hp)(v:V)(t:Uq):Prop:=∃ c b,v = .ref c/\H c=some (.tup [.int (t.1:Int),.int (t.2.1:Int),.ref b])/\jE H b t.2.2
theorem Co.tups{H H' : Hp}{v:V}{t:Uq}(s:dG H H')(h:Co H v t):Co H' v t:=let⟨c,b,e,h1,ys,h2,h3⟩:=h;⟨c,b,e,s _ _ h1,ys,s _ _ h2,Paired.imp' (fun _ _ z=>z.tups s) h3⟩
def K8(t1 t2:Addr)(Wf Wg:Pos):Sp:=fun vs H Q _=>∃ w p ts,∃ g:aC p ts,vs=[.ref w]/\aY H w p ts/\H t1=some (.ju (eI (nu "least_ways") Wf))/\H t2=some (.ju (eI (nu "by_length") Wg))/\
 ∀ b ys (tr:List Uq) H',H b=none->aq H H'->H' b=some (.tup ys)->Paired (Co H') ys tr->RM.LB g.N (bx ts) (tr.map (·.1))->(tr.map (·.1)).Pairwise (nQ ts)->MarksOf g.N (tr.map (·.1)) (tr.map (·.2.1))->(∀ t∈tr,Vw p t.2.2/\Fe p ts g t.2.1 t.2.2)->(∃ bs,RM.Pu g.N (bx ts) (g.N.az.map fun c=>2^c) bs []/\(tr.map (·.1)).Perm bs)->tr.map (·.2.1)=(List.range (tr.map (·.1)).length).map (fun i=>orM (RM.cG (RM.gM (tr.map (·.1)) (tr.map (·.1)).length) i))->Q (.ref b) H'
theorem mJ:Ok T T.my 7 (Ag a.cZ cK):=by
 have cN:=cN T;have cU:=cU T;refine T.my.ok wY fun _ A _ s H vs Q E hr h=>?_
 ·obtain⟨wb,p,ts,g,m,rfl,hw,hm,htb,q⟩:=h;refine⟨_,(av (aH (aF cU hr T.fZ.c aJ (aa (aF cN hr T.fh.c aJ (aa (pv 0) (aa (pv 1) af))) af)))),?_⟩;have wp:=g.p2;refine(au rfl (au rfl ⟨wb,p,ts,g,m,rfl,hw,hm,htb,fun D ds Fs H1 hD s1 tO al=>?_⟩))
  obtain⟨hl,all⟩:=id al;refine⟨D,ds,Fs,p,g.N,bx ts,m,rfl,tO,(by lia),al,fun b H2 s2 hW=>?_⟩
  refine q b _ H2 (s1.trans s2) hW ⟨by rw[List.length_map,List.length_range],fun R hR=>?_⟩ fun i hi x s hx=>?_
  ·obtain⟨i,_,rfl⟩:=List.mem_map.mp hR;exact zd _ _
  ·have e:ds[i]?=some ds[i]:=List.getElem?_eq_getElem (by lia)
   obtain⟨H0,es,e1,e2,e3,e4,_⟩:=all i _ e;rw[List.getD_eq_getElem?_getD,List.getElem?_map,List.getElem?_range hi];show RM.Gy _ _ m i x s (sel (Jx (k7 (xB (Fs i)) p) x) s);rw[JJ hx];exact e4 x s
theorem mK:Ok T T.mz 11 (K8 a.cZ a.cY cK cI):=by
 have kQ:=kQ T;have nS:=nS T;have mJ:=mJ T;refine T.mz.ok kI fun _ A _ s H vs Q E hr h=>?_
 ·obtain⟨wb,p,ts,g,rfl,hw,LC,M4,q⟩:=h;refine⟨_,(ah (aG (i:=1) kI.nd rfl (Or.inl rfl) (aF kQ hr T.kM.c aJ (aa (pv 0) af)))
   (ah (aG (i:=2) kI.nd rfl (Or.inl rfl) (aF nS hr T.nL.c jV (aa (pv 0) (aa (pv 1) af))))
   (av (aH (cL (EN K) (by rfl) T.uw PyProof.Rows.boot_tuple (aa (bz (own:=["ring","own"]) (fq:=["web"]) (js:=[0]) (aE (ai je) ["web","rings","marks"]) rfl (IV K (by rfl) T.NT (aa (pv 1) (aa (pv 2) af))) (fun _ _ _ _=>(HY K (n:=2) rfl (aP (bf 0 (jS ["ring","own","web"])) (aP (bf 1 (jS ["ring","own","web"])) eW)))) (fun _ _ _ _=>bQ) (fun _ _ _ _=>(cP (aa (pv 0) (aa (pv 1) (aa (aF mJ hr T.my.c aJ (aa (pv 2) (aa (pv 1) af))) af)))))) af)))))),?_⟩
  refine gQ ?_;intro cg cS;have wl:=g.len;refine(au rfl ⟨wb,p,ts,g,rfl,hw,LC,M4,fun D rs H1 hD s1 tO lb pw lr=>?_⟩)
  have Ub:rs.length<=24:=by
   have h1:g.N.az.length<=(List.range g.N.n).length:=List.length_filter_le ..;rw[List.length_range,<-lb.1.len]at h1;exact Nat.le_trans h1 wl
  refine(au rfl (au rfl ⟨wb,p,ts,g,D,rs.map (fun x=>((x:Nat):Int)),rfl,hw.same s1,by rw[<-gn];exact tO,by rw[List.length_map];lia,.inl ⟨rs,rfl,lb.1,fun D2 ms H2 iV s2 S0 mo emk=>?_⟩⟩))
  have S3:=s2 _ _ tO;have s12:=s1.trans s2;have msl:=mo.1;refine(au rfl (au rfl ⟨D,D2,rfl,⟨_,aM.of S3⟩,⟨_,aM.of S0⟩,fun X hX=>AF (xs:=ay rs) (ys:=ay ms) (by rw[aB,aB];lia) (fun i acc H3=>aq H2 H3/\H3 X=some (.lst acc)/\∃ tr:List Uq,Paired (Co H3) acc tr/\tr.map (·.1)=rs.take i/\tr.map (·.2.1)=ms.take i/\∀ t∈tr,Vw p t.2.2/\Fe p ts g t.2.1 t.2.2) ⟨aq.new hX,ae,[],.nil,rfl,rfl,fun t ht=>by cases ht⟩ (fun i acc H3 _ ⟨z1,z2,tr,z3,z4,_⟩=>⟨aM.of (z1 _ _ S3),aM.of (z1 _ _ S0),z2,?_⟩) (c8 (by rw[aB];lia)) ?_ ?_⟩))
  ·have h1:=z3.length;have h2:=congrArg List.length z4;rw[List.length_map,List.length_take]at h2
   lia
  ·rintro i x y T0 acc H3 hx hy ⟨s3,lB,tr,pr,e1,e2,al⟩ hT0;have item:∀{l:List Nat} {v:V},(ay l)[i]?=some v->∃ c,l[i]?=some c/\v = .int (c:Int):=fun {l v} h=>by
    unfold ay at h;rw[List.getElem?_map]at h;obtain⟨c,h1,h2⟩:=wH.mp h;exact⟨c,h1,h2.symm⟩
   obtain⟨r,Ou,rfl⟩:=item hx;obtain⟨m,hmi,rfl⟩:=item hy;have hml:=(mo.2 i m hmi).1;have s4:aq H3 (upd H3 T0 (.tup [.int (r:Int),.int (m:Int)])):=aq.new hT0;have S4:=(s12.trans s3).trans s4;refine⟨T0,_,rfl,aV.of ae,rfl,_,_,rfl,_,_,rfl,rfl,rfl,au rfl (au rfl (au rfl (au rfl ⟨wb,p,ts,g,m,rfl,hw.same S4,hml,S4 _ _ LC,fun b W H5 s5 hW sq bw=>⟨dl rfl,fun c hc=>?_⟩⟩)))⟩
   have s6:aq H5 (upd H5 c (.tup [.int (r:Int),.int (m:Int),.ref b])):=aq.new hc;have Wo:=(s4.trans s5).trans s6;have NZ:=Wo _ _ lB;refine⟨NZ,(s3.trans Wo).put hX,ae,tr++[(r,m,W)],?_,?_,?_,fun t ht=>?_⟩
   ·exact Paired.snoc (Paired.imp' (fun _ _ z=>Co.tups (Wo.tups.trans (dG.put NZ)) z) pr) (Co.tups (dG.put NZ) ⟨c,b,rfl,ae,hW.same s6⟩)
   ·rw[List.map_append,e1,List.take_add_one,Ou];rfl
   ·rw[List.map_append,e2,List.take_add_one,hmi];rfl
   ·rcases List.mem_append.mp ht with z|z
    ·exact al t z
    ·rw[List.mem_singleton.mp z];exact⟨sq,bw⟩
  ·rintro acc H3 ⟨s3,lB,tr,pr,e1,e2,al⟩;rw[aB,List.take_length]at e1;rw[aB,<-msl,List.take_length]at e2;refine⟨X,_,rfl,.inl ⟨aM.of lB,fun l hl=>?_⟩⟩
   have s4:aq H3 (upd H3 l (.tup acc)):=aq.new hl;exact q l acc tr _ ((s12.trans s3).free hl) ((s12.trans s3).trans s4) ae (Paired.imp' (fun _ _ z=>Co.tups s4.tups z) pr) (by rw[e1];exact lb) (by rw[e1];exact pw) (by rw[e1,e2];exact mo) al (by rw[e1];exact lr) (by rw[e1,e2];exact emk)
structure sQ(p:Nat)(ts:List c6)(g:aC p ts)(l:List Nat):Prop where
 pw:l.Pairwise (nQ ts)
 nd:l.Nodup
 all:∀ r,r∈l↔r<2^ts.length/\g.N.Ring r
theorem sQ.few{p:Nat}{ts:List c6}{g:aC p ts}{l:List Nat}(h:sQ p ts g l)(h9:ts.length<=9):l.length<64:=RM.vM (N:=g.N) h9 h.nd fun m hm=>(h.all m).mp hm
theorem En{ts:List c6}{l l' : List Nat}(h9:ts.length<=24)(hp:l.Perm l')(lt:∀ r∈l,r<2^ts.length)(pw:l.Pairwise (nQ ts))(pw' : l'.Pairwise (nQ ts)):l=l':=by
 have big:(2:Nat)^ts.length<=2^24:=Nat.pow_le_pow_right (by decide) h9
 have lt' : ∀ r∈l',r<2^ts.length:=fun r hr=>lt r (hp.mem_iff.mpr hr)
 have X4:∀{rs:List Nat},(∀ r∈rs,r<2^ts.length)->rs.Pairwise (nQ ts)->(rs.map fun r=>lenOf ts r*1073741824+(r:Int)).Pairwise (·<=·):=fun {rs} hlt Pq=>by
  rw[List.pairwise_map];refine List.Pairwise.imp_of_mem (fun {x y} hx hy h=>?_) Pq
  have hx:=hlt x hx;have hy:=hlt y hy;unfold nQ at h
  lia
 have e:=PySem.W.lks_uniq (hp.map fun r=>lenOf ts r*1073741824+(r:Int)) (X4 lt pw) (X4 lt' pw')
 refine List.ext_getElem hp.length_eq fun i a b=>?_
 have e1:=congrArg (fun l=>l[i]?) e
 rw[List.getElem?_map,List.getElem?_map,List.getElem?_eq_getElem a,List.getElem?_eq_getElem b]at e1;have e1:lenOf ts l[i]*1073741824+(l[i]:Int)=lenOf ts l'[i]*1073741824+(l'[i]:Int):=Option.some.inj e1;have b1:=lt _ (List.getElem_mem a);have b2:=lt' _ (List.getElem_mem b)
 lia
theorem sQ.uniq{p:Nat}{ts:List c6}{g:aC p ts}{l l' : List Nat}(h:sQ p ts g l)(h' : sQ p ts g l'):l=l' :=
 En g.len ((List.perm_ext_iff_of_nodup h.nd h'.nd).mpr fun r=>(h.all r).trans (h'.all r).symm) (fun r hr=>((h.all r).mp hr).1) h.pw h'.pw
def xC(C:Addr):Sp:=fun vs H Q E=>∃ w p ts,∃ g:aC p ts,vs=[.ref w]/\aY H w p ts/\((g.N.az.length<=8/\∀ H',aq H H'->Q .fD H')\/(8<g.N.az.length/\∀ H',aq H H'->E (.ref C) none H'))
def Ah:Sp:=fun vs H Q _=>∃ w p ts,∃ g:aC p ts,vs=[.ref w]/\aY H w p ts/\g.N.az.length<=8/\∀ D H',H D=none->aq H H'->H' D=some (.lst (ay (RM.vN g.N g.N.az.length)))->Q (.ref D) H'
def Ai(C t:Addr)(lp:Pos):Sp:=fun vs H Q E=>∃ w p ts,∃ g:aC p ts,vs=[.ref w]/\aY H w p ts/\H t=some (.ju (eI (nu "by_length") lp))/\
 ((g.N.az.length<=8/\ts.length<=9/\∀ D l H',H D=none->aq H H'->H' D=some (.lst (ay l))->sQ p ts g l->Q (.ref D) H')\/(8<g.N.az.length/\∀ H',aq H H'->E (.ref C) none H'))
theorem fu:Ea T T.jh 7 (xC a.k9):=by
 have sL:=sL T;refine T.jh.AE wZ fun _ A _ s H vs Q E hr h=>?_
 ·obtain⟨wb,p,ts,g,rfl,hw,q⟩:=h;refine⟨_,(av (b7 (aL uG (aF sL hr T.z8.c aJ (aa (pv 0) af)) (Ma (by rfl) T.Cc) (aO _)) (av (m9 dm.RJ rfl (by rfl) T.Hw PySem.F.excBase_ValueError (aa fF af))) aW)),?_⟩
  refine lO ?_;intro cg;refine(au rfl ⟨wb,p,ts,g,rfl,hw,fun H1 s1=>(cy (au rfl (?_)))⟩)
  rcases q with⟨h8,q⟩|⟨h8,q⟩
  ·rw[c7 (by lia)]
   exact cE (q H1 s1)
  ·rw[cD (by lia)]
   exact eF ⟨dl rfl,q H1 s1⟩
theorem nU:Ok T T.nM 6 Ah:=by
 have gY:=gY T;have fk:=fk T;refine T.nM.ok gU fun _ A _ s H vs Q E hr h=>?_
 ·obtain⟨wb,p,ts,g,rfl,hw,h8,q⟩:=h;refine⟨_,(ah (aG (i:=1) gU.nd rfl (Or.inl rfl) (dQ (aa aj af)))
   (ah (eE PassesOwn.never rfl (m8 K (aF gY hr T.nJ.c aJ (aa (pv 0) af))) (bf 2 gU.nd)
   (ah (aG (i:=3) gU.nd rfl (Or.inr rfl) (aF fk hr T.jf.c jV (aa (pv 0) (aa (pv 2) af))))
   (av (aG (i:=1) gU.nd rfl (Or.inl rfl) (aK (RO K) (pv 1) (bz (own:=["even"]) (fq:=["ring"]) (js:=[3]) (aE (ai kj) ["web","found","chord","ring"]) rfl (m8 K (pv 1)) (fun _ _ _ _=>(bf 0 (jS ["even","ring"]))) (fun _ _ _ _=>bQ) (fun _ _ _ _=>(aK gi (pv 0) (pv 1)))))))))
   (av (aH (pv 1))))),?_⟩
  refine oZ ?_;intro cg cS dJ fE;have wl:=g.len;refine⟨dl rfl,fun F hF=>?_⟩
  have s1:aq H (upd H F (.lst [.int 0])):=aq.new hF;have X5:upd H F (.lst [.int 0]) F=some (.lst (ay (RM.vN g.N 0))):=by rw[RM.Kn];exact ae
  generalize upd H F (.lst [.int 0])=H1 at s1 X5;refine(au rfl ⟨wb,p,ts,g,rfl,hw.same s1,fun C H2 hC s2 Am=>?_⟩)
  refine⟨C,rfl,⟨_,aM.of Am⟩,cT (K:=K) (a:=C) (xs:=ay g.N.az) (fun i σ H3=>∃ D v2 v3,σ=[some (.ref wb),some (.ref D),v2,v3]/\H D=none/\aq H H3/\H3 C=some (.lst (ay g.N.az))/\H3 D=some (.lst (ay (RM.vN g.N i)))) ⟨F,none,none,rfl,hF,s1.trans s2,Am,s2 _ _ X5⟩ (fun i σ H3 _ ⟨_,_,_,_,_,_,z,_⟩=>aM.of z) ?_ ?_⟩
  ·rintro i y D' σ H3 hi ⟨D,v2,v3,rfl,hD,s3,X6,qU⟩;obtain⟨c,CC,rfl⟩:=cf hi;have hcm:=iT CC;have A5:=(jQ.mp CC).1;have el:(RM.vN g.N i).length=2^i:=by unfold RM.vN;rw[List.length_map,List.length_range]
   have pw:(2:Nat)^i<=2^7:=Nat.pow_le_pow_right (by decide) (by lia)
   refine(au rfl (au rfl ⟨wb,p,ts,g,_,rfl,hw.same s3,.inl ⟨c,rfl,hcm,fun H4 s4=>?_⟩⟩))
   have sM:=s4 _ _ qU;refine(au rfl (au rfl ⟨D,rfl,⟨_,aM.of sM⟩,fun X hX=>aZ (K:=K) (a:=D) (xs:=ay (RM.vN g.N i)) (fun k acc H5=>aq H4 H5/\H5 X=some (.lst acc)/\acc=ay (((RM.vN g.N i).take k).map fun e=>e^^^g.N.ring c)) ⟨aq.new hX,ae,rfl⟩ (fun k acc H5 _ z=>⟨aM.of (z.1 _ _ sM),z.2.1,by rw[z.2.2,aB,List.length_map,List.length_take];lia⟩) (Nat.le_of_lt (dw (by rw[aB];lia))) ?_ ?_⟩))
   ·rintro k x acc H5 hx ⟨s5,QJ,rfl⟩;obtain⟨e,hek,rfl⟩:=cf hx;refine⟨rfl,au rfl (au rfl (cy ⟨QJ,s5.put hX,ae,?_⟩))⟩;rw[take3 hek,List.map_append,List.map_singleton,bE];show _++[V.int (Builtin.bitXor _ _)]=_;rw[xor_int]
   ·rintro acc H5 ⟨s5,QJ,rfl⟩;rw[aB,List.take_length]at QJ;have X7:=s3.trans (s4.trans s5);refine⟨D,X,_,_,rfl,rfl,aM.of (s5 _ _ sM),aM.of QJ,?_,fun l hl=>?_⟩
    ·rw[aB,aB,List.length_map];exact Nat.le_of_lt (dw (by lia))
    ·refine⟨l,_,_,rfl,X7.free hl,X7.trans (aq.new hl),?_,?_⟩
     ·exact aq.new hl _ _ ((s4.trans s5) _ _ X6)
     ·rw[ae,RM.Ko CC];unfold ay;rw[List.map_append]
  ·rintro σ H3 ⟨D,v2,v3,rfl,hD,s3,X6,qU⟩;rw[aB]at qU;exact(au rfl (q D H3 hD s3 qU))
theorem gB:Ea T T.kq 10 (Ai a.k9 a.cY cI):=by
 have fu:=fu T;have nU:=nU T;have fj:=fj T;have gA:=gA T;refine T.kq.AE zB fun _ A _ s H vs Q E hr h=>?_
 ·obtain⟨wb,p,ts,g,rfl,hw,htb,q⟩:=h;refine⟨_,(ah (cR (aF fu hr T.jh.c dm.passes (aa (pv 0) af)))
   (av (aH (aF gA hr T.iQ.c aJ (aa (pv 0) (aa (bz (own:=["even"]) (fq:=["web"]) (js:=[0]) (aE (ai ko) ["web"]) rfl (m8 K (aF nU hr T.nM.c aJ (aa (pv 0) af))) (fun _ _ _ _=>(bf 0 (jS ["even","web"]))) (fun _ _ _ _=>(eN (c9 (aF fj hr T.lg.c jV (aa (pv 1) (aa (pv 0) af)))))) (fun _ _ _ _=>(pv 0))) af)))))),?_⟩
  refine fN ?_;intro cg;rcases q with⟨h8,h9,q⟩|⟨h8,q⟩
  ·refine(au rfl ⟨wb,p,ts,g,rfl,hw,.inl ⟨h8,fun H1 s1=>?_⟩⟩)
   refine(au rfl (au rfl ⟨wb,p,ts,g,rfl,hw.same s1,h8,fun D H2 hD s2 iV=>?_⟩))
   have el:(RM.vN g.N g.N.az.length).length=2^g.N.az.length:=by unfold RM.vN;rw[List.length_map,List.length_range]
   have pw:(2:Nat)^g.N.az.length<=2^8:=Nat.pow_le_pow_right (by decide) h8
   refine⟨D,rfl,⟨_,aM.of iV⟩,fun X hX=>aZ (K:=K) (a:=D) (xs:=ay (RM.vN g.N g.N.az.length)) (fun i acc H3=>aq H2 H3/\H3 X=some (.lst acc)/\acc=ay (((RM.vN g.N g.N.az.length).take i).filter fun e=>kZ p ts g e)) ⟨aq.new hX,ae,rfl⟩ (fun i acc H3 _ z=>⟨aM.of (z.1 _ _ iV),z.2.1,?_⟩) (Nat.le_of_lt (dw (by rw[aB];lia))) ?_ ?_⟩
   ·rw[z.2.2,aB];exact Nat.le_trans (List.length_filter_le _ _) (by rw[List.length_take];lia)
   ·rintro i x acc H3 hx ⟨s3,lB,rfl⟩;obtain⟨e,hei,rfl⟩:=cf hx;have he:=RM.Fl.mp (iT hei);refine⟨rfl,au rfl (au rfl ⟨wb,p,ts,g,_,rfl,hw.same ((s1.trans s2).trans s3),.inl ⟨e,rfl,he.2,fun H4 s4=>(au rfl (?_))⟩⟩)⟩
    cases hb:kZ p ts g e with
    | true =>
      refine eF (au rfl ⟨s4 _ _ lB,(s3.trans s4).put hX,ae,?_⟩);rw[take3 hei,List.filter_append,List.filter_cons,if_pos hb];exact(bE _ _).symm
    | false =>
      refine cE ⟨s3.trans s4,s4 _ _ lB,?_⟩;rw[take3 hei,List.filter_append,List.filter_cons,if_neg (by rw[hb];decide),List.filter_nil,List.append_nil]
   ·rintro acc H3 ⟨s3,lB,rfl⟩;rw[aB,List.take_length]at lB;have nO:=(s1.trans s2).trans s3;have mem:∀ m,m∈((RM.vN g.N g.N.az.length).filter fun e=>kZ p ts g e)↔m<2^ts.length/\g.N.Ring m:=fun m=>by
     rw[List.mem_filter,RM.Fl];exact⟨fun z=>⟨z.1.2,(k6 g z.1.2).mp z.2⟩,fun z=>⟨⟨z.2.2.1,z.1⟩,(k6 g z.1).mpr z.2⟩⟩
    have nd:((RM.vN g.N g.N.az.length).filter fun e=>kZ p ts g e).Nodup:=List.Pairwise.filter _ RM.GL
    refine⟨wb,p,ts,g,X,_,rfl,hw.same nO,lB,RM.vM (N:=g.N) h9 nd fun m hm=>(mem m).mp hm,fun m hm=>((mem m).mp hm).1,nO _ _ htb,fun D2 l H4 Wq s4 sM pm pwl=>?_⟩
    exact q D2 l H4 (nO.free Wq) (nO.trans s4) sM ⟨pwl,pm.nodup_iff.mpr nd,fun r=>by rw[pm.mem_iff];exact mem r⟩
  ·exact(au rfl ⟨wb,p,ts,g,rfl,hw,.inr ⟨h8,q⟩⟩)
def xD(C R:Addr):Sp:=fun vs H Q E=>∃ w p ts,∃ g:aC p ts,∃ S,vs=[.ref w,.int S]/\aY H w p ts/\nN ts S (∀ H',aq H H'->E (.ref C) none H') fun m=>(g.N.Ring m->∀ H',aq H H'->Q .fD H')/\(¬ g.N.Ring m->∀ H',aq H H'->E (.ref R) none H')
theorem mL:Ea T T.mw 8 (xD a.dD a.oM):=by
 have fj:=fj T;refine T.mw.AE wW fun _ A _ s H vs Q E hr h=>?_
 ·obtain⟨wb,p,ts,g,S,rfl,hw,q⟩:=h;refine⟨_,(av (b7 (o8 (c9 (aF fj hr T.lg.c dm.passes (aa (pv 0) (aa (pv 1) af))))) (av (m9 dm.RJ rfl (by rfl) T.Hu PySem.F.excBase_ValueError (aa fF af))) aW)),?_⟩
  refine lO ?_;intro cg;refine(au rfl (au rfl ⟨wb,p,ts,g,S,rfl,hw,?_⟩));rcases q with⟨m,rfl,hm,q1,q2⟩|⟨hS,q⟩
  ·refine .inl ⟨m,rfl,hm,fun H1 s1=>?_⟩
   by_cases r:g.N.Ring m
   ·rw[(k6 g hm).mpr r];exact(au rfl (cE (q1 r H1 s1)))
   ·rw[show kZ p ts g m=false from N3.mpr fun z=>r ((k6 g hm).mp z)]
    exact(au rfl (eF ⟨dl rfl,q2 r H1 s1⟩))
  ·exact .inr ⟨hS,q⟩
def xE(ts:List c6)(l:List Nat)(m:Nat):List Nat:=l.filter fun c=>decide (lenOf ts c<lenOf ts m)
def wG(ts:List c6)(l:List Nat)(m:Nat):List Nat:=l.filter fun c=>!decide (c=m)&&decide (lenOf ts c<=lenOf ts m)
def Eo(t:Addr)(lp:Pos):Sp:=fun vs H Q _=>∃ w p ts,∃ g:aC p ts,∃ m:Nat,vs=[.ref w,.int (m:Int)]/\aY H w p ts/\m<2^ts.length/\H t=some (.ju (eI (nu "by_length") lp))/\g.N.az.length<=8/\ts.length<=9/\
 ∀ D l H',H D=none->aq H H'->H' D=some (.lst (ay (xE ts l m)))->sQ p ts g l->Q (.ref D) H'
def K9(t:Addr)(lp:Pos):Sp:=fun vs H Q _=>∃ w p ts,∃ g:aC p ts,∃ m:Nat,vs=[.ref w,.int (m:Int)]/\aY H w p ts/\m<2^ts.length/\H t=some (.ju (eI (nu "by_length") lp))/\g.N.az.length<=8/\ts.length<=9/\
 ∀ D l H',H D=none->aq H H'->H' D=some (.lst (ay (wG ts l m)))->sQ p ts g l->Q (.ref D) H'
structure La(B:List Nat)(m:Nat)(C:List Nat):Prop where
 up:C.Pairwise (· < ·)
 mem:∀ c∈C,c∈B
 sum:xorL C=m
def Cp:Sp:=fun vs H Q _=>∃(l r:Addr) (B:List Nat) (rows:List RM.Row3) (m:Nat),vs=[.ref l,.ref r,.int (m:Int)]/\H l=some (.lst (ay B))/\gH H r rows/\RM.Rw B rows/\B.length<64/\B.Nodup/\RM.Sp B m/\
 ∀ D C H',H D=none->aq H H'->H' D=some (.lst (ay C))->La B m C->Q (.ref D) H'
def Ep:Sp:=fun vs H Q _=>∃(r:Addr) (B:List Nat) (rows:List RM.Row3) (N:RM.Net) (m:Nat),vs=[.ref r,.int (m:Int)]/\gH H r rows/\RM.Rw B rows/\B.length<64/\N.n<=24/\(∀ b∈B,b<2^N.n)/\m<2^N.n/\¬ RM.Sp B m/\
 ∀(M:Nat) H',aq H H'->M<2^N.n->N.par m M=true->(∀ b∈B,N.par b M=false)->Q (.int (M:Int)) H'
def FD(p:Nat)(ts:List c6)(g:aC p ts)(l:List Nat)(m:Nat)(H0 H:Hp)(c:Addr):Prop :=
 (∃ D C,H c=some (.tup [.str "none",.ref D])/\H0 D=none/\H D=some (.lst (ay C))/\RM.Sp (xE ts l m) m/\La (xE ts l m) m C)\/
 (∃ M:Nat,H c=some (.tup [.str "every",.int (M:Int)])/\¬ RM.Sp (wG ts l m) m/\M<2^ts.length/\g.N.par m M=true/\∀ b∈wG ts l m,g.N.par b M=false)\/
 (∃ D C,∃ M:Nat,H c=some (.tup [.str "some",.int (M:Int),.ref D])/\H0 D=none/\H D=some (.lst (ay C))/\¬ RM.Sp (xE ts l m) m/\RM.Sp (wG ts l m) m/\M<2^ts.length/\g.N.par m M=true/\(∀ b∈xE ts l m,g.N.par b M=false)/\La (wG ts l m) m C)
def Lb(CT CB CN t:Addr)(lp:Pos):Sp:=fun vs H Q E=>∃ w p ts,∃ g:aC p ts,∃ S:Int,vs=[.ref w,.int S]/\aY H w p ts/\H t=some (.ju (eI (nu "by_length") lp))/\
 ((8<g.N.az.length/\∀ H',aq H H'->E (.ref CT) none H')\/(g.N.az.length<=8/\ts.length<=9/\nN ts S (∀ H',aq H H'->E (.ref CB) none H') fun m=>(g.N.Ring m->∀ c l H',aq H H'->sQ p ts g l->FD p ts g l m H H' c->Q (.ref c) H')/\(¬ g.N.Ring m->∀ H',aq H H'->E (.ref CN) none H')))
theorem P8{ts:List c6}{l:List Nat}{m c:Nat}(h:c∈xE ts l m):c∈wG ts l m:=by
 obtain⟨h1,h2⟩:=List.mem_filter.mp h;have h2:lenOf ts c<lenOf ts m:=i8 h2;refine List.mem_filter.mpr ⟨h1,N4.mpr ⟨?_,cD (by lia)⟩⟩
 rw[c7 fun e=>by rw[e]at h2;lia]
 rfl
theorem i0:Ok T T.iY 11 (Eo a.cY cI):=by
 have b8:=b8 T;have gB:=gB T;refine T.iY.ok k8 fun _ A _ s H vs Q E hr h=>?_
 ·obtain⟨wb,p,ts,g,m,rfl,hw,hm,htb,h8,h9,q⟩:=h;refine⟨_,(ah (aG (i:=2) k8.nd rfl (Or.inr rfl) (aF b8 hr T.eU.c jV (aa (pv 0) (aa (pv 1) af))))
   (av (aH (bz (own:=["other"]) (fq:=["web","length"]) (js:=[0,2]) (aE (ai fW) ["web","ring","length"]) rfl (m8 K (aF gB hr T.kq.c jV (aa (pv 0) af))) (fun _ _ _ _=>(bf 0 (jS ["other","web","length"]))) (fun _ _ _ _=>(eN (aL xN (aF b8 hr T.eU.c jV (aa (pv 1) (aa (pv 0) af))) (pv 2) (aO _)))) (fun _ _ _ _=>(pv 0)))))),?_⟩
  refine fN ?_;intro cg;have W:=g.F5;refine(au rfl (au rfl ⟨wb,p,ts,_,rfl,hw,W,.inl ⟨m,rfl,hm,fun H1 s1=>?_⟩⟩))
  refine(au rfl ⟨wb,p,ts,g,rfl,hw.same s1,s1 _ _ htb,.inl ⟨h8,h9,fun D l H2 hD s2 iV R=>?_⟩⟩)
  have N1:=R.few h9;refine⟨D,rfl,⟨_,aM.of iV⟩,fun X hX=>aZ (K:=K) (a:=D) (xs:=ay l) (fun i acc H3=>aq H2 H3/\H3 X=some (.lst acc)/\acc=ay (xE ts (l.take i) m)) ⟨aq.new hX,ae,rfl⟩ (fun i acc H3 _ z=>⟨aM.of (z.1 _ _ iV),z.2.1,?_⟩) (Nat.le_of_lt (dw (by rw[aB];lia))) ?_ ?_⟩
  ·rw[z.2.2,aB];exact Nat.le_trans (List.length_filter_le _ _) (by rw[List.length_take];lia)
  ·rintro i x acc H3 hx ⟨s3,lB,rfl⟩;obtain⟨c,CC,rfl⟩:=cf hx;have hc:=((R.all c).mp (iT CC)).1;refine⟨rfl,au rfl (au rfl ⟨wb,p,ts,_,rfl,hw.same ((s1.trans s2).trans s3),W,.inl ⟨c,rfl,hc,fun H4 s4=>(au rfl (cy (au rfl (lE (fun h=>?_) (fun h=>?_)))))⟩⟩)⟩
   ·refine(au rfl ⟨s4 _ _ lB,(s3.trans s4).put hX,ae,?_⟩);unfold xE;rw[take3 CC,List.filter_append,List.filter_cons,if_pos h];exact(bE _ _).symm
   ·refine⟨s3.trans s4,s4 _ _ lB,?_⟩;unfold xE;rw[take3 CC,List.filter_append,List.filter_cons,if_neg h,List.filter_nil,List.append_nil]
  ·rintro acc H3 ⟨s3,lB,rfl⟩;rw[aB,List.take_length]at lB;exact q X l H3 ((s1.trans s2).free hX) ((s1.trans s2).trans s3) lB R
theorem kR:Ok T T.kN 11 (K9 a.cY cI):=by
 have b8:=b8 T;have gB:=gB T;refine T.kN.ok nE fun _ A _ s H vs Q E hr h=>?_
 ·obtain⟨wb,p,ts,g,m,rfl,hw,hm,htb,h8,h9,q⟩:=h;refine⟨_,(ah (aG (i:=2) nE.nd rfl (Or.inr rfl) (aF b8 hr T.eU.c jV (aa (pv 0) (aa (pv 1) af))))
   (av (aH (bz (own:=["other"]) (fq:=["web","ring","length"]) (js:=[0,1,2]) (aE (ai iJ) ["web","ring","length"]) rfl (m8 K (aF gB hr T.kq.c jV (aa (pv 0) af))) (fun _ _ _ _=>(bf 0 (jS ["other","web","ring","length"]))) (fun _ _ _ _=>(eN (PW.pt (mZ (aL uF (pv 0) (pv 2) (aO _)) (jT (aL EF (aF b8 hr T.eU.c jV (aa (pv 1) (aa (pv 0) af))) (pv 3) (aO _))))))) (fun _ _ _ _=>(pv 0)))))),?_⟩
  refine fN ?_;intro cg;have W:=g.F5;refine(au rfl (au rfl ⟨wb,p,ts,_,rfl,hw,W,.inl ⟨m,rfl,hm,fun H1 s1=>?_⟩⟩))
  refine(au rfl ⟨wb,p,ts,g,rfl,hw.same s1,s1 _ _ htb,.inl ⟨h8,h9,fun D l H2 hD s2 iV R=>?_⟩⟩)
  have N1:=R.few h9;refine⟨D,rfl,⟨_,aM.of iV⟩,fun X hX=>aZ (K:=K) (a:=D) (xs:=ay l) (fun i acc H3=>aq H2 H3/\H3 X=some (.lst acc)/\acc=ay (wG ts (l.take i) m)) ⟨aq.new hX,ae,rfl⟩ (fun i acc H3 _ z=>⟨aM.of (z.1 _ _ iV),z.2.1,?_⟩) (Nat.le_of_lt (dw (by rw[aB];lia))) ?_ ?_⟩
  ·rw[z.2.2,aB];exact Nat.le_trans (List.length_filter_le _ _) (by rw[List.length_take];lia)
  ·rintro i x acc H3 hx ⟨s3,lB,rfl⟩;obtain⟨c,CC,rfl⟩:=cf hx;have hc:=((R.all c).mp (iT CC)).1;refine⟨rfl,au rfl (au rfl ⟨rfl,au rfl (?_)⟩)⟩;have tk:wG ts (l.take (i+1)) m=wG ts (l.take i) m++(if(!decide (c=m)&&decide (lenOf ts c<=lenOf ts m))=true then[c] else[]):=by
    unfold wG;rw[take3 CC,List.filter_append,List.filter_cons,List.filter_nil]
   by_cases e:c=m
   ·rw[cD (show V.int (c:Int)=V.int (m:Int) by rw[e])]
    refine cE (cE ⟨s3,lB,?_⟩);rw[tk,cD e,Bool.not_true,Bool.false_and,if_neg Bool.false_ne_true,List.append_nil]
   ·rw[c7 (show ¬ V.int (c:Int)=V.int (m:Int) from fun z=>e (by have:=V.int.inj z;lia))]
    refine eF (au rfl (au rfl ⟨wb,p,ts,_,rfl,hw.same ((s1.trans s2).trans s3),W,.inl ⟨c,rfl,hc,fun H4 s4=>(au rfl (cy (au rfl (lE (fun h=>?_) (fun h=>?_)))))⟩⟩))
    ·refine(au rfl ⟨s4 _ _ lB,(s3.trans s4).put hX,ae,?_⟩);rw[tk,c7 e,h];exact(bE _ _).symm
    ·refine⟨s3.trans s4,s4 _ _ lB,?_⟩;rw[tk,N3.mpr h,Bool.and_false,if_neg Bool.false_ne_true,List.append_nil]
  ·rintro acc H3 ⟨s3,lB,rfl⟩;rw[aB,List.take_length]at lB;exact q X l H3 ((s1.trans s2).free hX) ((s1.trans s2).trans s3) lB R
theorem mO:Ok T T.mC 3 Cp:=by
 have cO:=cO T;have bj:=bj T;refine T.mC.ok BH fun _ A _ s H vs Q E hr h=>?_
 ·obtain⟨l,r,B,rows,m,rfl,hl,hR,P9,B64,nd,hs,q⟩:=h;refine⟨_,(av (aH (cW (sortedK K) (by rfl) T.wg PyProof.Rows.boot_sorted (aa (bz (own:=["place"]) (fq:=["rings"]) (js:=[0]) (aE (ai lW) ["rings","rows","ring"]) rfl (m8 K (aF bj hr T.ff.c aJ (aa (aI (cz K) (aF cO hr T.iB.c aJ (aa (pv 1) (aa (pv 2) af))) aj) af))) (fun _ _ _ _=>(bf 0 (jS ["place","rings"]))) (fun _ _ _ _=>bQ) (fun _ _ _ _=>(aI (jR K) (pv 1) (pv 0)))) af)))),?_⟩
  obtain⟨u1,u2⟩:=P9.parts hs;refine(au rfl (au rfl ⟨r,rows,m,rfl,hR,fun c H1 s1 hc=>(cC (aV.of hc) (ak (j:=1) rfl) (au rfl ⟨Nat.le_trans (bits_le u1) (by lia),fun D H2 hD s2 iV=>?_⟩))⟩))
  rw[fL u1]at iV;generalize (RM.bA rows m 0).2=u at u1 u2 iV;have hl2:=(s1.trans s2) _ _ hl;have fl:((List.range B.length).filter fun k=>u.testBit k).length<=B.length:=by
   have:=List.length_filter_le (fun k=>u.testBit k) (List.range B.length)
   rwa [List.length_range]at this
  refine⟨D,rfl,⟨_,aM.of iV⟩,fun X hX=>aZ (K:=K) (a:=D) (xs:=ay ((List.range B.length).filter fun k=>u.testBit k)) (fun i acc H3=>aq H2 H3/\H3 X=some (.lst acc)/\acc=ay ((((List.range B.length).filter fun k=>u.testBit k).take i).map fun k=>B.getD k 0)) ⟨aq.new hX,ae,rfl⟩ (fun i acc H3 _ z=>⟨aM.of (z.1 _ _ iV),z.2.1,by rw[z.2.2,aB,List.length_map,List.length_take];lia⟩) (Nat.le_of_lt (dw (by rw[aB];lia))) ?_ ?_⟩
  ·rintro i x acc H3 hx ⟨s3,lB,rfl⟩;obtain⟨k,hki,rfl⟩:=cf hx;have hk:=List.mem_range.mp (List.mem_filter.mp (iT hki)).1;have hBk:(ay B)[k]?=some (.int ((B.getD k 0:Nat):Int)):=by
    unfold ay;rw[List.getElem?_map,List.getD_eq_getElem?_getD,List.getElem?_eq_getElem hk];rfl
   refine⟨rfl,au rfl (au rfl (jM (aM.of (s3 _ _ hl2)) (ak (j:=k) hBk) ⟨lB,s3.put hX,ae,?_⟩))⟩;rw[take3 hki,List.map_append,List.map_singleton];exact(bE _ _).symm
  ·rintro acc H3 ⟨s3,lB,rfl⟩;rw[aB,List.take_length]at lB;have lB:H3 X=some (.lst (ay (RM.pick B u))):=lB;have pl:(RM.pick B u).length<=B.length:=by unfold RM.pick;rw[List.length_map];exact fl
   rw[gn]at lB;refine⟨X,_,rfl,aM.of lB,by rw[List.length_map];lia,fun Y ns' hY pm pw=>?_⟩
   obtain⟨C,rfl⟩:=K3 (l:=ns') fun x hx=>by
    obtain⟨c,_,rfl⟩:=List.mem_map.mp (pm.mem_iff.mp hx)
    lia
   have Wr:C.Perm (RM.pick B u):=by
    have:=pm.map Int.toNat;have e:∀ l:List Nat,(l.map fun x=>((x:Nat):Int)).map Int.toNat=l:=fun l=>by
     rw[List.map_map];exact(List.map_congr_left fun x _=>Int.toNat_natCast x).trans (List.map_id _)
    rwa [e,e]at this
   have ndC:C.Nodup:=Wr.nodup_iff.mpr (RM.DF nd u);have s4:aq H3 (upd H3 Y (.lst ((C.map fun x=>((x:Nat):Int)).map V.int))):=aq.new hY
   have nO:=(s1.trans s2).trans s3;refine q Y C _ (nO.free hY) (nO.trans s4) (by rw[gn];exact ae) ⟨?_,fun c hc=>RM.Ku (Wr.mem_iff.mp hc),by rw[Gm Wr];exact u2⟩
   rw[List.pairwise_map]at pw;exact(pw.and ndC).imp fun {x y} h=>by lia
theorem gh:Ok T T.gb 3 Ep:=by
 have cO:=cO T;have bj:=bj T;have bF:=bF T;refine T.gb.ok bZ fun _ A _ s H vs Q E hr h=>?_
 ·obtain⟨r,B,rows,N,m,rfl,hR,P9,B64,n24,hb',hm,hs,q⟩:=h;refine⟨_,(ah (aG (i:=2) bZ.nd rfl (Or.inl rfl) (aI (jR K) (aF bj hr T.ff.c aJ (aa (aI (cz K) (aF cO hr T.iB.c aJ (aa (pv 0) (aa (pv 1) af))) aj) af)) aj))
   (ah (aG (i:=3) bZ.nd rfl (Or.inl rfl) (aK kD aj (pv 2)))
   (ah (eE PassesOwn.never rfl (m8 K (pv 0)) (HY K (n:=3) rfl (aP (bf 4 bZ.nd) (aP (bf 5 bZ.nd) (aP (bf 6 bZ.nd) eW))))
   (av (b7 (c9 (aF bF hr T.gz.c aJ (aa (pv 5) (aa (pv 2) af)))) (av (uC (i:=3) bZ.nd rfl (Or.inl rfl) (aK kD aj (pv 4)) CQ)) aW)))
   (av (aH (pv 3)))))),?_⟩
  refine rV ?_;intro cg cS dJ fE gO;refine(au rfl (au rfl ⟨r,rows,m,rfl,hR,fun c H1 s1 hc=>(cC (aV.of hc) (ak (j:=0) rfl) (?_))⟩))
  have lz:(RM.bA rows m 0).1≠0:=fun z=>hs ((P9.dZ m 0).mp z)
  have Px:(RM.bA rows m 0).1<2^N.n:=by
   have Ua:RM.Sp (rows.map fun q=>q.2.1) (m^^^(RM.bA rows m 0).1):=by
    have:=RM.qv (rows.map RM.two) m
    rwa [RM.map_two,<-RM.jI rows m 0]at this
   have:=Nat.xor_lt_two_pow hm (Ua.lt fun y hy=>by
    obtain⟨q,hq,rfl⟩:=List.mem_map.mp hy;exact RM.zg P9 hb' q hq)
   rwa [<-Nat.xor_assoc,Nat.xor_self,Nat.zero_xor]at this
  refine(au rfl ⟨Nat.le_trans (bits_le Px) (by lia),fun D H2 hD s2 iV=>?_⟩)
  obtain⟨t,r0,et⟩:∃ t r0,bu (((RM.bA rows m 0).1:Nat):Int)=t::r0:=by
   cases h:bu (((RM.bA rows m 0).1:Nat):Int) with
   | cons t r0=>exact⟨t,r0,rfl⟩
   | nil =>
     exfalso
     rw[fL Px]at h;refine lz (Nat.eq_of_testBit_eq fun k=>?_)
     rw[Nat.zero_testBit];cases hk:(RM.bA rows m 0).1.testBit k with
     | false=>rfl
     | true =>
       have:=List.mem_filter.mpr ⟨List.mem_range.mpr (RM.bB Px hk),hk⟩;rw[h]at this;cases this
  have ht:(RM.bA rows m 0).1.testBit t=true:=by
   have:t∈bu (((RM.bA rows m 0).1:Nat):Int):=by rw[et];exact List.mem_cons_self
   rw[fL Px]at this;exact(List.mem_filter.mp this).2
  rw[et]at iV;refine(jM (aM.of iV) (ak (j:=0) rfl) (?_));obtain⟨M1,M2,M3⟩:=RM.GO P9 hb' hm ht;have tn:=RM.bB Px ht;have LF:=(hR.same s1).same s2;obtain⟨xs,hl,pr⟩:=id LF;have s12:=s1.trans s2;refine(au rfl (cy ⟨⟨by lia,by lia,by decide⟩,?_⟩))
  refine(au rfl ⟨r,rfl,⟨_,aM.of hl⟩,cT (K:=K) (a:=r) (xs:=xs) (fun i σ H3=>∃(z:Int) (v4 v5 v6:Option V),σ=[some (.ref r),some (.int (m:Int)),some (.int (t:Int)),some (.int z),v4,v5,v6]/\z=(((rows.take i).foldl (fun M q=>if q.2.1.testBit t=true then M ||| 2^q.1 else M) (Ring.orM [t]):Nat):Int)/\H3=H2) ⟨_,none,none,none,rfl,?_,rfl⟩ (fun i σ H3 _ ⟨_,_,_,_,_,_,z⟩=>by rw[z];exact aM.of hl) ?_ ?_⟩)
  ·rw[jY];show _=((Ring.orM [t]:Nat):Int)
   congr 1
   unfold Ring.orM;rw[List.foldl_cons,List.foldl_nil,Nat.zero_or]
  ·rintro i y D' σ H3 hi ⟨z,v4,v5,v6,rfl,ez,rfl⟩;obtain⟨qq,hq,b,rfl,hb⟩:=Paired.qf pr hi;refine⟨b,_,rfl,aV.of hb,rfl,_,_,rfl,_,_,rfl,_,_,rfl,rfl,?_⟩;refine(au rfl (au rfl ⟨_,t,rfl,au rfl (?_)⟩));rw[eX];have e3:(rows.take (i+1)).foldl (fun M q=>if q.2.1.testBit t=true then M ||| 2^q.1 else M) (Ring.orM [t])=(fun M=>if qq.2.1.testBit t=true then M ||| 2^qq.1 else M) ((rows.take i).foldl (fun M q=>if q.2.1.testBit t=true then M ||| 2^q.1 else M) (Ring.orM [t])):=by
    rw[take3 hq,List.foldl_append];rfl
   have ql:qq.1<N.n:=RM.bB (RM.zg P9 hb' qq (iT hq)) (P9.own qq (iT hq));cases ni:qq.2.1.testBit t with
   | true =>
     refine eF (au rfl (au rfl (cy ⟨⟨by lia,by lia,by decide⟩,cy ⟨_,some (.int (qq.1:Int)),some (.int (qq.2.1:Int)),some (.int (qq.2.2:Int)),rfl,?_,rfl⟩⟩)))
     rw[e3,ez];dsimp only;rw[if_pos ni,jY,or_int]
   | false =>
     refine cE ⟨z,some (.int (qq.1:Int)),some (.int (qq.2.1:Int)),some (.int (qq.2.2:Int)),rfl,?_,rfl⟩;rw[e3,ez];dsimp only;rw[if_neg (by rw[ni];decide)]
  ·rintro σ H3 ⟨z,v4,v5,v6,rfl,ez,rfl⟩;rw[pr.length,List.take_length,RM.pF]at ez;subst ez;exact(au rfl (q _ _ s12 M1 M2 M3))
theorem mP:Ea T T.mD 12 (Lb a.k9 a.dD a.oM a.cY cI):=by
 have fu:=fu T;have mL:=mL T;have i0:=i0 T;have eg:=eg T;have cO:=cO T;have mO:=mO T;have kR:=kR T;have gh:=gh T;refine T.mD.AE fR fun _ A _ s H vs Q E hr h=>?_
 ·obtain⟨wb,p,ts,g,S,rfl,hw,htb,q⟩:=h;refine⟨_,(ah (cR (aF fu hr T.jh.c dm.passes (aa (pv 0) af)))
   (ah (cR (aF mL hr T.mw.c dm.passes (aa (pv 0) (aa (pv 1) af))))
   (ah (aG (i:=2) fR.nd rfl (Or.inl rfl) (aF i0 hr T.iY.c aJ (aa (pv 0) (aa (pv 1) af))))
   (ah (aG (i:=3) fR.nd rfl (Or.inl rfl) (aF eg hr T.jt.c aJ (aa (pv 2) af)))
   (ah (b7 (aL dI (aI (cz K) (aF cO hr T.iB.c aJ (aa (pv 3) (aa (pv 1) af))) aj) aj (aO _)) (av (aH (cP (aa fF (aa (aF mO hr T.mC.c aJ (aa (pv 2) (aa (pv 3) (aa (pv 1) af)))) af))))) aW)
   (ah (aG (i:=4) fR.nd rfl (Or.inl rfl) (aF kR hr T.kN.c aJ (aa (pv 0) (aa (pv 1) af))))
   (ah (aG (i:=5) fR.nd rfl (Or.inl rfl) (aF eg hr T.jt.c aJ (aa (pv 4) af)))
   (ah (b7 (aL uG (aI (cz K) (aF cO hr T.iB.c aJ (aa (pv 5) (aa (pv 1) af))) aj) aj (aO _)) (av (aH (cP (aa fF (aa (aF gh hr T.gb.c aJ (aa (pv 5) (aa (pv 1) af))) af))))) aW)
   (av (aH (cP (aa fF (aa (aF gh hr T.gb.c aJ (aa (pv 3) (aa (pv 1) af))) (aa (aF mO hr T.mC.c aJ (aa (pv 4) (aa (pv 5) (aa (pv 1) af)))) af)))))))))))))),?_⟩
  refine w4 ?_;intro cg cS dJ fE gO o4 yD Fp Fq Ft;rcases q with⟨h8,q⟩|⟨h8,h9,q⟩
  ·exact(au rfl ⟨wb,p,ts,g,rfl,hw,.inr ⟨h8,q⟩⟩)
  refine(au rfl ⟨wb,p,ts,g,rfl,hw,.inl ⟨h8,fun H1 s1=>?_⟩⟩)
  refine(au rfl (au rfl ⟨wb,p,ts,g,S,rfl,hw.same s1,?_⟩));rcases q with⟨m,rfl,hm,q1,q2⟩|⟨hS,q⟩
  case inr=>exact .inr ⟨hS,fun H' s'=>q H' (s1.trans s')⟩
  refine .inl ⟨m,rfl,hm,fun r H2 s2=>?_,fun r H2 s2=>q2 r H2 (s1.trans s2)⟩
  have q:=q1 r;clear q1 q2;have s12:=s1.trans s2;refine(au rfl (au rfl ⟨wb,p,ts,g,m,rfl,hw.same s12,hm,s12 _ _ htb,h8,h9,fun D l H3 hD s3 qU R=>?_⟩))
  have N1:=R.few h9;have shl:(xE ts l m).length<=l.length:=List.length_filter_le _ _;have otl:(wG ts l m).length<=l.length:=List.length_filter_le _ _;have shd:(xE ts l m).Nodup:=List.Pairwise.filter _ R.nd;have otd:(wG ts l m).Nodup:=List.Pairwise.filter _ R.nd;have slt:∀ b∈xE ts l m,b<2^ts.length:=fun b hb=>((R.all b).mp (List.mem_filter.mp hb).1).1
  have olt:∀ b∈wG ts l m,b<2^ts.length:=fun b hb=>((R.all b).mp (List.mem_filter.mp hb).1).1
  refine(au rfl ⟨D,_,rfl,qU,by lia,fun l4 rows H4 s4 NY Ur _=>?_⟩)
  refine(au rfl (au rfl ⟨l4,rows,m,rfl,NY,fun c H5 s5 hc=>?_⟩))
  have NV:=((s12.trans s3).trans s4).trans s5;have LA:=(s4.trans s5) _ _ qU;have Ui:=NY.same s5;refine(cC (aV.of hc) (ak (j:=0) rfl) ⟨rfl,au rfl (?_)⟩)
  by_cases h0:(RM.bA rows m 0).1=0
  ·have qO:=(Ur.dZ m 0).mp h0;rw[h0];refine eF (au rfl (au rfl (au rfl ⟨D,l4,_,rows,m,rfl,LA,Ui,Ur,by lia,shd,qO,fun X C H6 hX s6 NZ PL=>?_⟩)))
   refine⟨dl rfl,fun e he=>q e l _ ((NV.trans s6).trans (aq.new he)) R (.inl ⟨X,C,ae,NV.free hX,aq.new he _ _ NZ,qO,PL⟩)⟩
  have hns : ¬ RM.Sp (xE ts l m) m:=fun z=>h0 ((Ur.dZ m 0).mpr z)
  rw[c7 (show ¬ V.int (((RM.bA rows m 0).1:Nat):Int)=V.int 0 from fun z=>h0 (by have:=V.int.inj z;lia))]
  refine cE ?_;refine(au rfl (au rfl ⟨wb,p,ts,g,m,rfl,hw.same NV,hm,NV _ _ htb,h8,h9,fun D2 l2 H6 iV s6 S5 R2=>?_⟩))
  obtain rfl:l2=l:=R2.uniq R;refine(au rfl ⟨D2,_,rfl,S5,by lia,fun l7 Cq H7 s7 X8 Us _=>?_⟩)
  refine(au rfl (au rfl ⟨l7,Cq,m,rfl,X8,fun c2 H8 s8 hc2=>?_⟩))
  have X9:=(s6.trans s7).trans s8;have Yb:=NV.trans X9;have Ws:=(s7.trans s8) _ _ S5;have Yc:=X8.same s8;have wl:g.N.n<=24:=g.len;refine(cC (aV.of hc2) (ak (j:=0) rfl) (cy (au rfl (lE (fun h1=>?_) (fun h1=>?_)))))
  ·have h1:(0:Int)<(((RM.bA Cq m 0).1:Nat):Int):=i8 h1;have hno : ¬ RM.Sp (wG ts l2 m) m:=fun z=>by have:=(Us.dZ m 0).mpr z;lia
   refine(au rfl (au rfl ⟨l7,_,Cq,g.N,m,rfl,Yc,Us,by lia,wl,olt,hm,hno,fun M H9 s9 M1 M2 M3=>⟨dl rfl,fun e he=>?_⟩⟩))
   exact q e l2 _ ((Yb.trans s9).trans (aq.new he)) R (.inr (.inl ⟨M,ae,hno,M1,M2,M3⟩))
  ·have h1 : ¬(0:Int)<(((RM.bA Cq m 0).1:Nat):Int):=fun z=>h1 (cD z)
   have hso:RM.Sp (wG ts l2 m) m:=(Us.dZ m 0).mp (by lia)
   refine(au rfl (au rfl ⟨l4,_,rows,g.N,m,rfl,Ui.same X9,Ur,by lia,wl,slt,hm,hns,fun M H9 s9 M1 M2 M3=>?_⟩))
   refine(au rfl (au rfl (au rfl ⟨D2,l7,_,Cq,m,rfl,s9 _ _ Ws,Yc.same s9,Us,by lia,otd,hso,fun X C LD hX SO Wu PL=>⟨dl rfl,fun e he=>?_⟩⟩)))
   have Yd:=Yb.trans s9;exact q e l2 _ ((Yd.trans SO).trans (aq.new he)) R (.inr (.inr ⟨X,C,M,ae,Yd.free hX,aq.new he _ _ Wu,hns,hso,M1,M2,M3,PL⟩))
def M9(K:bW):Sp:=fun vs H Q _=>∃(a:Addr) (ns:List Int) (k:Int),vs=[.ref a,.int k]/\0<=k/\aM K H a (ns.map V.int)/\∀ z,Q (.int z) H
def Lc:Sp:=fun vs H Q _=>∃(c k:Int),vs=[.int c,.int k]/\0<=k/\k<=1000/\∀ z,0<=z->z<1000000007->Q (.int z) H
def Na:Sp:=fun vs H Q _=>∃(c:Int) (k:Nat),vs=[.int c,.int (k:Int)]/\∀ z,1<=z->z<=1000000000000000000000000000000->Q (.int z) H
def Qa:Sp:=fun vs H Q _=>∃(c:Int) (p m:Nat),vs=[.int c,.int (p:Int),.int (m:Int)]/\2<=p/\p<=10/\∀ t b H',aq H H'->qi (p:Int) t->H' b=some (.tup (Mf t))->Q (.ref b) H'
def Qc(K:bW):Sp:=fun vs H Q _=>∃(a:Addr) (ns:List Int) (mt rk:Nat),vs=[.ref a,.int (mt:Int),.int (rk:Int)]/\aM K H a (ns.map V.int)/\ns.length<=63/\mt<=24/\
 ∀ w p ts H',aq H H'->aC p ts->2<=p->p<=6->ts.length<=mt->aY H' w p ts->Q (.ref w) H'
def S6(H:Hp)(D:Addr)(n p:Nat):Prop:=∃ ks:List Nat,H D=some (.lst (ay ks))/\ks.length=n/\∀ k∈ks,k<p
theorem eA:Ok T T.iL 1 (M9 K):=by
 refine T.iL.ok vX fun _ A _ s H vs Q E hr h=>?_
 ·obtain⟨b,ns,k,rfl,hk0,hS,q⟩:=h;refine⟨_,(ah (b7 (aL xN (pv 1) (cH K T.dM (aa (pv 0) af)) (aO _)) (av (aH (aI (jR K) (pv 0) (pv 1)))) aW)
   (av (aH aj))),?_⟩
  refine fP ?_;intro cg cS;refine(au rfl (au rfl ⟨b,_,rfl,.inl hS,_,_,rfl,rfl,au rfl (lE (fun hlt=>?_) (fun _=>q 0))⟩))
  have hlt:=i8 hlt;rw[List.length_map]at hlt;obtain⟨k,rfl⟩:=Int.eq_ofNat_of_zero_le hk0;exact(au rfl (au rfl ⟨b,_,_,_,rfl,rfl,hS,ak (j:=k) (Mj (by lia)),q _⟩))
theorem eV:Ok T T.iR 1 Lc:=by
 refine T.iR.ok lY fun _ A _ s H vs Q E hr h=>?_
 ·obtain⟨c,k,rfl,hk,hk2,q⟩:=h;refine⟨_,(ah (aG (i:=2) lY.nd rfl (Or.inl rfl) (aK fG (aK dO (pv 0) aj) (aK CP aj (pv 1))))
   (ah (aG (i:=3) lY.nd rfl (Or.inl rfl) (aK dO (aK CP (aK fG (pv 2) aj) (aK fG (pv 2) aj)) aj))
   (av (aH (aK p7 (aK dO (aK CP (pv 3) (pv 3)) aj) aj))))),?_⟩
  refine gQ ?_;intro cg cS;have h1:=oW c 1000000007 (by decide)
  refine(au rfl (cy ⟨(pg rfl),au rfl (cy ⟨.inl ⟨by decide,by decide⟩,cy (?_)⟩)⟩))
  refine(au rfl (cy (au rfl (cy (cy ⟨.inl ⟨by lia,by lia⟩,cy ⟨(pg rfl),?_⟩⟩)))))
  have h2:=oW ((c%1000000007+7919*k+11)*(c%1000000007+7919*k+48271)) 998244353 (by decide)
  dsimp only;generalize (c%1000000007+7919*k+11)*(c%1000000007+7919*k+48271)%998244353=st at h2;refine(au rfl (au rfl (cy ⟨.inl ⟨by lia,by lia⟩,cy ⟨(pg rfl),cy ⟨⟨by decide,by decide⟩,?_⟩⟩⟩)))
  have h3:=oW (st*st) 1000000007 (by decide)
  dsimp only;generalize st*st%1000000007=y at h3;exact q _ (by lia) (by lia)
theorem mQ:Ok T T.mE 1 Na:=by
 refine T.mE.ok w5 fun _ A _ s H vs Q E hr h=>?_
 ·obtain⟨c,k,rfl,q⟩:=h;refine⟨_,(ah (b7 (aL dI (pv 1) aj (aO _)) (av (aH (aK fG aj (aK dO (pv 0) aj)))) aW)
   (ah (b7 (aL dI (pv 1) aj (aO _)) (av (aH (aK fG aj (aK dO (pv 0) aj)))) aW)
   (av (aH (aK fG aj (aK dO (pv 0) (aK Om aj aj))))))),?_⟩
  refine w6 ?_;intro cg cS dJ fE;have h9:=oW c 9 (by decide)
  have h3:=oW c 3 (by decide)
  have h30:=oW c (10^(30:Int).toNat) (by decide)
  have e:(10:Int)^(30:Int).toNat=1000000000000000000000000000000:=by decide
  refine(au rfl ⟨rfl,au rfl (lE (fun _=>(au rfl (cy ⟨(pg rfl),cy (q _ (by lia) (by lia))⟩))) (fun _=>(au rfl ⟨rfl,au rfl (lE (fun _=>(au rfl (cy ⟨(pg rfl),cy (q _ (by lia) (by lia))⟩))) (fun _=>(au rfl (cy ⟨⟨by decide,by decide,by decide⟩,cy ⟨(pg (by decide)),cy (q _ (by lia) (by lia))⟩⟩))))⟩)))⟩)
theorem sR:Ok T T.sH 2 Qa:=by
 have mQ:=mQ T;refine T.sH.ok l6 fun _ A _ s H vs Q E hr h=>?_
 ·obtain⟨c,p,m,rfl,hp,Qp,q⟩:=h;refine⟨_,(ah (aG (i:=3) l6.nd rfl (Or.inl rfl) (aK dO (pv 0) (pv 1)))
   (ah (aG (i:=0) l6.nd rfl (Or.inl rfl) (aK p7 (pv 0) (pv 1)))
   (ah (aG (i:=4) l6.nd rfl (Or.inl rfl) (aK dO (aK fG (aK fG (pv 3) aj) (aK dO (pv 0) (aK qS (pv 1) aj))) (pv 1)))
   (av (aH (cP (aa (pv 3) (aa (pv 4) (aa (aF mQ hr T.mE.c aJ (aa (aK p7 (pv 0) (aK qS (pv 1) aj)) (aa (pv 2) af))) af))))))))),?_⟩
  refine DQ ?_;intro cg cS dJ;obtain⟨h1,h2⟩:=oW c (p:Int) (by lia)
  obtain⟨h3,h4⟩:=oW (c/(p:Int)) ((p:Int)-1) (by lia)
  obtain⟨g1,g2,g3⟩:=Jb h1 h2 h3 h4;refine(au rfl (au rfl (cy ⟨(by lia),?_⟩)))
  refine(au rfl (au rfl (cy ⟨⟨by lia,by lia⟩,?_⟩)))
  refine(au rfl (cy (au rfl (au rfl (cy (cy ⟨(by lia),cy (au rfl (cy ⟨(by lia),?_⟩))⟩))))))
  refine(au rfl (au rfl (au rfl (au rfl (cy (cy ⟨⟨by lia,by lia⟩,au rfl ⟨_,m,rfl,fun z hz hz2=>⟨dl rfl,fun b hb=>?_⟩⟩⟩))))))
  exact q (_,_,z) b _ (aq.new hb) ⟨h1,h2,g1,g2,g3,hz,hz2⟩ ae
theorem sS:Ok T T.sI 3 (Qc K):=by
 have eA:=eA T;have eV:=eV T;have sR:=sR T;refine T.sI.ok bK fun _ A _ s H vs Q E hr h=>?_
 ·obtain⟨b,ns,mt,rk,rfl,hS,hn,hmt,q⟩:=h;refine⟨_,(ah (aG (i:=3) bK.nd rfl (Or.inr rfl) (aF eA hr T.iL.c aJ (aa (pv 0) (aa aj af))))
   (ah (aG (i:=4) bK.nd rfl (Or.inl rfl) (aK fG aj (aK dO (pv 3) aj)))
   (ah (aG (i:=5) bK.nd rfl (Or.inl rfl) (aK dO (aK p7 (pv 3) aj) aj))
   (ah (aG (i:=6) bK.nd rfl (Or.inl rfl) (kW (Qq K) (pv 0) (nY aj) nX))
   (ah (b7 (aL dI (aK dO (aK p7 (pv 3) aj) aj) aj (aO _)) (ah (iF (i:=6) bK.nd rfl rfl (own:=["k","cell"]) (fq:=[]) (js:=[]) (aE (ai ir) ["script","most","ranked","head","points","way","cells","ties","marks","free","cell","tie","joined","old"]) rfl (ER K (by rfl) T.kA (aa (kW (Qq K) (pv 0) (nY aj) nX) af)) (fun _ _ _ _=>(HY K (n:=2) rfl (aP (bf 0 (jS ["k","cell"])) (aP (bf 1 (jS ["k","cell"])) eW)))) (fun _ _ _ _=>bQ) (fun _ _ _ _=>(aF eV hr T.iR.c aJ (aa (pv 1) (aa (pv 0) af)))))
   (av (cR (Kv K (m7 PySem.F.plainAttrs_list PySem.F.slot_list_extend PySem.F.type_list_extend FW (pv 6) (aa (bz (own:=["k"]) (fq:=["head"]) (js:=[3]) (aE (ai ir) ["script","most","ranked","head","points","way","cells","ties","marks","free","cell","tie","joined","old"]) rfl (bL (by rfl) T.cj (aa aj af)) (fun _ _ _ _=>(bf 0 (jS ["k","head"]))) (fun _ _ _ _=>bQ) (fun _ _ _ _=>(aF eV hr T.iR.c aJ (aa (pv 1) (aa (aK fG aj (pv 0)) af))))) af)))))) aW)
   (ah (aG (i:=7) bK.nd rfl (Or.inl rfl) (dQ af))
   (ah (aG (i:=8) bK.nd rfl (Or.inr rfl) (bz (own:=["point"]) (fq:=[]) (js:=[]) (aE (ai ir) ["script","most","ranked","head","points","way","cells","ties","marks","free","cell","tie","joined","old"]) rfl (bL (by rfl) T.cj (aa (pv 4) af)) (fun _ _ _ _=>(bf 0 (jS ["point"]))) (fun _ _ _ _=>bQ) (fun _ _ _ _=>(pv 0))))
   (ah (aG (i:=9) bK.nd rfl (Or.inl rfl) aj)
   (ah (eE PassesOwn.never rfl (m8 K (pv 6)) (bf 10 bK.nd)
   (ah (aG (i:=11) bK.nd rfl (Or.inr rfl) (aF sR hr T.sH.c aJ (aa (pv 10) (aa (pv 4) (aa (pv 5) af)))))
   (ah (aG (i:=12) bK.nd rfl (Or.inl rfl) (dP uF (aI (jR K) (pv 8) (aI (cz K) (pv 11) aj)) (aI (jR K) (pv 8) (aI (cz K) (pv 11) aj)) (aO _)))
   (av (b7 (PW.pt (mZ (aL xN (cH K T.dM (aa (pv 7) af)) (pv 1) (aO _)) (jT (PW.pt (uA (c9 (pv 12)) (o7 (aL xN (pv 9) (pv 2) (aO _)))))))) (ah (cR (Kv K (m7 PySem.F.plainAttrs_list PySem.F.slot_list_append PySem.F.type_list_append dc (pv 7) (aa (pv 11) af))))
   (ah (aG (i:=9) bK.nd rfl (Or.inl rfl) (aK fG (pv 9) (cL nW (by rfl) T.Fw PyProof.Rows.boot_int (aa (Oe (pv 12)) af))))
   (ah (aG (i:=13) bK.nd rfl (Or.inr rfl) (aI (jR K) (pv 8) (aI (cz K) (pv 11) aj)))
   (av (aG (i:=8) bK.nd rfl (Or.inr rfl) (bz (own:=["mark"]) (fq:=["marks","tie","old"]) (js:=[8,11,13]) (aE (ai ir) ["script","most","ranked","head","points","way","cells","ties","marks","free","cell","tie","joined","old"]) rfl (m8 K (pv 8)) (fun _ _ _ _=>(bf 0 (jS ["mark","marks","tie","old"]))) (fun _ _ _ _=>bQ) (fun _ _ _ _=>(aI (jR K) (dQ (aa (pv 0) (aa (aI (jR K) (pv 1) (aI (cz K) (pv 2) aj)) af))) (cL nW (by rfl) T.Fw PyProof.Rows.boot_int (aa (dP dI (pv 0) (pv 3) (aO _)) af)))))))))) aW)))))
   (av (aH (cP (aa (pv 4) (aa (cL (EN K) (by rfl) T.uw PyProof.Rows.boot_tuple (aa (pv 7) af)) af)))))))))))))),?_⟩
  refine DR ?_;intro cg cS dJ fE gO o4 yD Fp Fq Ft Kw GW So Sq Ss Su Sv Sw;refine(au rfl ⟨b,ns,0,rfl,(by decide),hS,fun z=>?_⟩)
  refine(au rfl (cy ⟨(pg rfl),cy (?_)⟩));obtain⟨p,hp,p1,p2⟩:∃ p:Nat,2+z%5=(p:Int)/\2<=p/\p<=6:=by
   obtain⟨h1,h2⟩:=oW z 5 (by decide)
   exact⟨(2+z%5).toNat,by lia,by lia,by lia⟩
  dsimp only;rw[hp];refine(au rfl (cy ⟨⟨by decide,by decide⟩,cy ⟨(pg rfl),?_⟩⟩))
  obtain⟨wy,Uk⟩:∃ y:Nat,z/5%3=(y:Int):=by
   obtain⟨h1,h2⟩:=oW (z/5) 3 (by decide)
   exact⟨(z/5%3).toNat,by lia⟩
  dsimp only;rw[Uk];refine(au rfl (au rfl ⟨b,_,rfl,hS,fun c hc=>?_⟩))
  have Qd:=IJ ns (some 1) none;have hml:((ns.drop (HT.p8 ns.length 0 (some 1))).take (HT.p8 ns.length ns.length none-HT.p8 ns.length 0 (some 1))).length<=63:=by
   rw[List.length_take,List.length_drop]
   lia
  generalize (ns.drop (HT.p8 ns.length 0 (some 1))).take (HT.p8 ns.length ns.length none-HT.p8 ns.length 0 (some 1))=ms at Qd hml;rw[Qd];have cont:∀(c1:Addr) (ms1:List Int) (H1:Hp),aq H H1->H1 c1=some (.lst (ms1.map V.int))->GW { nx:=fun _ H'=>Q V.fD H',rt:=Q} [some (.ref b),some (.int (mt:Int)),some (.int (rk:Int)),some (.int z),some (.int (p:Int)),some (.int (wy:Int)),some (.ref c1),none,none,none,none,none,none,none] H1:=by
   intro c1 ms1 H1 s1 hc1;refine⟨dl rfl,fun L hL=>?_⟩
   have t2:tM (p:Int) H1 L 0 (upd H1 L (.lst [])):=.start hL;generalize upd H1 L (.lst [])=H2 at t2;refine(au rfl (au rfl ⟨(by lia),(by lia),fun M hM=>ck (lo:=0) (m:=(p:Int).toNat) (oN (fun _=>true) H2 M) (.start hM) (fun i acc H3 _ pk=>pk.len) (c8 (by lia)) ?_ ?_⟩))
   ·intro i acc H3 hi pk;rw[Int.zero_add];exact⟨rfl,au rfl (pk.yes hM (aq.refl _) rfl)⟩
   intro acc H3 pk;have b3:S6 H3 M p p:=by
    refine⟨(List.range p).filter (fun _=>true),by rw[pk.2.1,pk.2.2,Int.toNat_natCast],?_,fun k hk=>List.mem_range.mp (List.mem_filter.mp hk).1⟩
    rw[List.filter_eq_self.mpr (fun _ _=>rfl),List.length_range]
   have t3:tM (p:Int) H1 L 0 H3:=by
    obtain⟨a1,acc,ts,a2,a3,a4⟩:=t2;exact⟨a1.trans pk.1,acc,ts,pk.1 _ _ a2,Paired.imp' (fun _ _ z=>z.tups pk.1.tups) a3,a4⟩
   clear pk;have fr:H1 M=none:=t2.1.free hM;refine(au rfl ⟨c1,rfl,⟨_,aM.of (t3.1 _ _ hc1)⟩,cT (K:=K) (a:=c1) (xs:=ms1.map V.int) (fun i σ H4=>∃(M:Addr) (n:Nat) (f:Int) (v10 v11 Ib S7:Option V),σ=[some (.ref b),some (.int (mt:Int)),some (.int (rk:Int)),some (.int z),some (.int (p:Int)),some (.int (wy:Int)),some (.ref c1),some (.ref L),some (.ref M),some (.int f),v10,v11,Ib,S7]/\tM (p:Int) H1 L n H4/\n<=mt/\S6 H4 M p p/\H1 M=none/\M≠L) ⟨M,0,0,none,none,none,none,rfl,t3,Nat.zero_le _,b3,fr,fun e=>?_⟩ (fun i σ H4 _ ⟨_,_,_,_,_,_,_,_,t,_⟩=>aM.of (t.1 _ _ hc1)) ?_ ?_⟩)
   ·obtain⟨_,acc,_,a2,_⟩:=t2;rw[e,a2]at hM;cases hM
   ·rintro i y D' σ H4 hi ⟨M,n,f,v10,v11,Ib,S7,rfl,t4,hnm,b4,Ye,Wv⟩;rw[List.getElem?_map]at hi;obtain⟨ce,hce,rfl⟩:=wH.mp hi;refine(au rfl (au rfl (au rfl ⟨ce,p,wy,rfl,p1,by lia,fun t bt H5 s5 gt Ut=>?_⟩)))
    obtain⟨ks,hM4,kl,kb⟩:=b4;have Uu:=s5 _ _ hM4;have t5:tM (p:Int) H1 L n H5:=by
     obtain⟨a1,acc,ts,a2,a3,a4⟩:=t4;exact⟨a1.trans s5,acc,ts,s5 _ _ a2,Paired.imp' (fun _ _ z=>z.tups s5.tups) a3,a4⟩
    obtain⟨u,hu⟩:=Int.eq_ofNat_of_zero_le gt.a0;obtain⟨v,hv⟩:=Int.eq_ofNat_of_zero_le gt.b0;have Yg:u<ks.length:=by have:=gt.a1;lia
    have Uo:v<ks.length:=by have:=gt.b1;lia
    have hku:(ay ks)[u]?=some (.int (ks[u]:Int)):=yW (List.getElem?_eq_getElem Yg);have hkv:(ay ks)[v]?=some (.int (ks[v]:Int)):=yW (List.getElem?_eq_getElem Uo);have iu:HW (ay ks) t.1=some (.int (ks[u]:Int)):=by rw[hu];exact ak hku
    have iv:HW (ay ks) t.2.1=some (.int (ks[v]:Int)):=by rw[hv];exact ak hkv
    have kub:=kb _ (List.getElem_mem Yg);refine(au rfl (au rfl (cC (aV.of Ut) (ak (j:=0) rfl) (jM (aM.of Uu) (iu) (au rfl (au rfl (cC (aV.of Ut) (ak (j:=1) rfl) (jM (aM.of Uu) (iv) ⟨rfl,?_⟩))))))));obtain⟨s05,Er,tsL,S8,prL,alL,gdL⟩:=id t5;have skip:D'.nx [some (.ref b),some (.int (mt:Int)),some (.int (rk:Int)),some (.int z),some (.int (p:Int)),some (.int (wy:Int)),some (.ref c1),some (.ref L),some (.ref M),some (.int f),some (.int ce),some (.ref bt),some (.bl (!decide (V.int (ks[u]:Int)=V.int (ks[v]:Int)))),S7] H5:=⟨M,n,f,_,_,_,_,rfl,t5,hnm,⟨ks,Uu,kl,kb⟩,Ye,Wv⟩;generalize (!decide (V.int (ks[u]:Int)=V.int (ks[v]:Int)))=jb at skip;have put:Er.length<mt->gO D' [some (.ref b),some (.int (mt:Int)),some (.int (rk:Int)),some (.int z),some (.int (p:Int)),some (.int (wy:Int)),some (.ref c1),some (.ref L),some (.ref M),some (.int f),some (.int ce),some (.ref bt),some (.bl jb),S7] H5:=fun hlt=>by
     obtain⟨abo,e6,t6⟩:∃ acc,H5 L=some (.lst acc)/\tM (p:Int) H1 L (n+1) (upd H5 L (.lst (acc++[.ref bt]))):=by
      have:=t5.push hL (aq.refl _) gt Ut;obtain⟨acc,e1,_,e2⟩:=this;exact⟨acc,e1,e2⟩
     rw[S8]at e6;cases e6;refine(au rfl ⟨.inl ⟨rfl,_,aM.of S8⟩,au rfl ⟨L,_,_,rfl,rfl,S8,dw (by lia),?_⟩⟩)
     have S9:upd H5 L (.lst (Er++[.ref bt])) M=some (.lst (ay ks)):=by rw[ao Wv];exact Uu
     have Qe:upd H5 L (.lst (Er++[.ref bt])) bt=some (.tup (Mf t)):=dG.put S8 _ _ Ut;have Yh:upd H5 L (.lst (Er++[.ref bt])) L=some (.lst (Er++[.ref bt])):=ae;generalize upd H5 L (.lst (Er++[.ref bt]))=H6 at t6 S9 Qe Yh;refine(au rfl (au rfl (au rfl (.inr (au rfl (cy (?_)))))));refine(au rfl (au rfl (cC (aV.of Qe) (ak (j:=1) rfl) (jM (aM.of S9) (iv) (?_)))));refine(au rfl ⟨M,rfl,⟨_,aM.of S9⟩,fun M2 Nb=>aZ (xs:=ay ks) (fun i acc H7=>aq H6 H7/\H7 M2=some (.lst acc)/\∃ FE:List Nat,acc=ay FE/\FE.length=i/\∀ k∈FE,k<p) ⟨aq.new Nb,ae,[],rfl,rfl,(fun k hk=>nomatch hk)⟩ (fun i acc H7 _ z=>⟨aM.of (z.1 _ _ S9),z.2.1,by obtain⟨FE,e,e2,_⟩:=z.2.2;rw[e,aB,e2];exact Nat.le_refl _⟩) (c8 (by rw[aB];lia)) ?_ ?_⟩)
     ·rintro i x acc H7 hx ⟨s7,Ww,FE,rfl,Uv,kb2⟩;obtain⟨k,hk,rfl⟩:=cf hx;have hkp:=kb k (iT hk);refine⟨rfl,au rfl (au rfl (au rfl (cC (aV.of (s7 _ _ Qe)) (ak (j:=0) rfl) (jM (aM.of (s7 _ _ S9)) (iu) ⟨dl rfl,fun l hl=>?_⟩))))⟩
      have s8:aq H7 (upd H7 l (.lst [.int (k:Int),.int (ks[u]:Int)])):=aq.new hl;have WA:upd H7 l (.lst [.int (k:Int),.int (ks[u]:Int)]) l=some (.lst [.int (k:Int),.int (ks[u]:Int)]):=ae;generalize upd H7 l (.lst [.int (k:Int),.int (ks[u]:Int)])=H8 at s8 WA;refine(au rfl (au rfl ⟨rfl,.inr (au rfl (?_))⟩));have Yi:∀ k' : Nat,k'<p->H8 M2=some (.lst (ay FE))/\aq H6 (upd H8 M2 (.lst (ay FE++[.int (k' : Int)])))/\upd H8 M2 (.lst (ay FE++[.int (k' : Int)])) M2=some (.lst (ay FE++[.int (k' : Int)]))/\∃ ks3:List Nat,ay FE++[.int (k' : Int)]=ay ks3/\ks3.length=i+1/\∀ k∈ks3,k<p:=fun k' hk'=>by
       refine⟨s8 _ _ Ww,(s7.trans s8).put Nb,ae,FE++[k'],(bE FE k').symm,by rw[List.length_append,Uv];rfl,fun x hx=>?_⟩
       rcases List.mem_append.mp hx with hx|hx
       ·exact kb2 x hx
       ·have e:x=k':=by simpa using hx
        lia
      cases hd:decide (V.int (k:Int)=V.int (ks[v]:Int)) with
      | true=>exact(jM (aM.of WA) (ak (j:=1) rfl) (Yi _ kub))
      | false=>exact(jM (aM.of WA) (ak (j:=0) rfl) (Yi _ hkp))
     ·rintro acc H7 ⟨s7,Ww,FE,rfl,Uv,kb2⟩;rw[aB,kl]at Uv;refine⟨M2,n+1,_,_,_,_,_,rfl,?_,by lia,⟨FE,Ww,Uv,kb2⟩,t6.1.free Nb,fun e=>?_⟩
      ·obtain⟨a1,acc,ts,a2,a3,a4⟩:=t6;exact⟨a1.trans s7,acc,ts,s7 _ _ a2,Paired.imp' (fun _ _ z=>z.tups s7.tups) a3,a4⟩
      ·rw[e,Yh]at Nb;cases Nb
    refine(au rfl (pX rfl (.inl (aM.of S8)) (au rfl (cy (au rfl (lE (fun h1=>?_) (fun _=>skip)))))))
    have h1:(Er.length:Int)<(mt:Int):=i8 h1;refine(au rfl (au rfl (?_)));cases jb with
    | true=>exact eF (put (by lia))
    | false=>exact cE (au rfl (au rfl (cy (au rfl (lE (fun _=>put (by lia)) (fun _=>skip))))))
   ·rintro σ H4 ⟨M,n,f,v10,v11,Ib,S7,rfl,t4,hnm,b4,Ye,Wv⟩;obtain⟨acc,ts,hL4,XI,gd,mk⟩:=t4.fin;refine(au rfl (au rfl ⟨L,_,rfl,.inl ⟨aM.of hL4,fun l hl=>⟨dl rfl,fun w hw=>?_⟩⟩⟩))
    obtain⟨sm,hwb⟩:=mk l hl w hw;exact q w p ts _ (s1.trans sm) ⟨by lia,by lia,by lia,gd⟩ p1 p2 (by lia) hwb
  refine(au rfl (cy ⟨⟨by decide,by decide⟩,cy ⟨(pg rfl),rfl,au rfl (lE (fun _=>?_) (fun _=>cont c ms _ (aq.new hc) ae))⟩⟩))
  have s1:aq H (upd H c (.lst (ms.map V.int))):=aq.new hc;generalize upd H c (.lst (ms.map V.int))=H1 at s1;refine(au rfl (au rfl ⟨b,_,rfl,s1.seq hS,fun c3 hc3=>?_⟩))
  rw[Qd];have s2:aq H1 (upd H1 c3 (.lst (ms.map V.int))):=aq.new hc3;have hc2:upd H1 c3 (.lst (ms.map V.int)) c3=some (.lst (ms.map V.int)):=ae;generalize upd H1 c3 (.lst (ms.map V.int))=H2 at s2 hc2;refine⟨c3,rfl,⟨_,aM.of hc2⟩,fun D hD=>Dt (xs:=ms.map V.int) (fun i acc H3=>aq H2 H3/\H3 D=some (.lst acc)/\∃ ms2:List Int,acc=ms2.map V.int/\ms2.length=i) ⟨aq.new hD,ae,[],rfl,rfl⟩ (fun i acc H3 _ z=>⟨aM.of (z.1 _ _ hc2),z.2.1,by obtain⟨ms2,e,e2⟩:=z.2.2;rw[e,List.length_map,e2];exact Nat.le_refl _⟩) (Nat.le_of_lt (dw (by rw[List.length_map];lia))) ?_ ?_⟩
  ·rintro i x T0 acc H3 hx ⟨s3,qU,ms2,rfl,WB⟩ hT;rw[List.getElem?_map]at hx;obtain⟨ce,hce,rfl⟩:=wH.mp hx;have A5:=(jQ.mp hce).1;refine⟨T0,_,rfl,aV.of ae,rfl,_,_,rfl,_,_,rfl,rfl,rfl,au rfl (au rfl ⟨ce,(i:Int),rfl,by lia,by lia,fun y _ _=>?_⟩)⟩
   have s4:aq H3 (upd H3 T0 (.tup [.int (i:Int),.int ce])):=aq.new hT;exact⟨s4 _ _ qU,(s3.trans s4).put hD,ae,ms2++[y],by rw[List.map_append];rfl,by rw[List.length_append,WB];rfl⟩
  ·rintro acc H3 ⟨s3,qU,ms2,rfl,WB⟩;rw[List.length_map]at WB;refine(au rfl ⟨.inl ⟨rfl,_,aM.of qU⟩,au rfl ⟨(by decide),(by decide),fun D2 iV=>ck (lo:=0) (m:=5) (fun i acc H4=>aq H3 H4/\H4 D2=some (.lst acc)/\∃ QK:List Int,acc=QK.map V.int/\QK.length=i) ⟨aq.new iV,ae,[],rfl,rfl⟩ (fun i acc H4 _ z=>⟨z.2.1,by obtain⟨ms2,e,e2⟩:=z.2.2;rw[e,List.length_map,e2];exact Nat.le_refl _⟩) (c8 (by decide)) ?_ ?_⟩⟩)
   ·rintro i acc H4 hi ⟨s4,sM,QK,rfl,Yj⟩;rw[Int.zero_add];exact⟨rfl,au rfl (au rfl (cy ⟨z,_,rfl,by lia,by lia,fun y _ _=>⟨sM,s4.put iV,ae,QK++[y],by rw[List.map_append];rfl,by rw[List.length_append,Yj];rfl⟩⟩))⟩
   ·rintro acc H4 ⟨s4,sM,QK,rfl,Yj⟩;have WC:=s4 _ _ qU;refine⟨D,D2,_,_,rfl,rfl,WC,sM,dl (Nat.ble_eq.mpr (by rw[List.length_map,List.length_map];lia)),?_⟩
    refine cont D (ms2++QK) _ ?_ ?_
    ·exact(((s1.trans s2).trans (s3.trans s4))).put ((s1.trans s2).free hD)
    ·rw[ae,List.map_append]
def HM:Sp:=fun vs H Q _=>∃ w p ts,∃ g:aC p ts,∃(S:Int) (m:Nat),vs=[.ref w,.int S]/\S=(m:Int)/\aY H w p ts/\m<2^ts.length/\∀ D H',aq H H'->H' D=some (.lst (cA (fun x=>g.N.dg m x) p))->Q (.ref D) H'
def Es:Sp:=fun vs H Q _=>∃ w p ts,∃ g:aC p ts,∃(S:Int) (m:Nat),vs=[.ref w,.int S]/\S=(m:Int)/\aY H w p ts/\m<2^ts.length/\∀ H',aq H H'->Q (.int ((RM.cnt (g.N.root (fun k=>m.testBit k) ts.length) p:Nat):Int)) H'
def Ld:Sp:=fun vs H Q _=>∃ w p ts,∃ g:aC p ts,∃(S:Int) (m:Nat),vs=[.ref w,.int S]/\S=(m:Int)/\aY H w p ts/\m<2^ts.length/\∀ H' (d:Bool),aq H H'->(d=true↔g.N.Ring m)->Q (.bl d) H'
theorem Le{N:RM.Net}{m x:Nat}(k:Nat):RM.cnt (fun j=>m.testBit j&&N.inc j x) (k+1)=RM.cnt (fun j=>m.testBit j&&N.inc j x) k+if(m.testBit k&&N.inc k x)=true then 1 else 0:=rfl
theorem Qf(x u v:Nat):Lq (.int (x:Int)) [.int (u:Int),.int (v:Int)]=decide (u=x\/v=x):=by
 have e:([.int (u:Int),.int (v:Int)]:List V)=ay [u,v]:=rfl;rw[e,jB];refine decide_eq_decide.mpr ?_;simp[eq_comm]
theorem Cr{f:Nat->Nat}{n u v:Nat}:(cA f n).set u (.int (v:Int))=cA (fun x=>if x=u then v else f x) n:=by
 unfold cA;refine List.ext_getElem? fun i=>?_
 rw[List.getElem?_set,List.getElem?_map]
 by_cases e:u=i
 ·subst e;rw[if_pos rfl,List.length_map,List.length_range]
  by_cases h:u<n
  ·rw[if_pos h,List.getElem?_map,List.getElem?_range h];simp
  ·rw[if_neg h,List.getElem?_map,List.getElem?_eq_none (by rw[List.length_range];lia)]
   rfl
 ·rw[if_neg e,List.getElem?_map]
  by_cases h:i<n
  ·rw[List.getElem?_range h];simp[show ¬ i=u from fun z=>e z.symm]
  ·rw[List.getElem?_eq_none (by rw[List.length_range];lia)]
   rfl
theorem HN{f g:Nat->Int}{n:Nat}(h:∀ i,i<n->f i=g i):PyProof.Rows.firstMet f n=PyProof.Rows.firstMet g n:=by
 unfold PyProof.Rows.firstMet;rw[List.map_congr_left fun i hi=>h i (List.mem_range.mp hi)]
theorem fB:Ok T T.ji 1 HM:=by
 refine T.ji.ok kK fun _ A _ s H vs Q E hr h=>?_
 ·obtain⟨wb,p,ts,g,S,m,rfl,rfl,hw,hm,q⟩:=h;refine⟨_,(ah (aG (i:=2) kK.nd rfl (Or.inl rfl) (aK CY (dQ (aa aj af)) (aI (cz K) (pv 0) aj)))
   (ah (eE PassesOwn.never rfl (bL (by rfl) T.cj (aa (cH K T.dM (aa (aI (cz K) (pv 0) aj) af)) af)) (bf 3 kK.nd)
   (av (b7 (aL dI (aK dO (aK yK (pv 1) (pv 3)) aj) aj (aO _)) (ah (CH (aK fG (aI (jR K) (pv 2) (aI (cz K) (aI (cz K) (aI (cz K) (pv 0) aj) (pv 3)) aj)) aj) (CG (pv 2) (aI (cz K) (aI (cz K) (aI (cz K) (pv 0) aj) (pv 3)) aj) set_list))
   (av (CH (aK fG (aI (jR K) (pv 2) (aI (cz K) (aI (cz K) (aI (cz K) (pv 0) aj) (pv 3)) aj)) aj) (CG (pv 2) (aI (cz K) (aI (cz K) (aI (cz K) (pv 0) aj) (pv 3)) aj) set_list)))) aW)))
   (av (aH (pv 2))))),?_⟩
  refine o5 ?_;intro cg cS dJ fE gO;obtain⟨bt,xs,h1,h2,h3⟩:=id hw.ex;have Aa:=h3.length;have wl:=g.len;have wp:=g.p2;refine⟨dl rfl,fun c hc=>?_⟩
  have s1:aq H (upd H c (.lst [.int 0])):=aq.new hc;have hc1:upd H c (.lst [.int 0]) c=some (.lst [.int 0]):=ae;generalize upd H c (.lst [.int 0])=H1 at s1 hc1;refine(au rfl (cC (aV.of (s1 _ _ h1)) (ak (j:=0) rfl) ⟨c,(p:Int),au rfl ⟨rfl,hc1,by lia,by lia,(by rw[Int.toNat_natCast];show 1*p<=sizeLine;exact dl (Nat.ble_eq.mpr (by lia))),fun e he=>?_⟩⟩))
  have SG:H e=none:=s1.free he;have s2:=s1.trans (aq.new (o:=.lst (List.replicate (p:Int).toNat [V.int 0]).flatten) he);have Me:upd H1 e (.lst (List.replicate (p:Int).toNat [V.int 0]).flatten) e=some (.lst (cA (fun _=>0) p)):=by
   rw[ae,Int.toNat_natCast,AV]
  generalize upd H1 e (.lst (List.replicate (p:Int).toNat [V.int 0]).flatten)=H2 at s2 Me;refine(au rfl (cC (aV.of (s2 _ _ h1)) (ak (j:=1) rfl) (pX rfl (.inr (aV.of (s2 _ _ h2))) (au rfl ⟨(by lia),(by lia),?_⟩))))
  refine ig (lo:=0) (n:=(xs.length:Int).toNat) (fun k σ H3=>∃ v3,σ=[some (.ref wb),some (.int (m:Int)),some (.ref e),v3]/\aq H H3/\H3 e=some (.lst (cA (fun x=>RM.cnt (fun j=>m.testBit j&&g.N.inc j x) k) p))) ⟨none,rfl,s2,Me⟩ ?_ ?_
  ·rintro k D' σ H3 hk ⟨v3,rfl,s3,Hy⟩;rw[Int.toNat_natCast]at hk;rw[Int.zero_add];have nZ:k<ts.length:=by lia
   obtain⟨ct,ex,hct⟩:=vg (g:=g) h3 nZ;have ha:g.N.a k<p:=g.N.al k nZ;have hb:g.N.b k<p:=g.N.bl k nZ;have ne:g.N.a k≠g.N.b k:=g.N.ne k nZ;refine(au rfl (au rfl (cy ⟨(by lia),cy ⟨(pg rfl),rfl,au rfl (?_)⟩⟩)))
   rw[Int.toNat_natCast,CZ,eX];cases ni:m.testBit k with
   | false =>
     refine cE (au rfl ⟨s3,?_⟩);rw[Hy]
     congr 2
     refine uU fun x _=>?_
     rw[Le,ni];rfl
   | true =>
     generalize hF:(fun x=>RM.cnt (fun j=>m.testBit j&&g.N.inc j x) k)=F at Hy
     refine eF (au rfl (au rfl (cC (aV.of (s3 _ _ h1)) (ak (j:=1) rfl) (au rfl (cC (aV.of (s3 _ _ h2)) (ak (j:=k) ex) (cC (aV.of (s3 _ _ hct)) (ak (j:=0) rfl) (jM (aM.of Hy) (ak (bN ha)) (cy (?_)))))))));refine(au rfl (au rfl (cC (aV.of (s3 _ _ h1)) (ak (j:=1) rfl) (au rfl (cC (aV.of (s3 _ _ h2)) (ak (j:=k) ex) (cC (aV.of (s3 _ _ hct)) (ak (j:=0) rfl) ⟨e,_,_,g.N.a k,rfl,rfl,Hy,qh (by rw[bS];exact ha),?_⟩))))))
     have e4:(cA F p).set (g.N.a k) (.int ((F (g.N.a k):Nat)+1:Int))=cA (fun x=>if x=g.N.a k then F (g.N.a k)+1 else F x) p:=by
      rw[<-Cr];rfl
     dsimp only;rw[e4];have s4:aq H (upd H3 e (.lst (cA (fun x=>if x=g.N.a k then F (g.N.a k)+1 else F x) p))):=s3.put SG
     have Uw:upd H3 e (.lst (cA (fun x=>if x=g.N.a k then F (g.N.a k)+1 else F x) p)) e=_:=ae
     generalize upd H3 e (.lst (cA (fun x=>if x=g.N.a k then F (g.N.a k)+1 else F x) p))=H4 at s4 Uw
     generalize Nc:(fun x=>if x=g.N.a k then F (g.N.a k)+1 else F x)=F2 at Uw
     refine(au rfl (au rfl (cC (aV.of (s4 _ _ h1)) (ak (j:=1) rfl) (au rfl (cC (aV.of (s4 _ _ h2)) (ak (j:=k) ex) (cC (aV.of (s4 _ _ hct)) (ak (j:=1) rfl) (jM (aM.of Uw) (ak (bN hb)) (cy (?_)))))))));refine(au rfl (au rfl (cC (aV.of (s4 _ _ h1)) (ak (j:=1) rfl) (au rfl (cC (aV.of (s4 _ _ h2)) (ak (j:=k) ex) (cC (aV.of (s4 _ _ hct)) (ak (j:=1) rfl) ⟨e,_,_,g.N.b k,rfl,rfl,Uw,qh (by rw[bS];exact hb),?_⟩))))))
     refine(au rfl ⟨s4.put SG,?_⟩);rw[ae];have e5:(cA F2 p).set (g.N.b k) (.int ((F2 (g.N.b k):Nat)+1:Int))=cA (fun x=>if x=g.N.b k then F2 (g.N.b k)+1 else F2 x) p:=by
      rw[<-Cr];rfl
     dsimp only;rw[e5]
     congr 2
     refine uU fun x _=>?_
     rw[Le,ni,Bool.true_and,show RM.cnt (fun j=>m.testBit j&&g.N.inc j x) k=F x from congrFun hF x]
     unfold RM.Net.inc;have f2:∀ y,F2 y=if y=g.N.a k then F (g.N.a k)+1 else F y:=fun y=>(congrFun Nc y).symm
     by_cases e1:x=g.N.b k
     ·rw[if_pos e1,f2,if_neg (fun z:g.N.b k=g.N.a k=>ne z.symm),e1,c7 ne,cD rfl]
      rfl
     ·rw[if_neg e1,f2,c7 (fun z:g.N.b k=x=>e1 z.symm),Bool.xor_false]
      by_cases e2:x=g.N.a k
      ·rw[if_pos e2,e2,cD rfl];rfl
      ·rw[if_neg e2,c7 (fun z:g.N.a k=x=>e2 z.symm)]
       rfl
  ·rintro σ H3 ⟨v3,rfl,s3,Hy⟩;rw[Int.toNat_natCast,Aa]at Hy;exact(au rfl (q e H3 s3 Hy))
theorem mR:Ok T T.mF 1 Es:=by
 refine T.mF.ok fT fun _ A _ s H vs Q E hr h=>?_
 ·obtain⟨wb,p,ts,g,S,m,rfl,rfl,hw,hm,q⟩:=h;refine⟨_,(ah (aG (i:=2) fT.nd rfl (Or.inr rfl) (bz (own:=["point"]) (fq:=[]) (js:=[]) (aE (ai gV) ["web","some","marks","k","old"]) rfl (bL (by rfl) T.cj (aa (aI (cz K) (pv 0) aj) af)) (fun _ _ _ _=>(bf 0 (jS ["point"]))) (fun _ _ _ _=>bQ) (fun _ _ _ _=>(pv 0))))
   (ah (eE PassesOwn.never rfl (bL (by rfl) T.cj (aa (cH K T.dM (aa (aI (cz K) (pv 0) aj) af)) af)) (uc (i:=3) fT.nd rfl (Or.inr rfl))
   (av (b7 (aL dI (aK dO (aK yK (pv 1) (pv 3)) aj) aj (aO _)) (ah (aG (i:=4) fT.nd rfl (Or.inr rfl) (aI (jR K) (pv 2) (aI (cz K) (aI (cz K) (aI (cz K) (pv 0) aj) (pv 3)) aj)))
   (av (aG (i:=2) fT.nd rfl (Or.inr rfl) (bz (own:=["mark"]) (fq:=["web","marks","k","old"]) (js:=[0,2,3,4]) (aE (ai gV) ["web","some","marks","k","old"]) rfl (m8 K (pv 2)) (fun _ _ _ _=>(bf 0 (jS ["mark","web","marks","k","old"]))) (fun _ _ _ _=>bQ) (fun _ _ _ _=>(aI (jR K) (dQ (aa (pv 0) (aa (aI (jR K) (pv 2) (aI (cz K) (aI (cz K) (aI (cz K) (pv 1) aj) (pv 3)) aj)) af))) (cL nW (by rfl) T.Fw PyProof.Rows.boot_int (aa (dP dI (pv 0) (pv 4) (aO _)) af)))))))) aW)))
   (av (aH (cW OL (by rfl) T.dM PySem.boot_len (aa (cL (Vp K rfl) (by rfl) T.SA PyProof.Rows.boot_set (aa (pv 2) af)) af)))))),?_⟩
  refine o5 ?_;intro cg cS dJ fE gO;obtain⟨bt,xs,h1,h2,h3⟩:=id hw.ex;have Aa:=h3.length;have wl:=g.len;have wp:=g.p2;refine(au rfl (cC (aV.of h1) (ak (j:=0) rfl) (au rfl ⟨(by lia),(by lia),fun M hM=>ck (lo:=0) (m:=p) (uV (fun x=>x) H M) (.start hM) (fun i acc H3 _ pd=>pd.len) (c8 (by lia)) ?_ ?_⟩)))
  ·intro i acc H3 hi pd;rw[Int.zero_add];exact⟨rfl,au rfl (pd.next hM (aq.refl _) rfl)⟩
  intro acc H1 pd;have hM1:H1 M=some (.lst (cA (fun x=>x) p)):=by rw[pd.2.1,pd.2.2]
  have s1:=pd.1;clear pd;refine(au rfl (cC (aV.of (s1 _ _ h1)) (ak (j:=1) rfl) (pX rfl (.inr (aV.of (s1 _ _ h2))) (au rfl ⟨(by lia),(by lia),?_⟩))))
  refine ig (lo:=0) (n:=(xs.length:Int).toNat) (fun k σ H3=>∃ M v3 v4 L,σ=[some (.ref wb),some (.int (m:Int)),some (.ref M),v3,v4]/\aq H H3/\H3 M=some (.lst (cA L p))/\RM.vz g.N (fun k=>m.testBit k) L k) ⟨M,none,none,_,rfl,s1,hM1,RM.vz.start⟩ ?_ ?_
  ·rintro k D' σ H3 hk ⟨M,v3,v4,L,rfl,s3,Qg,rel⟩;rw[Int.toNat_natCast]at hk;rw[Int.zero_add];have nZ:k<ts.length:=by lia
   obtain⟨ct,ex,hct⟩:=vg (g:=g) h3 nZ;have ha:g.N.a k<p:=g.N.al k nZ;have hb:g.N.b k<p:=g.N.bl k nZ;refine(au rfl (au rfl (cy ⟨(by lia),cy ⟨(pg rfl),rfl,au rfl (?_)⟩⟩)))
   rw[Int.toNat_natCast,CZ,eX];cases ni:m.testBit k with
   | false=>exact cE ⟨M,_,_,L,rfl,s3,Qg,rel.skip ni⟩
   | true =>
     refine eF (au rfl (au rfl (cC (aV.of (s3 _ _ h1)) (ak (j:=1) rfl) (au rfl (cC (aV.of (s3 _ _ h2)) (ak (j:=k) ex) (cC (aV.of (s3 _ _ hct)) (ak (j:=1) rfl) (jM (aM.of Qg) (ak (bN hb)) (?_))))))));refine(au rfl ⟨M,rfl,⟨_,aM.of Qg⟩,fun M2 Nb=>aZ (xs:=cA L p) (uV (RM.OR L (g.N.a k) (g.N.b k)) H3 M2) (.start Nb) (fun i acc H4 _ pd=>⟨aM.of (pd.1 _ _ Qg),pd.len⟩) (by rw[bS];exact dl (Nat.ble_eq.mpr (by lia))) ?_ ?_⟩)
     ·intro i x acc H4 hx pd;obtain⟨hi,rfl⟩:=jZ hx;have s4:=s3.trans pd.1;refine⟨rfl,au rfl (au rfl (au rfl (cC (aV.of (s4 _ _ h1)) (ak (j:=1) rfl) (au rfl (cC (aV.of (s4 _ _ h2)) (ak (j:=k) ex) (cC (aV.of (s4 _ _ hct)) (ak (j:=0) rfl) (jM (aM.of (pd.1 _ _ Qg)) (ak (bN ha)) ⟨dl rfl,fun l hl=>?_⟩)))))))⟩
      refine(au rfl (au rfl ⟨rfl,.inr (au rfl (?_))⟩));rw[j6]
      by_cases e:L i=L (g.N.b k)
      ·rw[cD e];exact(jM (aM.of ae) (ak (j:=1) rfl) (pd.next Nb (aq.new hl) (by unfold RM.OR;rw[if_pos e])))
      ·rw[c7 e];exact(jM (aM.of ae) (ak (j:=0) rfl) (pd.next Nb (aq.new hl) (by unfold RM.OR;rw[if_neg e])))
     ·intro acc H4 pd;rw[bS]at pd;exact⟨M2,_,_,_,rfl,s3.trans pd.1,by rw[pd.2.1,pd.2.2],rel.put nZ ni⟩
  ·rintro σ H3 ⟨M,v3,v4,L,rfl,s3,Qg,rel⟩;rw[Int.toNat_natCast,Aa]at rel;have ens:cA L p=((List.range p).map fun x=>((L x:Nat):Int)).map V.int:=by
    unfold cA;rw[List.map_map];rfl
   refine(au rfl ⟨M,(List.range p).map (fun x=>((L x:Nat):Int)),rfl,aM.of (by rw[Qg,ens]),by rw[List.length_map,List.length_range];lia,fun l S hl=>⟨l,S,_,rfl,ae,?_⟩⟩)
   rw[List.length_map,List.length_range,HN (g:=fun i=>((L i:Nat):Int)) (fun i hi=>by rw[List.getD_eq_getElem?_getD,List.getElem?_map,List.getElem?_range hi];rfl)]
   have e:=RM.MG (N:=g.N) (L:=L) rel;have e:(PyProof.Rows.firstMet (fun i=>((L i:Nat):Int)) p).length=_:=e
   rw[e];exact q _ (s3.trans (aq.new hl))
theorem pU:Ok T T.pO 2 Ld:=by
 have mR:=mR T;have fB:=fB T;refine T.pO.ok tG fun _ A _ s H vs Q E hr h=>?_
 ·obtain⟨wb,p,ts,g,S,m,rfl,rfl,hw,hm,q⟩:=h;refine⟨_,(ah (aG (i:=2) tG.nd rfl (Or.inl rfl) (aF fB hr T.ji.c aJ (aa (pv 0) (aa (pv 1) af))))
   (ah (b7 (PW.pt (uA (aL EF (pv 1) aj (aO _)) (o7 (aL uG (cH K T.dM (aa (bz (own:=["count"]) (fq:=[]) (js:=[]) (aE (ai jN) ["web","some","counts"]) rfl (m8 K (pv 2)) (fun _ _ _ _=>(bf 0 (jS ["count"]))) (fun _ _ _ _=>(eN (aL (yQ K) (pv 0) (cP (aa aj (aa aj af))) (by with_unfolding_all rfl)))) (fun _ _ _ _=>(pv 0))) af)) aj (aO _))))) (av (aH mS)) aW)
   (av (aH (dP dI (aF mR hr T.mF.c aJ (aa (pv 0) (aa (pv 1) af))) (aK fG (aK qS (aI (cz K) (pv 0) aj) (cH K T.dM (aa (bz (own:=["count"]) (fq:=[]) (js:=[]) (aE (ai jN) ["web","some","counts"]) rfl (m8 K (pv 2)) (fun _ _ _ _=>(bf 0 (jS ["count"]))) (fun _ _ _ _=>(eN (aL dI (pv 0) aj (aO _)))) (fun _ _ _ _=>(pv 0))) af))) aj) (aO _)))))),?_⟩
  refine BJ ?_;intro cg cS dJ;obtain⟨bt,xs,h1,h2,h3⟩:=id hw.ex;have wp:=g.p2;refine(au rfl (au rfl ⟨wb,p,ts,g,_,m,rfl,rfl,hw,hm,fun D H1 s1 tO=>?_⟩))
  refine(au rfl (cy (au rfl (lE (fun h0=>?_) (fun h0=>?_)))))
  ·have h0:(m:Int)<=0:=i8 h0;exact q H1 false s1 ⟨(fun z=>nomatch z),fun r=>absurd (show m=0 by lia) r.1⟩
  have h0:m≠0:=fun z=>h0 (cD (show(m:Int)<=0 by lia))
  refine(au rfl ⟨D,rfl,⟨_,aM.of tO⟩,fun C hC=>aZ (xs:=cA (fun x=>g.N.dg m x) p) (fun i acc H2=>aq H1 H2/\H2 C=some (.lst acc)/\acc.length=RM.cnt (fun x=>!decide (0=g.N.dg m x\/2=g.N.dg m x)) i) ⟨aq.new hC,ae,rfl⟩ (fun i acc H2 _ f=>⟨aM.of (f.1 _ _ tO),f.2.1,by have:=RM.jW (fun x=>!decide (0=g.N.dg m x\/2=g.N.dg m x)) i;have:=f.2.2;lia⟩) (c8 (by rw[bS];lia)) ?_ ?_⟩)
  ·rintro i x acc H2 hx ⟨s2,Am,al⟩;obtain⟨hi,rfl⟩:=jZ hx;refine⟨rfl,au rfl ⟨dl rfl,fun u hu=>(pX rfl (.inr (aV.of ae)) ⟨rfl,rfl,au rfl (?_)⟩)⟩⟩
   have e:Lq (.int ((g.N.dg m i:Nat):Int)) [.int 0,.int 2]=decide (0=g.N.dg m i\/2=g.N.dg m i):=Qf _ 0 2;have hc1:RM.cnt (fun x=>!decide (0=g.N.dg m x\/2=g.N.dg m x)) (i+1)=RM.cnt (fun x=>!decide (0=g.N.dg m x\/2=g.N.dg m x)) i+if(!decide (0=g.N.dg m i\/2=g.N.dg m i))=true then 1 else 0:=rfl
   dsimp only;rw[if_pos rfl,e];have Yk:C≠u:=bq Am hu;cases hb:decide (0=g.N.dg m i\/2=g.N.dg m i) with
   | false =>
     rw[hb]at hc1;refine eF (au rfl ⟨by rw[ao Yk];exact Am,(s2.trans (aq.new hu)).put hC,ae,?_⟩)
     rw[List.length_append,hc1,al];rfl
   | true =>
     rw[hb]at hc1;exact cE ⟨s2.trans (aq.new hu),by rw[ao Yk];exact Am,by rw[hc1,al];rfl⟩
  rintro acc H2 ⟨s2,Am,al⟩;rw[bS]at al;have s12:=s1.trans s2;refine(pX rfl (.inl (aM.of Am)) (cy (au rfl (lE (fun hpos=>?_) (fun hpos=>?_)))))
  ·have hpos:(0:Int)<(acc.length:Int):=i8 hpos;refine q H2 false s12 ⟨(fun z=>nomatch z),fun r=>?_⟩
   obtain⟨x,hx,hf⟩:=RM.nh (show 0<RM.cnt _ p by rw[<-al];lia)
   have d2:=RM.Mx hm r x hx;rw[Bool.not_eq_true',decide_eq_false_iff_not]at hf;exact absurd (d2.imp Eq.symm Eq.symm) hf
  have d2:g.N.D2 m:=fun x hx=>by
   apply Classical.byContradiction;intro hn;have:=RM.oh (f:=fun x=>!decide (0=g.N.dg m x\/2=g.N.dg m x)) (k:=x) (by
    rw[Bool.not_eq_true',decide_eq_false_iff_not];exact fun z=>hn (z.imp Eq.symm Eq.symm)) (show x<p from hx)
   exact hpos (cD (show(0:Int)<(acc.length:Int) by lia))
  refine(au rfl (au rfl ⟨wb,p,ts,g,_,m,rfl,rfl,hw.same s12,hm,fun H3 s3=>?_⟩))
  have nO:=s12.trans s3;have qU:=(s2.trans s3) _ _ tO;refine(au rfl (cC (aV.of (nO _ _ h1)) (ak (j:=0) rfl) (?_)));refine(au rfl ⟨D,rfl,⟨_,aM.of qU⟩,fun C2 Am=>aZ (xs:=cA (fun x=>g.N.dg m x) p) (fun i acc H4=>aq H3 H4/\H4 C2=some (.lst acc)/\acc.length=RM.cnt (fun x=>decide (g.N.dg m x=2)) i) ⟨aq.new Am,ae,rfl⟩ (fun i acc H4 _ f=>⟨aM.of (f.1 _ _ qU),f.2.1,by have:=RM.jW (fun x=>decide (g.N.dg m x=2)) i;have:=f.2.2;lia⟩) (c8 (by rw[bS];lia)) ?_ ?_⟩)
  ·rintro i x acc H4 hx ⟨s4,Ux,Uy⟩;obtain⟨hi,rfl⟩:=jZ hx;refine⟨rfl,au rfl ⟨rfl,au rfl (?_)⟩⟩;have hc1:RM.cnt (fun x=>decide (g.N.dg m x=2)) (i+1)=RM.cnt (fun x=>decide (g.N.dg m x=2)) i+if decide (g.N.dg m i=2)=true then 1 else 0:=rfl
   have e:decide (V.int ((g.N.dg m i:Nat):Int)=V.int 2)=decide (g.N.dg m i=2):=j6 _ 2;rw[e];cases hb:decide (g.N.dg m i=2) with
   | true =>
     rw[hb]at hc1;refine(au rfl ⟨Ux,s4.put Am,ae,?_⟩);rw[List.length_append,hc1,Uy];rfl
   | false =>
     rw[hb]at hc1;exact⟨s4,Ux,by rw[hc1,Uy];rfl⟩
  ·rintro acc H4 ⟨s4,Ux,Uy⟩;rw[bS]at Uy;refine(pX rfl (.inl (aM.of Ux)) (cy (cy ⟨rfl,q H4 _ (nO.trans s4) ?_⟩)));have h:=RM.JQ hm h0 d2;have hcc:RM.cnt (fun x=>decide (g.N.dg m x=2)) p<=p:=by have:=RM.jW (fun x=>decide (g.N.dg m x=2)) p;lia
   rw[h,decide_eq_true_iff]
   constructor
   ·intro e;have e:=V.int.inj e;show RM.cnt (g.N.root (fun k=>m.testBit k) ts.length) p+RM.cnt (fun x=>decide (g.N.dg m x=2)) p=p+1
    lia
   ·intro e;have e:RM.cnt (g.N.root (fun k=>m.testBit k) ts.length) p+RM.cnt (fun x=>decide (g.N.dg m x=2)) p=p+1:=e
    exact congrArg V.int (by lia)
def Lf:Sp:=fun vs H Q _=>∃ w p ts,∃ g:aC p ts,∃(S:Int) (m:Nat),vs=[.ref w,.int S]/\S=(m:Int)/\aY H w p ts/\m<2^ts.length/\∀ H',aq H H'->Q (.int (lenOf ts m)) H'
theorem gq:Ok T T.jP 1 Lf:=by
 refine T.jP.ok BK fun _ A _ s H vs Q E hr h=>?_
 ·obtain⟨wb,p,ts,g,S,m,rfl,rfl,hw,hm,q⟩:=h;refine⟨_,(av (aH (cW (sumK K rfl) (by rfl) T.NS PyProof.Rows.boot_sum (aa (bz (own:=["k"]) (fq:=["web","some"]) (js:=[0,1]) (aE (ai mh) ["web","some"]) rfl (bL (by rfl) T.cj (aa (cH K T.dM (aa (aI (cz K) (pv 0) aj) af)) af)) (fun _ _ _ _=>(bf 0 (jS ["k","web","some"]))) (fun _ _ _ _=>(eN (aL dI (aK dO (aK yK (pv 2) (pv 0)) aj) aj (aO _)))) (fun _ _ _ _=>(aI (cz K) (aI (cz K) (aI (cz K) (pv 1) aj) (pv 0)) aj))) af)))),?_⟩
  obtain⟨bt,xs,h1,h2,h3⟩:=id hw.ex;have Aa:=h3.length;have wl:=g.len;refine(au rfl (cC (aV.of h1) (ak (j:=1) rfl) (pX rfl (.inr (aV.of h2)) (au rfl ⟨(by lia),(by lia),fun D hD=>ck (lo:=0) (m:=xs.length) (fun i acc H2=>aq H H2/\H2 D=some (.lst acc)/\acc=(((List.range i).filter (fun k=>m.testBit k)).map fun k=>(bU ts k).2.2).map V.int) ⟨aq.new hD,ae,rfl⟩ (fun i acc H2 _ z=>⟨z.2.1,by rw[z.2.2,List.length_map,List.length_map];exact Nat.le_trans (List.length_filter_le _ _) (by rw[List.length_range];exact Nat.le_refl _)⟩) (c8 (by lia)) ?_ ?_⟩))))
  ·rintro i acc H2 hi ⟨s2,iV,rfl⟩;rw[Int.zero_add];obtain⟨c,hxc,hct⟩:=vg (g:=g) h3 (show i<ts.length by lia)
   refine⟨rfl,au rfl (au rfl (cy ⟨(by lia),cy ⟨(pg rfl),rfl,au rfl (?_)⟩⟩))⟩
   rw[Int.toNat_natCast,CZ,eX];cases hb:m.testBit i with
   | true =>
     refine(au rfl (cC (aV.of (s2 _ _ h1)) (ak (j:=1) rfl) (au rfl (cC (aV.of (s2 _ _ h2)) (ak (j:=i) hxc) (cC (aV.of (s2 _ _ hct)) (ak (j:=2) rfl) ⟨iV,s2.put hD,ae,?_⟩)))));rw[aU,if_pos hb,List.map_append,List.map_append];rfl
   | false =>
     refine⟨s2,iV,?_⟩;rw[aU,if_neg (by rw[hb];decide),List.append_nil]
  ·rintro acc H2 ⟨s2,iV,rfl⟩;refine⟨D,_,rfl,aM.of iV,?_⟩;have e:lenOf ts m=(((List.range xs.length).filter (fun k=>m.testBit k)).map fun k=>(bU ts k).2.2).sum:=by
    unfold lenOf;rw[fL hm,Aa]
   rw[<-e];exact q H2 s2
def Lg:Sp:=fun vs H Q _=>∃ w p ts,∃ g:aC p ts,∃(S:Int) (m:Nat),vs=[.ref w,.int S]/\S=(m:Int)/\aY H w p ts/\m<2^ts.length/\∀ H' (d:Bool),aq H H'->(d=true↔g.N.cF m)->Q (.bl d) H'
def Lh:Sp:=fun vs H Q _=>∃ w p ts,∃ g:aC p ts,vs=[.ref w]/\aY H w p ts/\ts.length<=9/\∀ D l H',H D=none->aq H H'->H' D=some (.lst (ay l))->sQ p ts g l->Q (.ref D) H'
theorem Nd{p:Nat}{ts:List c6}{g:aC p ts}(h9:ts.length<=9){ps ps' : List (Addr×Int×Int)}{f:Nat->Bool}(hf:∀ r,f r=true↔r<2^ts.length/\g.N.Ring r)(e:ps.map (·.2)=((List.range (2^ts.length)).filter f).map fun r=>(lenOf ts r,(r:Int)))
 (hp:ps'.Perm ps) (hw:ps'.Pairwise (fun x y=>kx x.2<=kx y.2)):sQ p ts g (ps'.map fun q=>q.2.2.toNat)/\∀ q∈ps',q.2.2=((q.2.2.toNat:Nat):Int):=by
 have mem:∀ q∈ps,∃ r,f r=true/\q.2=(lenOf ts r,(r:Int)):=fun q hq=>by
  have:q.2∈ps.map (·.2):=List.mem_map.mpr ⟨q,hq,rfl⟩;rw[e]at this;obtain⟨r,hr,e2⟩:=List.mem_map.mp this;exact⟨r,(List.mem_filter.mp hr).2,e2.symm⟩
 have big:(2:Nat)^ts.length<=2^9:=Nat.pow_le_pow_right (by decide) h9
 have e3:ps.map (fun q=>q.2.2.toNat)=(List.range (2^ts.length)).filter f:=by
  have:ps.map (fun q=>q.2.2.toNat)=(ps.map (·.2)).map fun z=>z.2.toNat:=by rw[List.map_map];rfl
  rw[this,e,List.map_map];exact List.map_id _
 have pm:(ps'.map fun q=>q.2.2.toNat).Perm ((List.range (2^ts.length)).filter f):=by rw[<-e3];exact hp.map _
 refine⟨⟨?_,?_,fun r=>?_⟩,fun q hq=>?_⟩
 ·rw[List.pairwise_map];refine List.Pairwise.imp_of_mem (fun {x y} hx hy h=>?_) hw
  obtain⟨r,hr,e1⟩:=mem x (hp.mem_iff.mp hx);obtain⟨r',hr',e2⟩:=mem y (hp.mem_iff.mp hy);have b1:=((hf r).mp hr).1;have b2:=((hf r').mp hr').1;rw[e1,e2]at h ⊢;unfold kx at h;show nQ ts ((r:Int).toNat) ((r' : Int).toNat);rw[Int.toNat_natCast,Int.toNat_natCast];unfold nQ;have h:lenOf ts r*1073741824+(r:Int)<=lenOf ts r'*1073741824+(r' : Int):=h
  lia
 ·exact pm.nodup_iff.mpr (List.Pairwise.filter _ List.nodup_range)
 ·rw[pm.mem_iff,List.mem_filter,List.mem_range,hf];exact⟨fun z=>z.2,fun z=>⟨z.1,z⟩⟩
 ·obtain⟨r,_,e1⟩:=mem q (hp.mem_iff.mp hq);rw[e1];show(r:Int)=(((r:Int).toNat:Nat):Int);rw[Int.toNat_natCast]
theorem pV:Ok T T.pN 2 Lg:=by
 have fB:=fB T;refine T.pN.ok BI fun _ A _ s H vs Q E hr h=>?_
 ·obtain⟨wb,p,ts,g,S,m,rfl,rfl,hw,hm,q⟩:=h;refine⟨_,(av (aH (dP (yQ K) aj (bz (own:=["count"]) (fq:=[]) (js:=[]) (aE (ai l9) ["web","some"]) rfl (m8 K (aF fB hr T.ji.c aJ (aa (pv 0) (aa (pv 1) af)))) (fun _ _ _ _=>(bf 0 (jS ["count"]))) (fun _ _ _ _=>bQ) (fun _ _ _ _=>(aK dO (pv 0) aj))) (by with_unfolding_all rfl)))),?_⟩
  have wp:=g.p2;refine(au rfl (au rfl ⟨wb,p,ts,g,_,m,rfl,rfl,hw,hm,fun D H1 s1 tO=>?_⟩))
  refine⟨D,rfl,⟨_,aM.of tO⟩,fun C hC=>aZ (K:=K) (a:=D) (xs:=cA (fun x=>g.N.dg m x) p) (fun i acc H2=>aq H1 H2/\H2 C=some (.lst acc)/\acc=ay ((List.range i).map fun x=>g.N.dg m x%2)) ⟨aq.new hC,ae,rfl⟩ (fun i acc H2 _ z=>⟨aM.of (z.1 _ _ tO),z.2.1,by rw[z.2.2,aB,List.length_map,List.length_range];exact Nat.le_refl _⟩) (c8 (by rw[bS];lia)) ?_ ?_⟩
  ·rintro i x acc H2 hx ⟨s2,Am,rfl⟩;obtain⟨hi,rfl⟩:=jZ hx;refine⟨rfl,au rfl (cy ⟨(pg rfl),Am,s2.put hC,ae,?_⟩)⟩;rw[List.range_succ,List.map_append,List.map_singleton,bE];rfl
  ·rintro acc H2 ⟨s2,Am,rfl⟩;refine(pX rfl (.inl (aM.of Am)) ⟨rfl,jm _,?_⟩);rw[bS,if_pos rfl];refine q H2 _ (s1.trans s2) ?_;rw[show(V.int 1)=V.int ((1:Nat):Int) from rfl,jB,Bool.not_eq_true',decide_eq_false_iff_not]
   refine⟨fun h x hx=>?_,fun h z=>?_⟩
   ·rw[RM.AY];refine c7 fun e=>h (List.mem_map.mpr ⟨x,List.mem_range.mpr hx,e⟩)
   ·obtain⟨x,hx,e⟩:=List.mem_map.mp z;have:=h x (List.mem_range.mp hx);rw[RM.AY]at this;exact of_decide_eq_false this e
theorem i7:Ok T T.iZ 3 Lh:=by
 have pV:=pV T;have pU:=pU T;have gq:=gq T;refine T.iZ.ok iw fun _ A _ s H vs Q E hr h=>?_
 ·obtain⟨wb,p,ts,g,rfl,hw,h9,qq⟩:=h;refine⟨_,(ah (aG (i:=1) iw.nd rfl (Or.inl rfl) (dQ af))
   (ah (eE PassesOwn.never rfl (FN (by rfl) T.cj (aa aj (aa (aK kD aj (cH K T.dM (aa (aI (cz K) (pv 0) aj) af))) af))) (bf 2 iw.nd)
   (av (b7 (PW.pt (mZ (c9 (aF pV hr T.pN.c aJ (aa (pv 0) (aa (pv 2) af)))) (jT (c9 (aF pU hr T.pO.c aJ (aa (pv 0) (aa (pv 2) af))))))) (av (cR (Kv K (m7 PySem.F.plainAttrs_list PySem.F.slot_list_append PySem.F.type_list_append dc (pv 1) (aa (cP (aa (aF gq hr T.jP.c aJ (aa (pv 0) (aa (pv 2) af))) (aa (pv 2) af))) af))))) aW)))
   (av (aH (bz (own:=["pair"]) (fq:=[]) (js:=[]) (aE (ai fX) ["web","found","some"]) rfl (m8 K (cW (Km K) (by rfl) T.wg PyProof.Rows.boot_sorted (aa (pv 1) af))) (fun _ _ _ _=>(bf 0 (jS ["pair"]))) (fun _ _ _ _=>bQ) (fun _ _ _ _=>(aI (cz K) (pv 0) aj))))))),?_⟩
  refine rX ?_;intro cg cS dJ fE;obtain⟨bt,xs,h1,h2,h3⟩:=id hw.ex;have Aa:=h3.length;have big:(2:Nat)^ts.length<=2^9:=Nat.pow_le_pow_right (by decide) h9
  have Pq:(1:Int)*2^((xs.length:Nat):Int).toNat=((2^ts.length:Nat):Int):=by rw[jY,Aa]
  have tp:=Nat.two_pow_pos ts.length;refine⟨dl rfl,fun F hF=>?_⟩
  have s1:aq H (upd H F (.lst [])):=aq.new hF;obtain⟨f,hf⟩:∃ f:Nat->Bool,∀ r,f r=true↔r<2^ts.length/\g.N.Ring r:=⟨fun r=>@decide (r<2^ts.length/\g.N.Ring r) (Classical.propDecidable _),fun r=>@decide_eq_true_iff _ (Classical.propDecidable _)⟩
  have f0:f 0=false:=by
   cases h:f 0 with
   | false=>rfl
   | true=>exact absurd rfl ((hf 0).mp h).2.1
  have few:∀(i:Nat) (ps:List (Addr×Int×Int)),ps.map (·.2)=((List.range i).filter f).map (fun r=>(lenOf ts r,(r:Int)))->ps.length<64:=fun i ps e=>by
   have h1:=congrArg List.length e;rw[List.length_map,List.length_map]at h1;have h2:=RM.vM (N:=g.N) (l:=(List.range i).filter f) h9 (List.Pairwise.filter _ List.nodup_range) fun m hm=>(hf m).mp (List.mem_filter.mp hm).2
   lia
  refine(au rfl (cC (aV.of (s1 _ _ h1)) (ak (j:=1) rfl) (pX rfl (.inr (aV.of (s1 _ _ h2))) (cy ⟨⟨by lia,by lia,by decide⟩,1,((2^ts.length:Nat):Int),congrArg (fun z=>[V.int 1,V.int z]) Pq,⟨by decide,by decide,by lia,by lia⟩,?_⟩))))
  refine ig (lo:=1) (n:=(((2^ts.length:Nat):Int)-1).toNat) (fun i σ H2=>∃(ps:List (Addr×Int×Int)) (v2:Option V),σ=[some (.ref wb),some (.ref F),v2]/\aq H H2/\H2 F=some (.lst (ps.map fun q=>V.ref q.1))/\(∀ q∈ps,H2 q.1=some (.tup [.int q.2.1,.int q.2.2]))/\ps.map (·.2)=((List.range (i+1)).filter f).map fun r=>(lenOf ts r,(r:Int))) ⟨[],none,rfl,s1,ae,(fun q hq=>nomatch hq),?_⟩ ?_ ?_
  ·rw[aU,f0];rfl
  ·rintro i D' σ H2 hi ⟨ps,v2,rfl,s2,Nc,QL,N2⟩;have A5:i+1<2^ts.length:=by lia
   have ei:(1:Int)+(i:Int)=((i+1:Nat):Int):=by lia
   rw[ei];have fn:∀ H3,aq H2 H3->f (i+1)=false->∃(ps:List (Addr×Int×Int)) (v2:Option V),[some (V.ref wb),some (V.ref F),some (V.int ((i+1:Nat):Int))]=[some (.ref wb),some (.ref F),v2]/\aq H H3/\H3 F=some (.lst (ps.map fun q=>V.ref q.1))/\(∀ q∈ps,H3 q.1=some (.tup [.int q.2.1,.int q.2.2]))/\ps.map (·.2)=((List.range (i+1+1)).filter f).map fun r=>(lenOf ts r,(r:Int)):=fun H3 s3 e =>
    ⟨ps,_,rfl,s2.trans s3,s3 _ _ Nc,fun q hq=>s3 _ _ (QL q hq),by rw[aU,e,N2];simp⟩
   refine(au rfl (au rfl ⟨wb,p,ts,g,_,i+1,rfl,rfl,hw.same s2,A5,fun H3 d s3 hd=>(au rfl (?_))⟩))
   cases d with
   | false =>
     refine fn H3 s3 ?_;cases h:f (i+1) with
     | false=>rfl
     | true=>exact absurd (hd.mpr ((hf _).mp h).2.2.1) (by decide)
   | true =>
     refine(au rfl (au rfl ⟨wb,p,ts,g,_,i+1,rfl,rfl,hw.same (s2.trans s3),A5,fun H4 d s4 hd=>(au rfl (?_))⟩))
     cases d with
     | false =>
       refine fn H4 (s3.trans s4) ?_;cases h:f (i+1) with
       | false=>rfl
       | true=>exact absurd (hd.mpr ((hf _).mp h).2) (by decide)
     | true =>
       have Uz:=s3.trans s4;have hfi:f (i+1)=true:=(hf _).mpr ⟨A5,hd.mp rfl⟩;refine(au rfl ⟨.inl ⟨rfl,_,aM.of (Uz _ _ Nc)⟩,au rfl (au rfl ⟨wb,p,ts,g,_,i+1,rfl,rfl,hw.same (s2.trans Uz),A5,fun H5 s5=>(au rfl ⟨dl rfl,fun c hc=>?_⟩)⟩)⟩)
       have s6:aq H5 (upd H5 c (.tup [.int (lenOf ts (i+1)),.int ((i+1:Nat):Int)])):=aq.new hc;have Tc:=(Uz.trans s5).trans s6;have Ul:=Tc _ _ Nc;have hcF:c≠F:=fun z=>by rw[z,(Uz.trans s5) _ _ Nc]at hc;cases hc
       have pl:=few _ ps N2;refine⟨F,_,_,rfl,rfl,Ul,dw (by rw[List.length_map];lia),?_⟩
       refine⟨ps++[(c,lenOf ts (i+1),((i+1:Nat):Int))],_,rfl,(s2.trans Tc).put hF,?_,fun q hq=>?_,?_⟩
       ·rw[ae,List.map_append];rfl
       ·have hqF:∀ q∈ps,q.1≠F:=fun q hq z=>by
         have:=QL q hq;rw[z,Nc]at this;cases this
        rcases List.mem_append.mp hq with z|z
        ·rw[ao (hqF q z)];exact Tc _ _ (QL q z)
        ·rw[List.mem_singleton.mp z,ao hcF];exact ae
       ·rw[aU,hfi,if_pos rfl,List.map_append,List.map_append,N2];rfl
  ·rintro σ H2 ⟨ps,v2,rfl,s2,Nc,QL,N2⟩;have en:(((2^ts.length:Nat):Int)-1).toNat+1=2^ts.length:=by have:=Nat.two_pow_pos ts.length;lia
   rw[en]at N2;have pl:=few _ ps N2;have mem:∀ q∈ps,MQ q.2:=fun q hq=>by
    have:q.2∈ps.map (·.2):=List.mem_map.mpr ⟨q,hq,rfl⟩;rw[N2]at this;obtain⟨r,hr,e2⟩:=List.mem_map.mp this;have:=((hf r).mp (List.mem_filter.mp hr).2).1;rw[<-e2];unfold MQ;show 0<=(r:Int)/\(r:Int)<1073741824
    lia
   refine(au rfl ⟨F,ps,rfl,aM.of Nc,QL,mem,pl,fun l ps' hl pm pw=>?_⟩)
   obtain⟨rl,nat⟩:=Nd h9 hf N2 pm pw;have s3:aq H2 (upd H2 l (.lst (ps'.map fun q=>V.ref q.1))):=aq.new hl
   have P1:upd H2 l (.lst (ps'.map fun q=>V.ref q.1)) l=some (.lst (ps'.map fun q=>V.ref q.1)):=ae
   generalize upd H2 l (.lst (ps'.map fun q=>V.ref q.1))=H3 at s3 P1
   have pl':=pm.length_eq;refine⟨l,rfl,⟨_,aM.of P1⟩,fun D hD=>aZ (K:=K) (a:=l) (xs:=ps'.map fun q=>V.ref q.1) (fun i acc H4=>aq H3 H4/\H4 D=some (.lst acc)/\acc=ay ((ps'.take i).map fun q=>q.2.2.toNat)) ⟨aq.new hD,ae,rfl⟩ (fun i acc H4 _ z=>⟨aM.of (z.1 _ _ P1),z.2.1,by rw[z.2.2,aB,List.length_map,List.length_take];lia⟩) (Nat.le_of_lt (dw (by rw[List.length_map];lia))) ?_ ?_⟩
   ·rintro i x acc H4 hx ⟨s4,sM,rfl⟩;rw[List.getElem?_map]at hx;obtain⟨q,hq,rfl⟩:=wH.mp hx;have hm:=iT hq;have hq4:=(s3.trans s4) _ _ (QL q (pm.mem_iff.mp hm));refine⟨rfl,au rfl (cC (aV.of hq4) (ak (j:=1) rfl) ⟨sM,s4.put hD,ae,?_⟩)⟩;rw[take3 hq,List.map_append,List.map_singleton,bE,<-nat q hm]
   ·rintro acc H4 ⟨s4,sM,rfl⟩;rw[List.length_map,List.take_length]at sM;exact qq D _ H4 ((s2.trans s3).free hD) ((s2.trans s3).trans s4) sM rl
def iS(kept:List Nat):List (Nat×Nat):=kept.map fun b=>(b.log2,b)
def Li:Sp:=fun vs H Q _=>∃(l:Addr) (kept:List Nat) (x:Nat),vs=[.ref l,.int (x:Int)]/\H l=some (.lst (ay kept))/\(∀ b∈kept,b≠0)/\kept.length<=300/\
 (RM.jG (iS kept) x=0->Q (.bl false) H)/\(RM.jG (iS kept) x≠0->Q (.bl true) (upd H l (.lst (ay (kept++[RM.jG (iS kept) x])))))
theorem Lj{rows:List (Nat×Nat)}(h:RM.JG rows){t r:Nat}(ht:r.testBit t=true)(hz:∀ q∈rows,r.testBit q.1=false):RM.JG (rows++[(t,r)]):=by
 induction h with
 | nil=>exact .cons .nil ht (fun q hq=>nomatch hq)
 | cons h hr hz' ih =>
   rename_i t' r' rest
   refine .cons (ih fun q hq=>hz q (kU _ hq)) hr fun q hq=>?_
   rcases List.mem_append.mp hq with hq|hq
   ·exact hz' q hq
   ·have e:q=(t,r):=by simpa using hq
    rw[e];exact hz (t',r') List.mem_cons_self
theorem Cs(kept:List Nat):(iS kept).map (·.2)=kept:=by
 unfold iS;rw[List.map_map];exact List.map_id kept
theorem yG(kept:List Nat)(y:Nat):iS (kept++[y])=iS kept++[(y.log2,y)]:=by
 unfold iS;rw[List.map_append];rfl
structure HP(B kept:List Nat):Prop where
 JO:RM.JG (iS kept)
 nz:∀ b∈kept,b≠0
 span:∀ x,RM.Sp kept x↔RM.Sp B x
 le:kept.length<=B.length
 len:kept.length=B.length↔RM.O6 B
theorem HP.start:HP [] []:=⟨.nil,(fun b hb=>nomatch hb),fun _=>Iff.rfl,Nat.le_refl _,⟨fun _ i b h=>by simp at h,fun _=>rfl⟩⟩
theorem HP.zero{B kept:List Nat}(h:HP B kept)(x:Nat):RM.jG (iS kept) x=0↔RM.Sp B x:=by
 rw[RM.yk h.JO,Cs];exact h.span x
theorem HP.skip{B kept:List Nat}{b:Nat}(h:HP B kept)(hz:RM.jG (iS kept) b=0):HP (B++[b]) kept:=by
 have hs:=(h.zero b).mp hz;refine⟨h.JO,h.nz,fun x=>?_,?_,?_⟩
 ·rw[h.span]
  constructor
  ·exact fun z=>z.mono fun c hc=>.mem (Ni _ hc)
  ·refine fun z=>z.mono fun c hc=>?_
   rcases List.mem_append.mp hc with hc|hc
   ·exact .mem hc
   ·have e:c=b:=by simpa using hc
    rw[e];exact hs
 ·rw[List.length_append];have:=h.le
  lia
 ·rw[List.length_append,RM.yo];have:=h.le;exact⟨fun e=>by have:([b]:List Nat).length=1:=rfl;lia,fun z=>absurd hs z.2⟩
theorem HP.put{B kept:List Nat}{b:Nat}(h:HP B kept)(hz:RM.jG (iS kept) b≠0):HP (B++[b]) (kept++[RM.jG (iS kept) b]):=by
 have hs : ¬ RM.Sp B b:=fun z=>hz ((h.zero b).mpr z)
 have qO:=RM.qv (iS kept) b;rw[Cs]at qO;have hno:=RM.rA h.JO b;generalize RM.jG (iS kept) b=y at hz qO hno;refine⟨by rw[yG];exact Lj h.JO (RM.zc hz) hno,fun c hc=>?_,fun x=>?_,?_,?_⟩
 ·rcases List.mem_append.mp hc with hc|hc
  ·exact h.nz c hc
  ·have e:c=y:=by simpa using hc
   rw[e];exact hz
 ·have RE:RM.Sp (kept++[y]) y:=.mem (i9 _ (by simp))
  have RI:RM.Sp (B++[b]) b:=.mem (i9 _ (by simp))
  constructor
  ·refine fun z=>z.mono fun c hc=>?_
   rcases List.mem_append.mp hc with hc|hc
   ·exact((h.span c).mp (.mem hc)).mono fun d hd=>.mem (Ni _ hd)
   ·have e:c=y:=by simpa using hc
    rw[e];have:=(((h.span _).mp qO).mono (C:=B++[b]) fun d hd=>.mem (Ni _ hd)).xor RI
    rwa [Nat.xor_comm b y,RM.ic]at this
  ·refine fun z=>z.mono fun c hc=>?_
   rcases List.mem_append.mp hc with hc|hc
   ·exact((h.span c).mpr (.mem hc)).mono fun d hd=>.mem (Ni _ hd)
   ·have e:c=b:=by simpa using hc
    rw[e];have:=(qO.mono (C:=kept++[y]) fun d hd=>.mem (Ni _ hd)).xor RE
    rwa [RM.ic]at this
 ·rw[List.length_append,List.length_append];have:=h.le;exact Nat.add_le_add_right this 1
 ·rw[List.length_append,List.length_append,RM.yo];have h1:∀ x:Nat,([x]:List Nat).length=1:=fun _=>rfl
  rw[h1,h1];have:=h.len;exact⟨fun e=>⟨this.mp (by lia),hs⟩,fun z=>by have:=this.mpr z.1;lia⟩
theorem HQ(rows:List (Nat×Nat))(q:Nat×Nat)(x:Nat):RM.jG (rows++[q]) x=if(RM.jG rows x).testBit q.1=true then RM.jG rows x^^^q.2 else RM.jG rows x:=by
 unfold RM.jG;rw[List.foldl_append];rfl
theorem kB:Ok T T.kr 1 Li:=by
 refine T.kr.ok mj fun _ A _ s H vs Q E hr h=>?_
 ·obtain⟨l,kept,x,rfl,hl,nz,hk,q1,q2⟩:=h;refine⟨_,(ah (eE PassesOwn.never rfl (m8 K (pv 0)) (bf 2 mj.nd)
   (av (aG (i:=1) mj.nd rfl (Or.inl rfl) (cW (xO rfl) (by rfl) T.Fy PyProof.Rows.boot_min (aa (pv 1) (aa (aK gi (pv 1) (pv 2)) af))))))
   (ah (b7 (aL dI (pv 1) aj (aO _)) (av (aH mS)) aW)
   (ah (cR (Kv K (m7 PySem.F.plainAttrs_list PySem.F.slot_list_append PySem.F.type_list_append dc (pv 0) (aa (pv 1) af))))
   (av (aH mS))))),?_⟩
  refine zC ?_;intro cg cS dJ fE gO;refine(au rfl ⟨l,rfl,⟨_,aM.of hl⟩,cT (K:=K) (a:=l) (xs:=ay kept) (fun i σ H2=>∃ v2,σ=[some (.ref l),some (.int ((RM.jG (iS (kept.take i)) x:Nat):Int)),v2]/\H2=H) ⟨none,rfl,rfl⟩ (fun i σ H2 _ ⟨_,_,z⟩=>by rw[z];exact aM.of hl) ?_ ?_⟩)
  ·rintro i y D' σ H2 hi ⟨v2,rfl,rfl⟩;obtain⟨b,hb,rfl⟩:=cf hi;refine(au rfl (au rfl (au rfl (cy ⟨_,_,rfl,some (.int (b:Int)),?_,rfl⟩))));show[_,some (V.int (if Builtin.bitXor _ _<_ then Builtin.bitXor _ _ else _)),_]=_
   rw[xor_int,EX,RM.MA (nz b (iT hb)),take3 hb,yG,HQ]
  ·rintro σ H2 ⟨v2,rfl,rfl⟩;rw[aB,List.take_length];refine(au rfl ⟨rfl,au rfl (lE (fun h0=>?_) (fun h0=>?_))⟩)
   ·have h0:=V.int.inj (i8 h0);exact q1 (by lia)
   ·have h0:RM.jG (iS kept) x≠0:=fun z=>h0 (cD (by rw[z];rfl))
    refine(au rfl ⟨.inl ⟨rfl,_,aM.of hl⟩,au rfl ⟨l,_,_,rfl,rfl,hl,dw (by rw[aB];lia),?_⟩⟩)
    have:=q2 h0;rw[bE]at this;exact this
def xF(ts:List c6)(l:List Nat)(m:Nat)(bh:Bool):List Nat:=if bh=true then wG ts l m else xE ts l m
theorem HR{ts:List c6}{l:List Nat}{m i c:Nat}(bh:Bool)(h:l[i]?=some c):xF ts (l.take (i+1)) m bh=xF ts (l.take i) m bh++(if(!decide (c=m)&&(decide (lenOf ts c<lenOf ts m) || (bh&&decide (lenOf ts c=lenOf ts m))))=true then[c] else[]):=by
 unfold xF wG xE;rw[take3 h];have e1:decide (lenOf ts c<=lenOf ts m)=(decide (lenOf ts c<lenOf ts m) || decide (lenOf ts c=lenOf ts m)):=by
  rw[<-Bool.decide_or];exact decide_eq_decide.mpr Int.le_iff_lt_or_eq
 cases bh with
 | true =>
   rw[if_pos rfl,if_pos rfl,List.filter_append,List.filter_cons,List.filter_nil,Bool.true_and,e1]
 | false =>
   rw[if_neg Bool.false_ne_true,if_neg Bool.false_ne_true,List.filter_append,List.filter_cons,List.filter_nil,Bool.false_and,Bool.or_false]
   by_cases e:c=m
   ·subst e;rw[c7 (by lia),Bool.and_false]
   ·rw[c7 e,Bool.not_false,Bool.true_and]
def Ll:Sp:=fun vs H Q _=>∃ w p ts,∃ g:aC p ts,∃(lr:Addr) (l:List Nat) (m:Nat) (bh:Bool),vs=[.ref w,.ref lr,.int (m:Int),.bl bh]/\aY H w p ts/\H lr=some (.lst (ay l))/\l.length<64/\(∀ r∈l,r<2^ts.length)/\m<2^ts.length/\∀ H' (d:Bool),aq H H'->(d=true↔¬ RM.Sp (xF ts l m bh) m)->Q (.bl d) H'
theorem kC:Ok T T.ku 2 Ll:=by
 have gq:=gq T;have kB:=kB T;refine T.ku.ok gW fun _ A _ s H vs Q E hr h=>?_
 ·obtain⟨wb,p,ts,g,lr,l,m,bh,rfl,hw,hlr,N1,hlt,hm,q⟩:=h;refine⟨_,(ah (aG (i:=4) gW.nd rfl (Or.inl rfl) (aF gq hr T.jP.c aJ (aa (pv 0) (aa (pv 2) af))))
   (ah (aG (i:=5) gW.nd rfl (Or.inl rfl) (dQ af))
   (ah (eE PassesOwn.never rfl (m8 K (pv 1)) (bf 6 gW.nd)
   (ah (aG (i:=7) gW.nd rfl (Or.inl rfl) (aF gq hr T.jP.c aJ (aa (pv 0) (aa (pv 6) af))))
   (av (b7 (PW.pt (mZ (aL uF (pv 6) (pv 2) (aO _)) (jT (PW.pt (uA (aL xN (pv 7) (pv 4) (aO _)) (o7 (PW.pt (mZ (c9 (pv 3)) (jT (aL dI (pv 7) (pv 4) (aO _))))))))))) (av (cR (aF kB hr T.kr.c aJ (aa (pv 5) (aa (pv 6) af))))) aW))))
   (av (aH (aF kB hr T.kr.c aJ (aa (pv 5) (aa (pv 2) af)))))))),?_⟩
  refine zD ?_;intro cg cS dJ fE gO o4;refine(au rfl (au rfl ⟨wb,p,ts,g,_,m,rfl,rfl,hw,hm,fun H0 s0=>?_⟩))
  refine⟨dl rfl,fun Kp Yl=>?_⟩
  have s1:aq H (upd H0 Kp (.lst [])):=s0.trans (aq.new Yl);have Ym:upd H0 Kp (.lst []) Kp=some (.lst (ay [])):=ae;have ON:H Kp=none:=s0.free Yl;generalize upd H0 Kp (.lst [])=H1 at s1 Ym;refine(au rfl ⟨lr,rfl,⟨_,aM.of (s1 _ _ hlr)⟩,cT (K:=K) (a:=lr) (xs:=ay l) (fun i σ H2=>∃ kept v6 v7,σ=[some (.ref wb),some (.ref lr),some (.int (m:Int)),some (.bl bh),some (.int (lenOf ts m)),some (.ref Kp),v6,v7]/\aq H H2/\H2 Kp=some (.lst (ay kept))/\HP (xF ts (l.take i) m bh) kept) ⟨[],none,none,rfl,s1,Ym,by cases bh<;>exact HP.start⟩ (fun i σ H2 _ ⟨_,_,_,_,z,_⟩=>aM.of (z _ _ hlr)) ?_ ?_⟩)
  ·rintro i y D' σ H2 hi ⟨kept,v6,v7,rfl,s2,WD,kp⟩;obtain⟨c,CC,rfl⟩:=cf hi;have tk:=HR (ts:=ts) (m:=m) bh CC;refine(au rfl (au rfl ⟨wb,p,ts,g,_,c,rfl,rfl,hw.same s2,hlt c (iT CC),fun H3 s3=>?_⟩))
   have UA:=s3 _ _ WD;have NW:=s2.trans s3;have sl:(xF ts (l.take i) m bh).length<=(l.take i).length:=by
    unfold xF wG xE
    split<;>exact List.length_filter_le _ _
   have nZ:kept.length<=300:=by have:=kp.le;rw[List.length_take]at sl;lia
   refine(au rfl (au rfl ⟨rfl,au rfl (?_)⟩))
   by_cases e:c=m
   ·rw[cD (show V.int (c:Int)=V.int (m:Int) by rw[e])]
    refine cE (cE ⟨kept,_,_,rfl,NW,UA,?_⟩);rw[tk,cD e,Bool.not_true,Bool.false_and,if_neg Bool.false_ne_true,List.append_nil];exact kp
   rw[c7 (show ¬ V.int (c:Int)=V.int (m:Int) from fun z=>e (by have:=V.int.inj z;lia))]
   rw[c7 e,Bool.not_false,Bool.true_and]at tk;have put:(decide (lenOf ts c<lenOf ts m) || (bh&&decide (lenOf ts c=lenOf ts m)))=true->cS D' [some (V.ref wb),some (V.ref lr),some (V.int (m:Int)),some (V.bl bh),some (V.int (lenOf ts m)),some (V.ref Kp),some (V.int (c:Int)),some (V.int (lenOf ts c))] H3:=fun h=>by
    rw[h,if_pos rfl]at tk;refine(au rfl (au rfl ⟨Kp,kept,c,rfl,UA,kp.nz,nZ,fun hz=>?_,fun hz=>?_⟩))
    ·exact⟨kept,_,_,rfl,NW,UA,by rw[tk];exact kp.skip hz⟩
    ·exact⟨_,_,_,rfl,NW.put ON,ae,by rw[tk];exact kp.put hz⟩
   have no:(decide (lenOf ts c<lenOf ts m) || (bh&&decide (lenOf ts c=lenOf ts m)))=false->∃ kept v6 v7,[some (V.ref wb),some (V.ref lr),some (V.int (m:Int)),some (V.bl bh),some (V.int (lenOf ts m)),some (V.ref Kp),some (V.int (c:Int)),some (V.int (lenOf ts c))]=[some (.ref wb),some (.ref lr),some (.int (m:Int)),some (.bl bh),some (.int (lenOf ts m)),some (.ref Kp),v6,v7]/\aq H H3/\H3 Kp=some (.lst (ay kept))/\HP (xF ts (l.take (i+1)) m bh) kept:=fun h=>by
    rw[h,if_neg Bool.false_ne_true,List.append_nil]at tk;exact⟨kept,_,_,rfl,NW,UA,by rw[tk];exact kp⟩
   refine eF (au rfl (au rfl (cy (au rfl (lE (fun h=>?_) (fun h=>?_))))))
   ·exact eF (put (by rw[h,Bool.true_or]))
   ·have h:=N3.mpr h;refine(au rfl ⟨bh,rfl,?_⟩);cases bh with
    | false=>exact cE (cE (no (by rw[h];rfl)))
    | true =>
      refine eF (au rfl (au rfl ⟨rfl,au rfl (?_)⟩))
      by_cases e2:lenOf ts c=lenOf ts m
      ·rw[cD (show V.int (lenOf ts c)=V.int (lenOf ts m) by rw[e2])]
       exact eF (put (by rw[h,cD e2];rfl))
      ·rw[c7 (show ¬ V.int (lenOf ts c)=V.int (lenOf ts m) from fun z=>e2 (V.int.inj z))]
       exact cE (no (by rw[h,c7 e2];rfl))
  ·rintro σ H2 ⟨kept,v6,v7,rfl,s2,WD,kp⟩;rw[aB,List.take_length]at kp;have sl:(xF ts l m bh).length<=l.length:=by
    unfold xF wG xE
    split<;>exact List.length_filter_le _ _
   refine(au rfl (au rfl ⟨Kp,kept,m,rfl,WD,kp.nz,by have:=kp.le;lia,fun hz=>?_,fun hz=>?_⟩))
   ·exact q H2 false s2 ⟨(fun z=>nomatch z),fun z=>absurd ((kp.zero m).mp hz) z⟩
   ·exact q _ true (s2.put ON) ⟨fun _ z=>hz ((kp.zero m).mpr z),fun _=>rfl⟩
def kindS(ts:List c6)(l:List Nat)(m:Nat)(k:Str):Prop:=(k="none"/\RM.Sp (xE ts l m) m)\/(k="every"/\¬ RM.Sp (xE ts l m) m/\¬ RM.Sp (wG ts l m) m)\/(k="some"/\¬ RM.Sp (xE ts l m) m/\RM.Sp (wG ts l m) m)
def HS:Sp:=fun vs H Q _=>∃ w p ts,∃ g:aC p ts,∃(lr:Addr) (l:List Nat) (m:Nat),vs=[.ref w,.ref lr,.int (m:Int)]/\aY H w p ts/\H lr=some (.lst (ay l))/\l.length<64/\(∀ r∈l,r<2^ts.length)/\m<2^ts.length/\∀ H' k,aq H H'->kindS ts l m k->Q (.str k) H'
theorem pW:Ok T T.pP 3 HS:=by
 have kC:=kC T;refine T.pP.ok BL fun _ A _ s H vs Q E hr h=>?_
 ·obtain⟨wb,p,ts,g,lr,l,m,rfl,hw,hlr,N1,hlt,hm,q⟩:=h;refine⟨_,(ah (b7 (o8 (c9 (aF kC hr T.ku.c aJ (aa (pv 0) (aa (pv 1) (aa (pv 2) (aa mS af))))))) (av (aH fF)) aW)
   (av (aH (aI (jR K) (dQ (aa fF (aa fF af))) (cL nW (by rfl) T.Fw PyProof.Rows.boot_int (aa (aF kC hr T.ku.c aJ (aa (pv 0) (aa (pv 1) (aa (pv 2) (aa mS af))))) af)))))),?_⟩
  refine fP ?_;intro cg cS;refine(au rfl (au rfl (au rfl ⟨wb,p,ts,g,lr,l,m,false,rfl,hw,hlr,N1,hlt,hm,fun H1 d s1 hd=>(au rfl (?_))⟩)))
  cases d with
  | false =>
    refine eF (q H1 _ s1 (.inl ⟨rfl,?_⟩));apply Classical.byContradiction;intro z;exact absurd (hd.mpr z) (by decide)
  | true =>
    have hd:=hd.mp rfl;refine cE ⟨dl rfl,fun L hL=>?_⟩
    have s2:aq H1 (upd H1 L (.lst [.str "some",.str "every"])):=aq.new hL;have M7:upd H1 L (.lst [.str "some",.str "every"]) L=some (.lst [.str "some",.str "every"]):=ae;generalize upd H1 L (.lst [.str "some",.str "every"])=H2 at s2 M7;have s12:=s1.trans s2;refine(au rfl (au rfl (au rfl ⟨wb,p,ts,g,lr,l,m,true,rfl,hw.same s12,s12 _ _ hlr,N1,hlt,hm,fun H3 d s3 hd2=>.inr (au rfl (?_))⟩)))
    cases d with
    | true=>exact(jM (aM.of (s3 _ _ M7)) (ak (j:=1) rfl) (q H3 _ (s12.trans s3) (.inr (.inl ⟨rfl,hd,hd2.mp rfl⟩))))
    | false =>
      refine(jM (aM.of (s3 _ _ M7)) (ak (j:=0) rfl) (q H3 _ (s12.trans s3) (.inr (.inr ⟨rfl,hd,?_⟩))));apply Classical.byContradiction;intro z;exact absurd (hd2.mpr z) (by decide)
theorem xG{p:Nat}{ts:List c6}{g:aC p ts}{l rs:List Nat}(R:sQ p ts g l)(lb:RM.LB g.N (bx ts) rs){m:Nat}(hm:m∈rs): ¬ RM.Sp (xE ts l m) m:=fun h=>by
 have Po:∀ r∈rs,r<2^ts.length:=fun r hr=>(lb.1.ring r hr).2
 have h2:RM.Sp (rs.filter fun c=>decide (lenOf ts c<lenOf ts m)) m:=h.mono fun b hb=>by
  obtain⟨b1,b2⟩:=List.mem_filter.mp hb;have b2:lenOf ts b<lenOf ts m:=i8 b2;obtain⟨b3,b4⟩:=(R.all b).mp b1;refine(lb.parts b4 b3).mono fun c hc=>.mem ?_
  obtain⟨c1,c2⟩:=List.mem_filter.mp hc;have c2:=i8 c2;have e1:RM.len g.N (bx ts) c=lenOf ts c:=(lK (Po c c1)).symm;have e2:RM.len g.N (bx ts) b=lenOf ts b:=(lK b3).symm;rw[e1,e2]at c2;exact List.mem_filter.mpr ⟨c1,cD (by lia)⟩
 have h3:RM.Sp (rs.erase m) m:=h2.mono fun c hc=>.mem (by
  obtain⟨c1,c2⟩:=List.mem_filter.mp hc;have c2:=i8 c2;exact(List.mem_erase_of_ne fun e=>by rw[e]at c2;lia).mpr c1)
 exact(RM.jJ.mp ((RM.Bl (List.perm_cons_erase hm)).mp lb.1.ind)).2 h3
theorem Et{p:Nat}{ts:List c6}{g:aC p ts}{l rs:List Nat}(R:sQ p ts g l)(lb:RM.LB g.N (bx ts) rs){m:Nat}(hm:m∈l)(h : ¬ RM.Sp (wG ts l m) m):m∈rs:=by
 apply Classical.byContradiction;intro hn;obtain⟨m1,m2⟩:=(R.all m).mp hm;refine h ((lb.parts m2 m1).mono fun c hc=>.mem ?_)
 obtain⟨c1,c2⟩:=List.mem_filter.mp hc;have c2:=i8 c2;obtain⟨r1,r2⟩:=lb.1.ring c c1;have e1:RM.len g.N (bx ts) c=lenOf ts c:=(lK r2).symm;have e2:RM.len g.N (bx ts) m=lenOf ts m:=(lK m1).symm;rw[e1,e2]at c2;refine List.mem_filter.mpr ⟨(R.all c).mpr ⟨r2,r1⟩,N4.mpr ⟨?_,cD c2⟩⟩;rw[c7 fun e=>hn (by rw[<-e];exact c1)]
 rfl
theorem wA(l:List Nat)(lo hi:Option Int):∃ l',uJ (ay l) lo hi=ay l'/\l'.length<=l.length/\∀ x∈l',x∈l:=by
 refine⟨(l.drop (HT.p8 l.length 0 lo)).take (HT.p8 l.length l.length hi-HT.p8 l.length 0 lo),?_,?_,fun x hx=>List.mem_of_mem_drop (List.mem_of_mem_take hx)⟩
 ·unfold uJ ay;rw[List.length_map,List.map_take,List.map_drop]
 ·rw[List.length_take,List.length_drop]
  lia
theorem HU{ts:List c6}{l:List Nat}{m:Nat}{k k' : Str}(h:kindS ts l m k)(h' : kindS ts l m k'):k=k':=by
 rcases h with⟨rfl,a1⟩|⟨rfl,a1,a2⟩|⟨rfl,a1,a2⟩<;>rcases h' with⟨rfl,b1⟩|⟨rfl,b1,b2⟩|⟨rfl,b1,b2⟩
 ·rfl
 ·exact absurd a1 b1
 ·exact absurd a1 b1
 ·exact absurd b1 a1
 ·rfl
 ·exact absurd b2 a2
 ·exact absurd b1 a1
 ·exact absurd a2 b2
 ·rfl
theorem Eu{p:Nat}{ts:List c6}{g:aC p ts}{l:List Nat}{m:Nat}{H0 H:Hp}{c:Addr}(h:FD p ts g l m H0 H c):∃ k xs,H c=some (.tup (.str k::xs))/\kindS ts l m k:=by
 rcases h with⟨D,C,h1,_,_,h2,_⟩|⟨M,h1,h2,_⟩|⟨D,C,M,h1,_,_,h2,h3,_⟩
 ·exact⟨_,_,h1,.inl ⟨rfl,h2⟩⟩
 ·exact⟨_,_,h1,.inr (.inl ⟨rfl,fun z=>h2 (z.mono fun b hb=>.mem (P8 hb)),h2⟩)⟩
 ·exact⟨_,_,h1,.inr (.inr ⟨rfl,h2,h3⟩)⟩
def Aj(K:bW)(tb:tN):Sp:=fun vs H Q _=>∃(a:Addr) (ns:List Int),vs=[.ref a]/\aM K H a (ns.map V.int)/\ns.length<=63/\TabsAt tb H/\∀ H',Q (.bl true) H'
theorem Td:Ok T T.NR 13 (Aj K [(a.cY,nu "by_length",cI),(a.cZ,nu "least_ways",cK)]):=by
 have sS:=sS T;have eA:=eA T;have eV:=eV T;have i7:=i7 T;have pW:=pW T;have mK:=mK T;have mP:=mP T;refine T.NR.ok pL fun _ A _ s H vs Q E hr h=>?_
 ·obtain⟨b,ns,rfl,hS,hn,hT,fin⟩:=h;have M4:=hT _ List.mem_cons_self;have LC:=hT _ (kU _ List.mem_cons_self);refine⟨_,(ah (aG (i:=1) pL.nd rfl (Or.inl rfl) (aF sS hr T.sI.c aJ (aa (pv 0) (aa aj (aa aj af)))))
   (ah (aG (i:=2) pL.nd rfl (Or.inl rfl) (aF i7 hr T.iZ.c aJ (aa (pv 1) af)))
   (ah (iF (i:=3) pL.nd rfl rfl (own:=["triple"]) (fq:=[]) (js:=[]) (aE (ai Fv) ["script","web","rings","base","at","ring","kind"]) rfl (ZF K (aF mK hr T.mz.c aJ (aa (pv 1) af))) (fun _ _ _ _=>(bf 0 (jS ["triple"]))) (fun _ _ _ _=>bQ) (fun _ _ _ _=>(aI (cz K) (pv 0) aj)))
   (ah (aG (i:=4) pL.nd rfl (Or.inl rfl) (aK dO (aF eV hr T.iR.c aJ (aa (aF eA hr T.iL.c aJ (aa (pv 0) (aa aj af))) (aa aj af))) (cW (qT rfl) (by rfl) T.KR PyProof.Rows.boot_max (aa aj (aa (cH K T.dM (aa (pv 2) af)) af)))))
   (ah (eE PassesOwn.never rfl (m8 K (kW (Qq K) (aK (RO K) (kW (Qq K) (pv 2) (nY (pv 4)) nX) (kW (Qq K) (pv 2) nX (nY (pv 4)))) nX (nY aj))) (bf 5 pL.nd)
   (ah (aG (i:=6) pL.nd rfl (Or.inl rfl) (aF pW hr T.pP.c aJ (aa (pv 1) (aa (pv 2) (aa (pv 5) af)))))
   (ah (b7 (aL uF (aI (cz K) (aF mP hr T.mD.c jV (aa (pv 1) (aa (pv 5) af))) aj) (pv 6) (aO _)) (av (aH mS)) aW)
   (av (b7 (PW.pt (uA (PW.pt (mZ (aL dI (pv 6) fF (aO _)) (jT (aL (RE K) (pv 5) (pv 3) (by with_unfolding_all rfl))))) (o7 (PW.pt (mZ (aL dI (pv 6) fF (aO _)) (jT (aL (yQ K) (pv 5) (pv 3) (by with_unfolding_all rfl)))))))) (av (aH mS)) aW)))))
   (av (aH mS))))))),?_⟩
  refine PB ?_;intro cg cS dJ fE gO o4 yD Fp Fq Ft;refine(au rfl ⟨b,ns,9,5,rfl,hS,hn,by decide,fun wb p ts H1 s1 g p2 p6 t10 hw=>?_⟩)
  have htl:=s1 _ _ LC;have htb:=s1 _ _ M4;refine(au rfl ⟨wb,p,ts,g,rfl,hw,by lia,fun L l H2 VQ s2 hL R=>?_⟩)
  have N1:=R.few (by lia)
  have llt:∀ r∈l,r<2^ts.length:=fun r hr=>((R.all r).mp hr).1
  have h8:g.N.az.length<=8:=by
   by_cases h0:0<g.N.n
   ·have:=RM.GN h0;have h2:g.N.n=ts.length:=rfl
    lia
   ·have h1:g.N.az.length<=(List.range g.N.n).length:=List.length_filter_le ..;rw[List.length_range]at h1
    lia
  refine(au rfl ⟨wb,p,ts,g,rfl,hw.same s2,s2 _ _ htl,s2 _ _ htb,fun bb ys tr H6 hbn s6 T6 Yn lb pw mo al lr mk=>?_⟩)
  have ytl:=Yn.length;have Tc:=s2.trans s6;generalize hrs:tr.map (·.1)=rs at lb pw;have Ub:rs.length=tr.length:=by rw[<-hrs,List.length_map]
  have abA:rs.length<=24:=by
   have h1:g.N.az.length<=(List.range g.N.n).length:=List.length_filter_le ..;rw[List.length_range,<-lb.1.len]at h1;have h2:g.N.n=ts.length:=rfl
   lia
  refine⟨bb,rfl,⟨_,aV.of T6⟩,fun X hX=>II (K:=K) (a:=bb) (xs:=ys) (fun i acc H7=>aq H6 H7/\H7 X=some (.lst acc)/\acc=ay (rs.take i)) ⟨aq.new hX,ae,rfl⟩ (fun i acc H7 _ z=>⟨aV.of (z.1 _ _ T6),z.2.1,by rw[z.2.2,aB,List.length_take];lia⟩) (c8 (by lia)) ?_ ?_⟩
  ·rintro i x acc H7 hx ⟨s7,UB,rfl⟩;obtain⟨t,hti,c,b',rfl,hc,_⟩:=Paired.qf Yn hx;have Ou:rs[i]?=some t.1:=by rw[<-hrs,List.getElem?_map,hti];rfl
   refine⟨rfl,au rfl (cC (aV.of (s7 _ _ hc)) (ak (j:=0) rfl) ⟨UB,s7.put hX,ae,?_⟩)⟩;rw[take3 Ou];exact(bE _ _).symm
  rintro acc H7 ⟨s7,UB,rfl⟩;rw[ytl,<-Ub,List.take_length]at UB;have Yo:=Tc.trans s7;have s17:=s1.trans Yo;refine(au rfl ⟨b,ns,0,rfl,(by decide),s17.seq hS,fun z0=>⟨_,2,rfl,(by decide),(by decide),fun z1 z10 z11=>?_⟩⟩)
  have UC:=(s6.trans s7) _ _ hL;have mx:∀ x y:Int,0<y->0<(if x > y then x else y):=fun x y h=>by split<;>lia
  refine(au rfl (pX rfl (.inl (aM.of UC)) ⟨_,_,rfl,_,_,rfl,rfl,mx _ _ (by decide),?_⟩))
  refine(au rfl (au rfl (au rfl ⟨L,_,rfl,aM.of UC,fun c1 hc1=>?_⟩)))
  obtain⟨l1,e1,n1,m1⟩:=wA l (some (z1%(if((ay l).length:Int) > 1 then((ay l).length:Int) else 1))) none
  obtain⟨l2,e2,n2,m2⟩:=wA l none (some (z1%(if((ay l).length:Int) > 1 then((ay l).length:Int) else 1)))
  rw[e1];have t1:aq H7 (upd H7 c1 (.lst (ay l1))):=aq.new hc1;have Tf:upd H7 c1 (.lst (ay l1)) c1=some (.lst (ay l1)):=ae;generalize upd H7 c1 (.lst (ay l1))=H8 at t1 Tf;refine(au rfl (au rfl (au rfl ⟨L,_,rfl,aM.of (t1 _ _ UC),fun c2 hc2=>?_⟩)))
  rw[e2];have t2:aq H8 (upd H8 c2 (.lst (ay l2))):=aq.new hc2;have Tg:upd H8 c2 (.lst (ay l2)) c2=some (.lst (ay l2)):=ae;generalize upd H8 c2 (.lst (ay l2))=H9 at t2 Tg;refine⟨c1,c2,_,_,rfl,rfl,aM.of (t2 _ _ Tf),aM.of Tg,Nat.le_of_lt (dw (by rw[aB,aB];lia)),fun c3 hc3=>?_⟩
  have ea:ay l1++ay l2=ay (l1++l2):=by unfold ay;rw[List.map_append]
  rw[ea];have t3:aq H9 (upd H9 c3 (.lst (ay (l1++l2)))):=aq.new hc3;have Th:upd H9 c3 (.lst (ay (l1++l2))) c3=some (.lst (ay (l1++l2))):=ae;generalize upd H9 c3 (.lst (ay (l1++l2)))=LD at t3 Th;obtain⟨l3,e3,n3,m3⟩:=wA (l1++l2) none (some 6);refine(au rfl ⟨c3,_,rfl,aM.of Th,fun c4 hc4=>?_⟩)
  rw[e3];have t4:aq LD (upd LD c4 (.lst (ay l3))):=aq.new hc4;have Qh:upd LD c4 (.lst (ay l3)) c4=some (.lst (ay l3)):=ae;generalize upd LD c4 (.lst (ay l3))=H11 at t4 Qh;have ml:∀ x∈l3,x∈l:=fun x hx=>by
   rcases List.mem_append.mp (m3 x hx) with z|z
   ·exact m1 x z
   ·exact m2 x z
  have t14:=((t1.trans t2).trans t3).trans t4;refine⟨c4,rfl,⟨_,aM.of Qh⟩,cT (K:=K) (a:=c4) (xs:=ay l3) (fun i σ Ti=>∃ v4 v5 v6,σ=[some (.ref b),some (.ref wb),some (.ref L),some (.ref X),v4,v5,v6]/\aq H7 Ti/\aq H11 Ti) ⟨_,_,_,rfl,t14,aq.refl _⟩ (fun i σ Ti _ ⟨_,_,_,_,_,z⟩=>aM.of (z _ _ Qh)) ?_ ?_⟩
  ·rintro i y D' σ Ti hi ⟨v4',v5,v6,rfl,u1,u2⟩;obtain⟨m,hmi,rfl⟩:=cf hi;have hml:=ml m (iT hmi);obtain⟨r1,r2⟩:=(R.all m).mp hml;have w1:=Yo.trans u1;refine(au rfl (au rfl (au rfl ⟨wb,p,ts,g,L,l,m,rfl,hw.same w1,u1 _ _ UC,N1,llt,r1,fun H13 k nO hk=>?_⟩)))
   have w2:=w1.trans nO;refine(au rfl (au rfl ⟨wb,p,ts,g,_,rfl,hw.same w2,w2 _ _ htb,.inr ⟨h8,by lia,.inl ⟨m,rfl,r1,fun _ c l' Yp S4 R' PA=>?_,fun z=>absurd r2 z⟩⟩⟩))
   obtain rfl:l' = l:=R'.uniq R;obtain⟨k',xs,hc,hk'⟩:=Eu PA;obtain rfl:k' = k:=HU hk' hk;refine(cC (aV.of hc) (ak (j:=0) rfl) (au rfl ⟨rfl,au rfl (?_)⟩));rw[cD rfl];refine cE ?_;have w3:=(u1.trans nO).trans S4;have Tj:=w3 _ _ UB;have next:∃ v4 v5 v6,[some (V.ref b),some (V.ref wb),some (V.ref L),some (V.ref X),v4',some (V.int (m:Int)),some (V.str k')]=[some (.ref b),some (.ref wb),some (.ref L),some (.ref X),v4,v5,v6]/\aq H7 Yp/\aq H11 Yp:=⟨_,_,_,rfl,w3,(u2.trans nO).trans S4⟩;rcases hk with⟨rfl,a1⟩|⟨rfl,a1,a2⟩|⟨rfl,a1,a2⟩
   ·have e:Lq (V.int (m:Int)) (ay rs)=false:=by
     rw[jB];exact c7 fun z=>xG R lb z a1
    refine(au rfl ⟨rfl,au rfl (eF (au rfl (au rfl (pX rfl (.inl (aM.of Tj)) ⟨rfl,jm _,_,rfl,?_⟩))))⟩);rw[if_neg Bool.false_ne_true,e];exact cE (au rfl ⟨rfl,au rfl (cE (cE next))⟩)
   ·have e:Lq (V.int (m:Int)) (ay rs)=true:=by
     rw[jB];exact cD (Et R lb hml a2)
    refine(au rfl ⟨rfl,au rfl (cE (cE (au rfl ⟨rfl,au rfl (eF (au rfl (au rfl (pX rfl (.inl (aM.of Tj)) ⟨rfl,jm _,_,rfl,?_⟩))))⟩)))⟩);rw[if_pos rfl,e];exact cE next
   ·exact(au rfl ⟨rfl,au rfl (cE (cE (au rfl ⟨rfl,au rfl (cE (cE next))⟩)))⟩)
  ·rintro σ Ti ⟨v4,v5,v6,rfl,u1,u2⟩;exact fin _
end
section
variable {l:PySem.W.OpenLaw}{w:World}{K:bW}{h:Heap}{mg:oQ}{fa f0 f1 f2 f3 f4 f5 f6 f7 f8 f9 Yq Yr Ys Yt Yu Yv Yw Yx Yy Yz YA YB YC YD YE YF YG YH YI YJ YK YL f32 YM YN YO YQ YR YS YT YU YV YW YX YY YZ Y0 Y3 Y4 Y5 Y6 Y7 Y8 Y9 Za Zb Zc Zd Ze Zf Zg Zh Zi Zj f64 wB wC sU sV wF sW qN fC o6 eB:Addr}{d0 d1 d2 d3 d4 d5 d6 d7 d8 d9 d10 d11 d12 d13 d14 d15 d16 d17 d18 d19 d20 d21 d22 d23 d24 d25 d26 d27 d28 d29 d30 d31 d32 d33 d34 d35 d36 d37 d38 d39 d40 d41 d42 d43 d44 d45 d46 d47 d48 d49 d50 d51 d52 d53 d54 d55 d56 d57 d58 d59 d60 d61 d62 d63 d64:FuncData}{ts:List Addr}{Ct:Tok}
open PySem.W
theorem all_mk(X:K.In h)(G:h.Ns mainGlobals mg)(hfa:mg "law"=some (.ref fa))(te:ts=[fC,eB])
 (d_BadSet:nsIn K mainGlobals "BadSet"=some (some (.ref wB)))
 (d_BadPoint:nsIn K mainGlobals "BadPoint"=some (some (.ref wC)))
 (d_NotRing:nsIn K mainGlobals "NotRing"=some (some (.ref sU)))
 (d_NoChord:nsIn K mainGlobals "NoChord"=some (some (.ref sV)))
 (d_NoBase:nsIn K mainGlobals "NoBase"=some (some (.ref wF)))
 (d_TooMany:nsIn K mainGlobals "TooMany"=some (some (.ref sW)))
 (xc_BadSet:excIn K wB [.type "ValueError",.type "Exception",.type "BaseException",.type "object"] "ValueError.__new__"=true)
 (xc_NotRing:excIn K sU [.type "ValueError",.type "Exception",.type "BaseException",.type "object"] "ValueError.__new__"=true)
 (xc_NoChord:excIn K sV [.type "ValueError",.type "Exception",.type "BaseException",.type "object"] "ValueError.__new__"=true)
 (xc_NoBase:excIn K wF [.type "ValueError",.type "Exception",.type "BaseException",.type "object"] "ValueError.__new__"=true)
 (xc_TooMany:excIn K sW [.type "ValueError",.type "Exception",.type "BaseException",.type "object"] "ValueError.__new__"=true)
 (nt:noTabs K=true) (pn:([fC,eB]:List Addr).Nodup) (pi:∀ p∈([fC,eB]:List Addr),p∈ts)
 (a0:Dk K "has_tie" rM f0 d0)
 (a1:Dk K "ties_in" oB f1 d1)
 (a2:Dk K "set_of" vO f2 d2)
 (a3:Dk K "all_ties" pG f3 d3)
 (a4:Dk K "is_set" vP f4 d4)
 (a5:Dk K "check_set" nA f5 d5)
 (a6:Dk K "triples_in" ja f6 d6)
 (a7:Dk K "length_of" kc f7 d7)
 (a8:Dk K "odd_points" jc f8 d8)
 (a9:Dk K "drawn_together" e7 f9 d9)
 (VX:Dk K "pieces" qC Yq d10)
 (VY:Dk K "rank" DI Yr d11)
 (VZ:Dk K "is_even" rN Ys d12)
 (a13:Dk K "forest_trails" fU Yt d13)
 (a14:Dk K "forest" vQ Yu d14)
 (a15:Dk K "chords" vR Yv d15)
 (a16:Dk K "ring_closed" kG Yw d16)
 (a17:Dk K "chord_ring" lP Yx d17)
 (a18:Dk K "is_ring" oG Yy d18)
 (a19:Dk K "is_ring_number" ik Yz d19)
 (a20:Dk K "check_ring" lQ YA d20)
 (Zk:Py K "by_length" kg YB d21 qN fC)
 (a22:Dk K "common" vU YC d22)
 (a23:Dk K "bears_oddly" kH YD d23)
 (a24:Dk K "is_side" rP YE d24)
 (a25:Dk K "cut_of" qF YF d25)
 (a26:Dk K "side_of" oH YG d26)
 (a27:Dk K "steps_by_point" e8 YH d27)
 (Zl:Py K "least_ways" gR YI d28 o6 eB)
 (a29:Dk K "length_of_way" iW YJ d29)
 (a30:Dk K "worths_of_ways" fb YK d30)
 (a31:Dk K "all_least_ways" fc YL d31)
 (a32:Dk K "worths_of_all" fV f32 d32)
 (a33:Dk K "worths_for" lT YM d33)
 (a34:Dk K "least_odd" kh YN d34)
 (a35:Dk K "reduced" rS YO d35)
 (a36:Dk K "with_row" pH YQ d36)
 (a37:Dk K "rows_of" rT YR d37)
 (a38:Dk K "is_base" oJ YS d38)
 (a39:Dk K "marks_for" ki YT d39)
 (a40:Dk K "least_rings" fQ YU d40)
 (a41:Dk K "least_base" je YV d41)
 (a42:Dk K "check_rank" lV YW d42)
 (a43:Dk K "even_sets" kj YX d43)
 (a44:Dk K "all_rings" ko YY d44)
 (a45:Dk K "shorter_rings" fW YZ d45)
 (a46:Dk K "other_rings" iJ Y0 d46)
 (a47:Dk K "parts_of" lW Y3 d47)
 (a48:Dk K "marks_against" iX Y4 d48)
 (a49:Dk K "ring_paper" lX Y5 d49)
 (a50:Dk K "_law_cell_at" kJ Y6 d50)
 (a51:Dk K "_law_mixed" nF Y7 d51)
 (a52:Dk K "_law_length" lZ Y8 d52)
 (a53:Dk K "_law_tie" rW Y9 d53)
 (a54:Dk K "_law_web" ir Za d54)
 (a55:Dk K "_law_counts" l8 Zb d55)
 (a56:Dk K "_law_pieces" gV Zc d56)
 (a57:Dk K "_law_even" l9 Zd d57)
 (a58:Dk K "_law_ring" jN Ze d58)
 (a59:Dk K "_law_long" mh Zf d59)
 (a60:Dk K "_law_added" nG Zg d60)
 (a61:Dk K "_law_all_rings" fX Zh d61)
 (a62:Dk K "_law_taken" nH Zi d62)
 (a63:Dk K "_law_kind" pJ Zj d63)
 (a64:Dk K "law" Fv f64 d64)
 (Ak:Ng K "ValueError")
 (Tn:Ng K "all")
 (Qi:Ng K "bool")
 (Cu:Ng K "enumerate")
 (To:Ng K "int")
 (Al:Ng K "isinstance")
 (Tp:Ng K "len")
 (Qj:Ng K "list")
 (Tq:Ng K "max")
 (Tr:Ng K "min")
 (Nf:Ng K "range")
 (Tt:Ng K "set")
 (Lm:Ng K "sorted")
 (Tu:Ng K "sum")
 (Nh:Ng K "tuple")
 (Tv:Ng K "zip")
 (Cv:nsIn K mainGlobals "MOST_RANK"=some (some (.int 8 Ct)))
 : ∃(fd:FuncData) (tb:tN),((tb.map (·.1)).Nodup/\noTabs K=true/\∀ p∈tb,p.1∈ts/\∃ c,codeHdIn K c p.1=true)/\(∀(s:Shared) (v:Value),BindsTo s fd ⟨[v],[]⟩ [("script",v)])/\∀ base:Heap,K.In base->base.Ns mainGlobals mg->m5 l.prog w K mg base EJ 13 fa fd ["script"] (Aj K tb):=by
 have e:=hfa.symm.trans (mg_of X G a64.n);cases e;have T:∀ base,Txt l.prog w base K mg ⟨f0,_,f1,_,f2,_,f3,_,f4,_,f5,_,f6,_,f7,_,f8,_,f9,_,Yq,_,Yr,_,Ys,_,Yt,_,Yu,_,Yv,_,Yw,_,Yx,_,Yy,_,Yz,_,YA,_,YB,_,YC,_,YD,_,YE,_,YF,_,YG,_,YH,_,YI,_,YJ,_,YK,_,YL,_,f32,_,YM,_,YN,_,YO,_,YQ,_,YR,_,YS,_,YT,_,YU,_,YV,_,YW,_,YX,_,YY,_,YZ,_,Y0,_,Y3,_,Y4,_,Y5,_,Y6,_,Y7,_,Y8,_,Y9,_,Za,_,Zb,_,Zc,_,Zd,_,Ze,_,Zf,_,Zg,_,Zh,_,Zi,_,Zj,_,fa,_,wB,wC,sU,sV,wF,sW,qN,fC,o6,eB⟩:=fun _=>⟨lN X G a0,BE X G a1,lN X G a2,BE X G a3,lN X G a4,lN X G a5,lN X G a6,lN X G a7,lN X G a8,Qy X G a9,lN X G VX,BE X G VY,lN X G VZ,BE X G a13,BE X G a14,BE X G a15,Qy X G a16,lN X G a17,lN X G a18,lN X G a19,lN X G a20,dl2 X G Zk,lN X G a22,lN X G a23,lN X G a24,lN X G a25,lN X G a26,lN X G a27,dl3 X G Zl,BE X G a29,BE X G a30,lN X G a31,BE X G a32,lN X G a33,lN X G a34,lN X G a35,lN X G a36,BE X G a37,lN X G a38,lN X G a39,BE X G a40,BE X G a41,BE X G a42,BE X G a43,BE X G a44,lN X G a45,lN X G a46,Qy X G a47,lN X G a48,lN X G a49,lN X G a50,lN X G a51,lN X G a52,Qy X G a53,Qy X G a54,lN X G a55,lN X G a56,lN X G a57,lN X G a58,lN X G a59,lN X G a60,BE X G a61,dn4 X G a62,Qy X G a63,BE X G a64,mg_none_of X G Ak.n,mg_none_of X G Tn.n,mg_none_of X G Qi.n,mg_none_of X G Cu.n,mg_none_of X G To.n,mg_none_of X G Al.n,mg_none_of X G Tp.n,mg_none_of X G Qj.n,mg_none_of X G Tq.n,mg_none_of X G Tr.n,mg_none_of X G Nf.n,mg_none_of X G Tt.n,mg_none_of X G Lm.n,mg_none_of X G Tu.n,mg_none_of X G Nh.n,mg_none_of X G Tv.n,⟨_,mg_of X G Cv⟩,mg_of X G d_BadSet,mg_of X G d_BadPoint,mg_of X G d_NotRing,mg_of X G d_NoChord,mg_of X G d_NoBase,mg_of X G d_TooMany,fun h1 X1 G1=>uN X1 G1 d_BadSet xc_BadSet,fun h1 X1 G1=>uN X1 G1 d_NotRing xc_NotRing,fun h1 X1 G1=>uN X1 G1 d_NoChord xc_NoChord,fun h1 X1 G1=>uN X1 G1 d_NoBase xc_NoBase,fun h1 X1 G1=>uN X1 G1 d_TooMany xc_TooMany⟩
 exact⟨_,[(fC,nu "by_length",cI),(eB,nu "least_ways",cK)],⟨pn,nt,fun p hp=>⟨pi _ (List.mem_map_of_mem (f:=(·.1)) hp),by simp only[List.mem_cons,List.not_mem_nil,or_false]at hp;rcases hp with rfl | rfl;all_goals first | exact⟨_,Zk.F.hd⟩ | exact⟨_,Zl.F.hd⟩⟩⟩,Pz a64,fun base _ _=>Td (T base)⟩
end
theorem walk{l:PySem.W.OpenLaw}{q:Program}{loose:List Str}{XP:(Str->Option Value)->Heap->Prop}{YP:World->Heap->Prop}{d:DefRec}{K:Params->bW}{ts:List Addr}(hn:l.most=some 63)(Rr:d.params.defaults=[])
 (hY:∀(w:World) (h:Heap),YP w h->(K w.params).In h/\∀ P∈ts,h.get? P=some (PySem.W.tabObj #[]))
 (F:∀(w:World) (mg:oQ) (fa:Addr) (h:Heap),(K w.params).In h->h.Ns mainGlobals mg->mg d.name=some (.ref fa)->
  ∃(fd:FuncData) (tb:tN),((tb.map (·.1)).Nodup/\PySem.W.noTabs (K w.params)=true/\∀ p∈tb,p.1∈ts/\∃ c,PySem.W.codeHdIn (K w.params) c p.1=true)/\(∀(s:Shared) (u:Value),BindsTo s fd ⟨[u],[]⟩ [("script",u)])/\∀ base:Heap,(K w.params).In base->base.Ns mainGlobals mg->m5 l.prog w (K w.params) mg base EJ 13 fa fd ["script"] (Aj (K w.params) tb)) :
 PySem.W.WalkO q loose XP YP l.row.toRowW d [] (fun f vs=>PySem.call f vs) :=
 L2.J8 (n:=63) (k:=13) (x:="script") (CX:=fun _=>EJ) (sp:=fun w=>Aj (K w.params)) hn (by decide) Rr ⟨rfl,by decide,by decide⟩ hY F (fun _ _ a ns tb hl hT hS=>⟨a,ns,rfl,hS,hl,hT,fun _=>rfl⟩) fun _ _ _ _ _ z=>z
end K37
namespace PySem.W.Fast
def tw6039608927784140099:=()
def tw15287448824509078374:=()
def tw5297922189256071531:=()
def tw1357289545629184150:=()
def tw16715030985472178858:=()
def tw17096731905475726891:=()
def tw14849807878706834794:=()
def tw7743822767019141557:=()
def tw17558481918064218899:=()
def tw3745752937743931889:=()
def tw9728814159277944050:=()
def tw8088322823196596118:=()
def tw595966542593515340:=()
def tw13753089960821560600:=()
def tw13502795903098413390:=()
def tw15515268712906692137:=()
def tw8483286929749899318:=()
def tw5464730011035361354:=()
def tw11612279272649481794:=()
def tw9761815623657069464:=()
def tw17885617512121720585:=()
def tw8187697284335646184:=()
def tw10032938814815335898:=()
def tw16639778923136333062:=()
def tw13389410872487586493:=()
def tw9675705738796021037:=()
def tw9490465919147657819:=()
def tw2815181629477973654:=()
def tw2723924042916922871:=()
def tw10382797589039240293:=()
def tw9889368009796209806:=()
def tw13335253693593730329:=()
def tw10476449161509582346:=()
def tw14266639821201354532:=()
def tw7463783375838904889:=()
def tw6028960947865933611:=()
def tw8318305014113142466:=()
def tw11816767069462466147:=()
def tw1474933049081701269:=()
def tw13168284091403286861:=()
def tw14561776634423840775:=()
def tw5011625829239515610:=()
def tw1682787720173534694:=()
def tw16147068645812255847:=()
def tw11769245301271046469:=()
def tw7408568961134315764:=()
def tw16100632492352483596:=()
def tw18291859280092255760:=()
def tw4908287127694245357:=()
def tw18313224758861055287:=()
def tw5519660714941878819:=()
def tw11099373101682726644:=()
def tw16501936606658733741:=()
def tw13978320465634501043:=()
def tw4141989320085002130:=()
def tw3877898606462611452:=()
def tw17018134329981847656:=()
def tw9069481403302434229:=()
def tw7458892121049782013:=()
def tw12315350751209556223:=()
def tw11113312412524894495:=()
def tw12517356386776544602:=()
def tw5026136080757592428:=()
def tw14923855343428772914:=()
def tw4818375873485801060:=()
def tw17447497907889950152:=()
def tw2118950266046515957:=()
def tw8412535713936774082:=()
def tw6535320878377665225:=()
def tw2256324300789514798:=()
def tw14320418944216065606:=()
def tw12420512080645230104:=()
def tw11412982500825948932:=()
def tw14624576416696000610:=()
def tw263612812862368185:=()
def tw9254112781667744931:=()
def tw5752558322019739639:=()
def tw6433770785761087157:=()
def tw12818591149822149215:=()
def tw18074782149429792102:=()
def tw6554200911334462423:=()
def tw7482799957896907322:=()
def tw17898153310148295379:=()
def tw17077310446781798131:=()
def tw4031270639671456121:=()
def tw14396427825836188836:=()
def tw7509952097272956480:=()
def tw6074317379572511974:=()
def tw15438943188051398951:=()
def tw17808245966511181671:=()
def tw10575529810847258829:=()
def tw15451152374338655187:=()
def tw3842808642454449113:=()
def tw14735838058807312750:=()
def tw5476886786007586260:=()
def tw17774812464115614553:=()
def tw17576642380028454622:=()
def tw9449310582882831161:=()
def tw14663756011662822788:=()
def tw4827244154521594872:=()
def tw18428464526654296461:=()
def tw5844478648706469953:=()
def tw13373229450967237511:=()
def tw3189316005018636872:=()
def tw18024192045169814060:=()
def tw5304787647966832815:=()
def tw5949001474853259131:=()
def tw15245692852919023373:=()
def tw1085503075248849899:=()
def tw6504793828164551693:=()
end PySem.W.Fast
open PySem PySem.W PyProof.Rows
set_option maxRecDepth 100000 in
set_option maxHeartbeats 0 in
theorem PySem.Challenge.cw_ringbase_k37_whole_kinds_holds : PySem.Challenge.rw_ringbase_k37_whole_kinds.Holds := by
 w_on;o_law;k_head;(case hw=>w_witness2)
 k_fill
 refine K37.walk (l:=PySem.Challenge.rw_ringbase_k37_whole_kinds) rfl rfl (fun w h Y=>⟨PySem.W.km_in_of Y,PySem.W.km_tabs_of Y⟩) ?F
 case F =>
  intro w mg fa h KX G hmg;refine' K37.all_mk KX G hmg ?te ?d_BadSet ?d_BadPoint ?d_NotRing ?d_NoChord ?d_NoBase ?d_TooMany ?xc_BadSet ?xc_NotRing ?xc_NoChord ?xc_NoBase ?xc_TooMany ?nt ?pn ?pi ..
  (case te=>exact rfl)
  (case d_BadSet=>k_is)
  (case d_BadPoint=>k_is)
  (case d_NotRing=>k_is)
  (case d_NoChord=>k_is)
  (case d_NoBase=>k_is)
  (case d_TooMany=>k_is)
  any_goals (refine' L2.dk ?ga ?gl ?gc ?gk;(case ga=>k_is);(case gl=>k_is);(case gc=>k_is);(case gk=>k_is))
  any_goals (refine' L2.dkL ?ga ?gl ?gc ?gk ?gd;(case ga=>k_is);(case gl=>k_is);(case gd=>kernel_rfl);(case gc=>k_is);(case gk=>k_is))
  any_goals (refine' L2.Ng.mk ?ga;(case ga=>k_is))
  (case xc_BadSet=>k_exc)
  (case xc_NotRing=>k_exc)
  (case xc_NoChord=>k_exc)
  (case xc_NoBase=>k_exc)
  (case xc_TooMany=>k_exc)
  (case nt=>kernel_rfl)
  (case pn=>decide)
  (case pi=>decide)
  any_goals k_is
