import PyProof.Rows.All
import Wide.All
import OpenK.AllK
import Wide.FinOn
import Lean
import PyProof.EqAt
import PyProof.EqKinds
import PyProof.TupleCall
import PySem.Challenge.RW_ringbase_k33_all_rings_told
set_option Elab.async false
set_option linter.all false
set_option maxRecDepth 100000
abbrev cN:=@decide_eq_true
abbrev dO:=@decide_eq_false
abbrev kr:=@of_decide_eq_true
abbrev lj:=@List.mem_append_right
abbrev qi:=@List.mem_cons_of_mem
abbrev vU:=@List.mem_of_getElem?
abbrev vM:=@List.getElem?_eq_some_iff
abbrev DW:=@Option.map_eq_some_iff
abbrev EH:=@List.mem_append_left
abbrev aQ:=List (PySem.Addr×PySem.Obj)
abbrev fD:=PySem.Value->PySem.Shared->Prop
abbrev jk:=PySem.Str->Option PySem.Value
abbrev bw:=PySem.W.Frag
namespace L2
open PySem PySem.Spec PyProof.Rows
abbrev cE:=@wpAny_bind
abbrev Key:=Sum Int Str
def DX:Key->Value->Bool
 | .inl k,v=>Value.isInt k v
 | .inr x,v=>Value.isStrOf x v
def JZ(w:World):Key->Int
 | .inl k=>hashInt k
 | .inr x=>hashStr w x
theorem bQ:∀{k:Key} {v:Value},DX k v=true->(∃ i t,k=Sum.inl i/\v=Value.int i t)\/(∃ x t,k=Sum.inr x/\v=Value.str x t)
 | .inl i,v,h=>by
   obtain⟨t,e⟩:=Value.isInt_shape (k:=i) (v:=v) h;exact .inl ⟨i,t,rfl,e⟩
 | .inr x,v,h=>by
   obtain⟨t,e⟩:=Value.isStrOf_shape (x:=x) (v:=v) h;exact .inr ⟨x,t,rfl,e⟩
theorem EI(a b:Int):decide ((Sum.inl a:Key)=Sum.inl b)=(a==b):=by
 by_cases e:a=b
 ·subst e;simp
 ·have h : ¬(Sum.inl a:Key)=Sum.inl b:=fun q=>e (Sum.inl.inj q)
  rw[dO h];exact(beq_eq_false_iff_ne.mpr e).symm
theorem EJ(a b:Str):decide ((Sum.inr a:Key)=Sum.inr b)=decide (a=b):=by
 by_cases e:a=b
 ·subst e;simp
 ·have h : ¬(Sum.inr a:Key)=Sum.inr b:=fun q=>e (Sum.inr.inj q)
  rw[dO h,dO e]
theorem EK(a:Int)(b:Str):decide ((Sum.inl a:Key)=Sum.inr b)=false:=dO (fun q=>nomatch q)
theorem EL(a:Str)(b:Int):decide ((Sum.inr a:Key)=Sum.inl b)=false:=dO (fun q=>nomatch q)
def xH(prog:Program)(w:World):PySem.KeyKind prog w Key where
 is:=DX
 hash:=JZ w
 inj:=fun v a b ha hb=>by
  rcases bQ ha with⟨i,t,rfl,rfl⟩|⟨x,t,rfl,rfl⟩
  ·rcases bQ hb with⟨j,u,rfl,e⟩|⟨y,u,rfl,e⟩
   ·injection e with e1 _;rw[e1]
   ·exact nomatch e
  ·rcases bQ hb with⟨j,u,rfl,e⟩|⟨y,u,rfl,e⟩
   ·exact nomatch e
   ·injection e with e1 _;rw[e1]
 byValue:=fun k v h=>by
  rcases bQ h with⟨i,t,rfl,rfl⟩|⟨x,t,rfl,rfl⟩<;>rfl
 pyHash:=fun hv h=>by
  rcases bQ hv with⟨i,t,rfl,rfl⟩|⟨x,t,rfl,rfl⟩
  ·exact wpAny_pyHash_int h
  ·exact wpAny_pyHash_str h
 eqBool:=fun hu hv h=>by
  rcases bQ hu with⟨i,t,rfl,rfl⟩|⟨x,t,rfl,rfl⟩
  ·rcases bQ hv with⟨j,u,rfl,rfl⟩|⟨y,u,rfl,rfl⟩
   ·rw[EI]at h;exact wpAny_eqBool_int h
   ·rw[EK]at h;exact SeqAt.EqAt.int_str i t y u _ _ _ _ h
  ·rcases bQ hv with⟨j,u,rfl,rfl⟩|⟨y,u,rfl,rfl⟩
   ·rw[EL]at h;exact SeqAt.EqAt.str_int x t j u _ _ _ _ h
   ·rw[EJ]at h;exact wpAny_eqBool_str h
 «strs»:=fun k x t v h=>by
  rcases bQ h with⟨i,u,rfl,e⟩|⟨y,u,rfl,e⟩
  ·exact nomatch e
  ·injection e with e1 _
   subst e1;cases v<;>rfl
inductive V where
 | eV | bl (b:Bool) | int (i:Int) | str (x:Str) | Au (b:Array UInt8) | Gz (b:UInt64) | ref (a:Addr) | ty (n:String)
 deriving DecidableEq
def RelV:V->Value->Prop
 | .eV,u=>u=Value.none
 | .bl b,u=>u=Value.bool b
 | .int i,u=>∃ t,u=Value.int i t
 | .str x,u=>∃ t,u=Value.str x t
 | .Au b,u=>∃ t,u=Value.bytes b t
 | .Gz b,u=>∃ t,u=Value.float b t
 | .ref a,u=>u=Value.ref a
 | .ty n,u=>u=Value.type n
abbrev Vals:List V->List Value->Prop:=Paired RelV
theorem Vals.length{xs:List V}{us:List Value}(r:Vals xs us):xs.length=us.length:=Paired.length r
theorem Vals.get:∀{xs:List V} {us:List Value} {i:Nat} {x:V},Vals xs us->xs[i]?=some x->∃ u,us[i]?=some u/\RelV x u
 | _,_,_,_,.nil,e=>by simp at e
 | _,_,0,_,.cons r _,e=>by simp at e;subst e;exact⟨_,rfl,r⟩
 | _,_,i+1,x,.cons _ t,e=>by
   obtain⟨u,h1,h2⟩:=Vals.get (i:=i) (x:=x) t (by simpa using e)
   exact⟨u,by simpa using h1,h2⟩
theorem Vals.set{x:V}{u:Value}(r:RelV x u):∀{xs:List V} {us:List Value} (i:Nat),Vals xs us->Vals (xs.set i x) (us.set i u)
 | _,_,_,.nil=>.nil
 | _,_,0,.cons _ t=>.cons r t
 | _,_,i+1,.cons q t=>.cons q (Vals.set r i t)
theorem Vals.append:∀{xs ys:List V} {us ws:List Value},Vals xs us->Vals ys ws->Vals (xs++ys) (us++ws)
 | _,_,_,_,.nil,s=>s
 | _,_,_,_,.cons r t,s=>.cons r (Vals.append t s)
theorem Vals.take:∀{xs:List V} {us:List Value} (n:Nat),Vals xs us->Vals (xs.take n) (us.take n)
 | _,_,0,_=>.nil
 | _,_,_+1,.nil=>.nil
 | _,_,n+1,.cons r t=>.cons r (Vals.take n t)
theorem Vals.drop:∀{xs:List V} {us:List Value} (n:Nat),Vals xs us->Vals (xs.drop n) (us.drop n)
 | _,_,0,r=>r
 | _,_,_+1,.nil=>.nil
 | _,_,n+1,.cons _ t=>Vals.drop n t
def EM:Option V->Option Value->Prop
 | some v,some u=>RelV v u
 | none,none=>True
 | _,_=>False
def KV{κ:Type}:List (κ×V)->List (κ×Value)->Prop:=Paired fun(p:κ×V) (q:κ×Value)=>p.1=q.1/\RelV p.2 q.2
def kV:Key->V
 | .inl i=>.int i
 | .inr x=>.str x
inductive HO where
 | lst (xs:List V)
 | tup (xs:List V)
 | dK (kvs:List (Key×V)) | dT (kvs:List (List Key×V))
 | set (S:Int->Bool) (n:Nat)
 | ins (C dx:Addr) (fs:List (Str×V))
 | own (x:Addr)
 | xd (fs:List (Str×V))
 | met (f x:Addr)
 | yH (lo hi:Int)
 | m9 (o:Obj) (u:HO)
 | jU (ps:Array Value)
 | ext (φ:Heap->Prop)
abbrev Hp:=Addr->Option HO
def upd(H:Hp)(a:Addr)(o:HO):Hp:=fun b=>if b=a then some o else H b
theorem af{H:Hp}{a:Addr}{o:HO}:upd H a o a=some o:=by unfold upd;rw[if_pos rfl]
theorem ao{H:Hp}{a b:Addr}{o:HO}(h:b≠a):upd H a o b=H b:=by unfold upd;rw[if_neg h]
theorem cB{H:Hp}{a b:Addr}{o u:HO}(h:H a=some o)(h' : H b=some u)(d:o≠u):a≠b:=by
 intro e;subst e;rw[h]at h';exact d (Option.some.inj h')
theorem aU{H:Hp}{a b:Addr}{o:HO}(h:H a=some o)(h' : H b=none):a≠b:=by
 intro e;subst e;rw[h]at h';cases h'
def CA(qs:Array Value):Str:=match (qs[0]?:Option Value) with | some (Value.str q _)=>q | _=>""
section
variable (P:Program)(w:World)
def bu(H:Hp)(h:Heap)(a:Addr):HO->Prop
 | .lst xs=>xs.length<=sizeLine/\∃(its:List Value) (n:Nat),Vals xs its/\h.get? a=some { cls:=.type "list",data:=.seq its.toArray n}
 | .tup xs=>xs.length<=sizeLine/\∃ its:List Value,Vals xs its/\IsTup h a its.toArray
 | .dK kvs=>kvs.length<=sizeLine/\(a==sysModules)=false/\∃ vs,KV kvs vs/\h.DictOf (xH P w) a vs
 | .dT kvs=>kvs.length<=sizeLine/\(a==sysModules)=false/\∃ xs:List (List Key×Addr×Value),
  Paired (fun(p:List Key×V) (q:List Key×Addr×Value)=>p.1=q.1/\H q.2.1=some (.tup (p.1.map kV))/\RelV p.2 q.2.2) kvs xs/\
  ∃ o es ep,h.get? a=some o/\o.ExactDict/\o.data = .dict es ep/\es.toList=xs.map (entryOfKey (tupleKind (xH P w)))/\(xs.map (·.1)).Nodup
 | .set S n=>h.SetOf (intKind P w) a S n
 | .ins C dx fs=>H dx=some (.own a)/\fs.length<=1000/\dx≠a/\h.get? a=some (PySem.W.instObj C dx)/\
  ∃ mA,h.Ns1 dx mA/\(∀ f,EM (fs.lookup f) (mA f))/\PySem.Within mA (fs.map (·.1))
 | .own _=>∃ o,h.get? a=some o
 | .xd fs=>∃ mA,h.Ns1 a mA/\∀ f,EM (fs.lookup f) (mA f)
 | .yH lo hi=>∃ t u v,h.get? a=some { cls:=.type "range",data:=.fields #[.int lo t,.int hi u,.int 1 v]}
 | .m9 o u=>h.get? a=some o/\bu H h a u
 | .jU qs=>∃ ps:Array Value,h.get? a=some { cls:=.none,data:=.fields ps}/\((qs.size=3/\(ps = #[]\/∃ c,ps = #[qs.getD 1 .none,qs.getD 2 .none,.ref c]/\H c=some (.own a)/\h.CodeRec (.ref c) (CA qs)))\/∃ q l k,qs = #[q,l,k]++ps/\ps.size=3)
 | .met f x=>h.get? a=some (PySem.W.methodObj (.ref f) (.ref x))
 | .ext φ=>φ h/\(∃ o,h.get? a=some o)/\∀ h1 h2:Heap,φ h1->(∀ o,h1.get? a=some o->h2.get? a=some o)->φ h2
def lq(H:Hp)(h:Heap):Prop:=∀ a o,H a=some o->bu P w H h a o
end
section
variable {P:Program}{w:World}{H H' : Hp}{h h' : Heap}{a:Addr}{o:HO}
theorem bu.lt(x:bu P w H h a o):a<h.objs.size:=by
 cases o with
 | lst xs=>obtain⟨_,_,_,_,e⟩:=x;exact Heap.lt_size e
 | tup xs=>obtain⟨_,_,_,p⟩:=x;exact p.lt
 | dK kvs=>obtain⟨_,_,_,_,o,_,_,e,_⟩:=x;exact Heap.lt_size e
 | dT kvs=>obtain⟨_,_,_,_,o,_,_,e,_⟩:=x;exact Heap.lt_size e
 | set S n=>obtain⟨o,_,_,_,e,_⟩:=x;exact Heap.lt_size e
 | ins C dx fs=>obtain⟨_,_,_,e,_⟩:=x;exact Heap.lt_size e
 | own y=>obtain⟨_,e⟩:=x;exact Heap.lt_size e
 | xd fs=>obtain⟨_,⟨_,_,_,e,_⟩,_⟩:=x;exact Heap.lt_size e
 | yH lo hi=>obtain⟨_,_,_,e⟩:=x;exact Heap.lt_size e
 | m9 ob u=>obtain⟨e,_⟩:=x;exact Heap.lt_size e
 | jU ps=>obtain⟨_,e,_⟩:=x;exact Heap.lt_size e
 | met f y=>exact Heap.lt_size (show h.get? a=some _ from x)
 | ext φ=>obtain⟨_,⟨_,e⟩,_⟩:=x;exact Heap.lt_size e
theorem Paired.EN{α β:Type}{F G:α->β->Prop}:∀{l₁:List α} {l₂:List β},Paired F l₁ l₂->(∀ a b,F a b->G a b)->Paired G l₁ l₂
 | _,_,.nil,_=>.nil
 | _,_,.cons r t,f=>.cons (f _ _ r) (Paired.EN t f)
theorem Paired.imp'{α β:Type}{F G:α->β->Prop}(f:∀ a b,F a b->G a b){l₁:List α}{l₂:List β}(r:Paired F l₁ l₂):Paired G l₁ l₂:=Paired.EN r f
theorem bu.stay(x:bu P w H h a o)(k:∀ b u,(b=a\/H b=some (.own a))->h.get? b=some u->h'.get? b=some u)
 (ho:∀ b,H b=some (.own a)->H' b=some (.own a)) (ht:∀ b xs,H b=some (.tup xs)->H' b=some (.tup xs)):bu P w H' h' a o:=by
 induction o with
 | lst xs=>obtain⟨z,its,n,r,e⟩:=x;exact⟨z,its,n,r,k _ _ (.inl rfl) e⟩
 | tup xs=>obtain⟨z,its,r,ob,e,c⟩:=x;exact⟨z,its,r,ob,k _ _ (.inl rfl) e,c⟩
 | dK kvs=>obtain⟨z,y,vs,r,ob,es,ep,e,c⟩:=x;exact⟨z,y,vs,r,ob,es,ep,k _ _ (.inl rfl) e,c⟩
 | dT kvs =>
   obtain⟨z,y,xs,r,ob,es,ep,e,c⟩:=x;exact⟨z,y,xs,Paired.EN r fun p q z=>⟨z.1,ht _ _ z.2.1,z.2.2⟩,ob,es,ep,k _ _ (.inl rfl) e,c⟩
 | set S n=>obtain⟨ob,es,ep,t,e,c⟩:=x;exact⟨ob,es,ep,t,k _ _ (.inl rfl) e,c⟩
 | ins C dx fs =>
   obtain⟨d,z,ne,e,mA,⟨od,es,ep,e2,c⟩,r⟩:=x;exact⟨ho _ d,z,ne,k _ _ (.inl rfl) e,mA,⟨od,es,ep,k _ _ (.inr d) e2,c⟩,r⟩
 | own y=>obtain⟨ob,e⟩:=x;exact⟨ob,k _ _ (.inl rfl) e⟩
 | xd fs=>obtain⟨mA,⟨od,es,ep,e,c⟩,r⟩:=x;exact⟨mA,⟨od,es,ep,k _ _ (.inl rfl) e,c⟩,r⟩
 | yH lo hi=>obtain⟨t,u,v,e⟩:=x;exact⟨t,u,v,k _ _ (.inl rfl) e⟩
 | m9 ob u ih=>obtain⟨e,q⟩:=x;exact⟨k _ _ (.inl rfl) e,ih q⟩
 | jU qs =>
   obtain⟨ps,e,f⟩:=x;refine⟨ps,k _ _ (.inl rfl) e,?_⟩;rcases f with⟨hz,f|⟨c,e1,e2,c',oc,vs,tq,hc,ho',hd,hv⟩⟩|f
   ·exact .inl ⟨hz,.inl f⟩
   ·cases hc;exact .inl ⟨hz,.inr ⟨c,e1,ho _ e2,c,oc,vs,tq,rfl,k _ _ (.inr e2) ho',hd,hv⟩⟩
   ·exact .inr f
 | met f y =>
   have e:h.get? a=some (PySem.W.methodObj (.ref f) (.ref y)):=x;show h'.get? a=some (PySem.W.methodObj (.ref f) (.ref y));exact k a _ (.inl rfl) e
 | ext φ=>obtain⟨p,⟨o,e⟩,st⟩:=x;exact⟨st _ _ p fun o q=>k _ _ (.inl rfl) q,⟨o,k _ _ (.inl rfl) e⟩,st⟩
theorem lq.lt(x:lq P w H h)(e:H a=some o):a<h.objs.size:=(x a o e).lt
theorem lq.fresh(x:lq P w H h)(e:h.objs.size<=a):H a=none:=by
 cases q:H a with
 | none=>rfl
 | some u=>exact absurd (Nat.lt_of_lt_of_le (x.lt q) e) (Nat.lt_irrefl _)
theorem lq.kept(x:lq P w H h)(k:∀ b u,h.get? b=some u->h'.get? b=some u):lq P w H h':=fun a o e =>
 (x a o e).stay (fun b u _ q=>k b u q) (fun _ q=>q) fun _ _ q=>q
theorem lq.laid(x:lq P w H h)(k:∀ b u,h.get? b=some u->h'.get? b=some u)(hp:h.objs.size<=a)(new:bu P w (upd H a o) h' a o):lq P w (upd H a o) h':=fun b u e=>by
 have hn:=x.fresh hp
 by_cases hb:b=a
 ·subst hb;rw[af]at e;cases e;exact new
 ·rw[ao hb]at e;exact(x b u e).stay (fun c v _ q=>k c v q) (fun c q=>by rw[ao (aU q hn)];exact q) fun c xs q=>by rw[ao (aU q hn)];exact q
end
def Rd(H:Hp)(a:Addr)(u:HO):Prop:=H a=some u\/∃ o,H a=some (.m9 o u)
theorem Rd.ok{P:Program}{w:World}{H:Hp}{h:Heap}{a:Addr}{u:HO}(r:Rd H a u)(x:lq P w H h):bu P w H h a u:=by
 rcases r with r|⟨o,r⟩
 ·exact x a u r
 ·obtain⟨_,q⟩:=x a _ r;exact q
def Js:Option HO->Prop
 | some (.lst _)=>True
 | some (.dK _)=>True
 | some (.dT _)=>True
 | some (.set _ _)=>True
 | some (.ins _ _ _)=>True
 | some (.ext _)=>True
 | _=>False
section
variable {P:Program}{w:World}{H:Hp}{h h' : Heap}{x e:Addr}{o' : HO}
theorem lq.write(ok:lq P w H h)(mu:Js (H x))(he:e=x\/H e=some (.own x))(k:∀ b u,b≠e->h.get? b=some u->h'.get? b=some u)(GA:∃ u,h'.get? e=some u)
 (new:bu P w (upd H x o') h' x o'):lq P w (upd H x o') h':=fun b u q=>by
 have GU:∀ c y,H c=some (.own y)->c≠x:=fun c y r z=>by subst z;rw[r]at mu;exact mu
 have J0:∀ c xs,H c=some (.tup xs)->c≠x:=fun c xs r z=>by subst z;rw[r]at mu;exact mu
 by_cases hb:b=x
 ·subst hb;rw[af]at q;cases q;exact new
 ·rw[ao hb]at q
  by_cases EO:b=e
  ·have q' : H b=some (.own x):=by
    rcases he with z|z
    ·exact absurd (EO.trans z) hb
    ·rw[EO];exact z
   rw[q]at q';cases q';obtain⟨v,hv⟩:=GA;exact⟨v,by rw[EO];exact hv⟩
  ·refine(ok b u q).stay (fun c v hc r=>k c v ?_ r) (fun c r=>by rw[ao (GU c b r)];exact r) fun c xs r=>by rw[ao (J0 c xs r)];exact r
   rcases hc with rfl|hc
   ·exact EO
   ·rintro rfl;rcases he with z|z
    ·exact GU c b hc z
    ·rw[hc]at z;cases z;exact hb rfl
end
structure Un(fs ex:List Addr)(H H' : Hp)(h h' : Heap):Prop where
 keep:∀ b o,h.get? b=some o->H b=none->b∉fs->b∉ex->h'.get? b=some o
 slot:∀ b o,h.get? b=some o->H b=none->b∈fs->b∉ex->∃ sl,h'.get? b=some { o with slots:=sl}
 free:∀ b o,h.get? b=some o->H b=none->b∉ex->H' b=none
 there:∀ b o,h.get? b=some o->b∉ex->∃ o',h'.get? b=some o'
 tups:∀ b xs,H b=some (.tup xs)->H' b=some (.tup xs)
 jh:∀ b o u,H b=some (.m9 o u)->H' b=some (.m9 o u)
 jl:∀ b ps,H b=some (.jU ps)->∃ more,H' b=some (.jU (ps++more))
section
variable {fs fs' ex ex' : List Addr}{H H1 H2:Hp}{h h1 h2 h' : Heap}{a x e:Addr}{o:HO}
theorem Un.any(u:Un fs ex H H1 h h1){b:Addr}{ob:Obj}(q:h.get? b=some ob)(n:H b=none)(hx:b∉ex):∃ sl,h1.get? b=some { ob with slots:=sl}:=by
 by_cases hb:b∈fs
 ·exact u.slot b ob q n hb hx
 ·exact⟨ob.slots,u.keep b ob q n hb hx⟩
theorem Un.kept(k:∀ b u,h.get? b=some u->h'.get? b=some u):Un fs ex H H h h' :=
 ⟨fun b ob q _ _ _=>k b ob q,fun b ob q _ _ _=>⟨ob.slots,k b ob q⟩,fun _ _ _ n _=>n,fun b ob q _=>⟨ob,k b ob q⟩,fun _ _ q=>q,fun _ _ _ q=>q,fun _ ps q=>⟨#[],by rw[q];simp⟩⟩
theorem Un.refl:Un fs ex H H h h:=Un.kept fun _ _ q=>q
theorem Un.laid(k:∀ b u,h.get? b=some u->h'.get? b=some u)(hp:h.objs.size<=a)(hn:H a=none):Un fs ex H (upd H a o) h h' where
 keep:=fun b u q _ _ _=>k b u q
 slot:=fun b u q _ _ _=>⟨u.slots,k b u q⟩
 free:=fun b u q n _=>by rw[ao (Nat.ne_of_lt (Nat.lt_of_lt_of_le (Heap.lt_size q) hp))];exact n
 there:=fun b u q _=>⟨u,k b u q⟩
 tups:=fun b xs q=>by rw[ao (aU q hn)];exact q
 jh:=fun b u xs q=>by rw[ao (aU q hn)];exact q
 jl:=fun b ps q=>⟨#[],by rw[ao (aU q hn),q];simp⟩
theorem Un.write(mu:Js (H x))(he:e=x\/H e=some (.own x))(k:∀ b u,b≠e->h.get? b=some u->h'.get? b=some u)(GA:∃ u,h'.get? e=some u):Un fs ex H (upd H x o) h h':=by
 have hx:∀ b,H b=none->b≠x:=fun b n z=>by subst z;rw[n]at mu;exact mu
 have hb:∀ b,H b=none->b≠e:=fun b n z=>by
  subst z;rcases he with r|r
  ·exact hx b n r
  ·rw[n]at r;cases r
 have hm:∀ b u,H b=some u->¬ Js (some u)->b≠x:=fun b u q nm z=>by subst z;rw[q]at mu;exact nm mu
 refine⟨fun b u q n _ _=>k b u (hb b n) q,fun b u q n _ _=>⟨u.slots,k b u (hb b n) q⟩,fun b u q n _=>by rw[ao (hx b n)];exact n,fun b u q _=>?_,
  fun b xs q=>by rw[ao (hm b _ q fun z=>z)];exact q,fun b u xs q=>by rw[ao (hm b _ q fun z=>z)];exact q,fun b ps q=>⟨#[],by rw[ao (hm b _ q fun z=>z),q];simp⟩⟩
 by_cases EO:b=e
 ·subst EO;exact GA
 ·exact⟨u,k b u EO q⟩
end
def GB(h:Heap)(H:Hp):List Addr:=(List.range h.objs.size).filter fun a=>(H a).isSome
def ua(h:Heap)(H:Hp):Heap:=PySem.W.hideAll h (GB h H)
theorem yI(h:Heap)(H:Hp):(ua h H).objs.size=h.objs.size:=PySem.W.hideAll_size _ _
theorem oq{h:Heap}{H:Hp}{b:Addr}{o:Obj}(e:h.get? b=some o)(n:H b=none):(ua h H).get? b=some o :=
 PySem.W.hideAll_get _ e fun hm=>by
  have q:(H b).isSome=true:=(List.mem_filter.mp hm).2;rw[n]at q;simp at q
theorem CB{h:Heap}{H:Hp}{b:Addr}{o:Obj}(e:(ua h H).get? b=some o):h.get? b=some o/\H b=none:=by
 have e' : h.get? b=some o:=PySem.W.of_hideAll (GB h H) e;refine⟨e',?_⟩;cases q:H b with
 | none=>rfl
 | some x =>
   have hm:b∈GB h H:=List.mem_filter.mpr ⟨List.mem_range.mpr (Heap.lt_size e'),by simp[q]⟩
   have z:(ua h H).get? b=none:=PySem.W.hideAll_none (GB h H) hm;rw[z]at e;cases e
def nM(g h:Heap)(L:Addr):aQ:=(List.range h.objs.size).filterMap fun a=>if a=L\/(g.get? a).isSome=true then none else(h.get? a).map fun o=>(a,o)
theorem uc{g h:Heap}{L a:Addr}{o:Obj}(h1:a≠L)(h2:g.get? a=none)(h3:h.get? a=some o):(a,o)∈nM g h L :=
 List.mem_filterMap.mpr ⟨a,List.mem_range.mpr (Heap.lt_size h3),by simp[h1,h2,h3]⟩
theorem ou{g h:Heap}{L:Addr}{p:Addr×Obj}(hp:p∈nM g h L):p.1≠L/\g.get? p.1=none/\h.get? p.1=some p.2:=by
 obtain⟨b,_,e⟩:=List.mem_filterMap.mp hp
 split at e
 ·cases e
 ·rename_i hn
  cases q:h.get? b with
  | none=>rw[q]at e;simp at e
  | some u =>
    rw[q]at e;simp only[Option.map_some,Option.some.injEq]at e;subst e;refine⟨fun z=>hn (.inl z),?_,q⟩
    show g.get? b=none;cases r:g.get? b with
    | none=>rfl
    | some v=>exact(hn (.inr (by simp[r]))).elim
def rest(g h:Heap)(L d:Addr):aQ:=(nM g h L).filter fun p=>decide (p.1≠d)
theorem xJ{g h:Heap}{L d:Addr}:∀ p∈rest g h L d,p.1≠d:=fun p hp=>kr (List.mem_filter.mp hp).2
theorem Av{g h:Heap}{L d a:Addr}{o:Obj}(h1:a≠L)(h2:g.get? a=none)(h3:h.get? a=some o)(h4:a≠d):(a,o)∈rest g h L d :=
 List.mem_filter.mpr ⟨uc h1 h2 h3,cN h4⟩
theorem Aw{g h:Heap}{L:Addr}:News g L h (nM g h L):=fun p hp=>let⟨a,b,c⟩:=ou hp;⟨c,a,b⟩
theorem lu{g h h' : Heap}{L d:Addr}{m:jk}(k:∀ b o,g.get? b=some o->h.get? b=some o)(F:Fr g L h' m)(N:News g L h' (rest g h L d)):
 ∀ b o,b≠L->b≠d->h.get? b=some o->h'.get? b=some o:=fun b o h1 h2 e=>by
 cases q:g.get? b with
 | some u =>
   have:=k b u q;rw[e]at this;cases this;exact F.keep b _ q
 | none=>exact(N (b,o) (Av h1 q e h2)).1
structure Mod(K:bw)(mg:jk)(base:Heap):Prop where
 Jt:K.In base
 glob:base.Ns mainGlobals mg
 blt:∃ mb,base.Ns builtinsNs mb/\∀ x:Str,x≠"__name__"->mb x=bootBuiltins x
 nolimit:base.NoLimit
 bmain:∃ bm ob,mg "__builtins__"=some (.ref bm)/\bm≠builtinsNs/\base.get? bm=some ob/\ob.cls = .type "module"/\ob.dict=some builtinsNs/\ob.data = .plain
structure Cx where
 prog:Program
 w:World
 K:bw
 mg:Str->Option Value
 base:Heap
 A:Around
 N:List Str
 s₀:Shared
 H₀:Hp
 env:Env
 outer:List Env
 stack:List Env
 ex:List Addr
 fn:Str->Bool
 calm:Bool
 pn:aQ
 xe:Value->Shared->Prop
def frs(l:List Env):List Addr:=l.filterMap (·.frame)
abbrev Cx.fs(X:Cx):List Addr:=frs X.outer
def Ju(sc:Scope)(x:Str):Prop:=sc.names.lookup x=some .local\/sc.names.lookup x=some .cell\/sc.names.lookup x=some .free
def Loc(sc:Scope)(x:Str):Prop:=sc.names.lookup x=some .local\/sc.names.lookup x=some .cell
def Look(env:Env)(h:Heap)(m:jk)(x:Str)(u:Value):Prop :=
 (env.kindOf x=some .local/\m x=some u)\/((env.kindOf x=some .cell\/env.kindOf x=some .free)/\∃ c,env.cells.lookup x=some c/\h.IsCell c (some u))
structure Cx.Ok(X:Cx):Prop where
 mod:Mod X.K X.mg X.base
 kind:X.env.scope.kind = .function
 glob:X.env.globals=mainGlobals
 blt:X.env.builtins=builtinsNs
 above:X.s₀.heap.objs.size<=X.env.locals
 inj:∀ x y c,X.env.cells.lookup x=some c->X.env.cells.lookup y=some c->x=y
 has:∀ x,(X.env.kindOf x=some .cell\/X.env.kindOf x=some .free)->∃ c,X.env.cells.lookup x=some c
 GC:∀ x c,X.fn x=true->X.env.cells.lookup x=some c->X.s₀.heap.objs.size<=c
 hd:X.calm=true->X.A.handled=none
 frames:X.A.frames=some X.stack
 Cp:X.stack=X.outer\/(X.stack=X.env::X.outer/\X.env.frame=some X.env.locals)
 Ka:∀ b∈X.ex,b≠X.env.locals/\∀ x c,X.env.cells.lookup x=some c->c≠b
 bs:∀ b o,X.base.get? b=some o->X.s₀.heap.get? b=some o/\X.H₀ b=none
 Cq:X.base.objs.size<=X.s₀.heap.objs.size
 yJ:∀ b o,X.base.get? b=some o->b∉X.ex
 Ax:∀ b∈X.ex,b∉X.fs
 funs:X.s₀.heap.FunFrames X.base X.outer
 DY:∀ b∈X.fs,X.H₀ b=none
structure Inv(X:Cx)(pq:aQ)(σ:List (Option V))(H:Hp)(s:Shared):Prop where
 ok:X.Ok
 os:s.os=X.s₀.os
 bare:AllBare s.gens
 base:Un X.fs X.ex X.H₀ H X.s₀.heap s.heap
 loc:∃ m,s.heap.Ns X.env.locals m/\∀(i:Nat) (x:Str) (v:V),X.N[i]?=some x->σ[i]?=some (some v)->Ju X.env.scope x->∃ u,RelV v u/\Look X.env s.heap m x u
 cell:∀ x c,X.env.cells.lookup x=some c->∃ v,s.heap.IsCell c v
 free:H X.env.locals=none
 dS:∀ x c,X.env.cells.lookup x=some c->H c=none
 pin:∀ p∈X.pn++pq,s.heap.get? p.1=some p.2/\H p.1=none/\p.1≠X.env.locals/\p.1∉X.fs/\∀ v,p.2.data≠.cell v
 hok:lq X.prog X.w H s.heap
 len:σ.length=X.N.length
section
variable {X:Cx}{pq:aQ}{σ:List (Option V)}{H H' : Hp}{s:Shared}{h' : Heap}
theorem Cx.Ok.Kc(ok:X.Ok){b:Addr}{o:Obj}(e:X.base.get? b=some o):b∉X.fs:=fun hb=>by
 have:=(ok.funs.mem hb).1;rw[e]at this;cases this
theorem Inv.bs(I:Inv X pq σ H s):∀ b o,X.base.get? b=some o->s.heap.get? b=some o/\H b=none:=fun b o e =>
 ⟨I.base.keep b o (I.ok.bs b o e).1 (I.ok.bs b o e).2 (I.ok.Kc e) (I.ok.yJ b o e),I.base.free b o (I.ok.bs b o e).1 (I.ok.bs b o e).2 (I.ok.yJ b o e)⟩
theorem Inv.bk(I:Inv X pq σ H s):∀ b o,X.base.get? b=some o->s.heap.get? b=some o:=fun b o e=>(I.bs b o e).1
theorem Inv.mod(I:Inv X pq σ H s):Mod X.K X.mg X.base:=I.ok.mod
theorem Inv.qS(I:Inv X pq σ H s):X.K.In s.heap:=I.ok.mod.Jt.keeps I.bk
theorem Inv.nolimit(I:Inv X pq σ H s):s.heap.NoLimit:=I.ok.mod.nolimit.keeps I.bk
theorem Inv.fr(I:Inv X pq σ H s):∃ m,Fr X.base X.env.locals s.heap m :=
 let⟨m,hn,_⟩:=I.loc
 ⟨m,hn,I.bk,Nat.le_trans I.ok.Cq I.ok.above⟩
theorem Inv.lt(I:Inv X pq σ H s):X.env.locals<s.heap.objs.size:=let⟨_,hn,_⟩:=I.loc;hn.lt
theorem Inv.sz(I:Inv X pq σ H s):X.s₀.heap.objs.size<=s.heap.objs.size:=Nat.le_trans I.ok.above (Nat.le_of_lt I.lt)
theorem Inv.GV(I:Inv X pq σ H s){a:Addr}(h:s.heap.objs.size<=a):a∉X.fs:=fun hb=>by
 obtain⟨_,o,ho,_⟩:=I.ok.funs.mem hb;exact absurd (Nat.lt_of_lt_of_le (Heap.lt_size ho) (Nat.le_trans I.sz h)) (Nat.lt_irrefl _)
theorem Inv.CC(I:Inv X pq σ H s):∀ x c,X.env.cells.lookup x=some c->c≠X.env.locals:=fun x c e z=>by
 obtain⟨v,o,ho,hd⟩:=I.cell x c e;obtain⟨m,⟨o',es,ep,ho',hd',_⟩,_⟩:=I.loc;rw[z,ho']at ho;cases ho;rw[hd']at hd;cases hd
theorem Inv.funs(I:Inv X pq σ H s):s.heap.FunFrames X.base X.outer:=by
 have all:∀(l:List Env),(∀ b∈frs l,b∈X.fs)->X.s₀.heap.FunFrames X.base l->s.heap.FunFrames X.base l:=by
  intro l
  induction l with
  | nil=>intro _ _;trivial
  | cons env r ih =>
    intro hs hl;obtain⟨hk,⟨L,o,hf,hn,ho,hd⟩,hr⟩:=hl;have hL:L∈X.fs:=hs L (by unfold frs;rw[List.filterMap_cons,hf];exact List.mem_cons_self)
    obtain⟨sl,e⟩:=I.base.slot L o ho (I.ok.DY L hL) hL fun z=>I.ok.Ax L z hL
    exact⟨hk,⟨L,_,hf,hn,e,hd⟩,ih (fun b hb=>hs b (by unfold frs;rw[List.filterMap_cons,hf];exact qi _ hb)) hr⟩
 exact all X.outer (fun _ hb=>hb) I.ok.funs
theorem Inv.stack(I:Inv X pq σ H s):s.heap.FunFrames X.base X.stack:=by
 rcases I.ok.Cp with e|⟨e,hf⟩
 ·rw[e];exact I.funs
 ·rw[e];obtain⟨m,hn,_⟩:=I.loc;refine .cons (by rw[I.ok.kind];decide) hf hn ?_ I.funs
  exact Heap.get?_none_of_le (Nat.le_trans I.ok.Cq I.ok.above)
theorem Inv.oz(I:Inv X pq σ H s):∀ b∈frs X.stack,b∈X.env.locals::X.fs:=fun b hb=>by
 rcases I.ok.Cp with e|⟨e,hf⟩
 ·rw[e]at hb;exact qi _ hb
 ·rw[e]at hb;unfold frs at hb;rw[List.filterMap_cons,hf]at hb;exact hb
theorem Inv.nN(I:Inv X pq σ H s):∀ b∈frs X.stack,H b=none:=fun b hb=>by
 rcases List.mem_cons.mp (I.oz b hb) with e|hb
 ·rw[e];exact I.free
 ·obtain⟨_,o,ho,_⟩:=I.ok.funs.mem hb;exact I.base.free b o ho (I.ok.DY b hb) fun z=>I.ok.Ax b z hb
theorem Inv.step{g' : Array GenState}{t' : Nat}{d' : Drawn}{ch:List Addr}(I:Inv X pq σ H s)
 (hch:∀ b∈ch,(b∈X.ex\/X.s₀.heap.objs.size<=b)/\b≠X.env.locals/\(∀ x c,X.env.cells.lookup x=some c->c≠b)/\∀ p∈X.pn++pq,p.1≠b)
 (keep:∀ b o,b≠X.env.locals->b∉X.fs->b∉ch->s.heap.get? b=some o->H b=none->h'.get? b=some o)
 (slot:∀ b o,b≠X.env.locals->b∈X.fs->b∉ch->s.heap.get? b=some o->H b=none->∃ sl,h'.get? b=some { o with slots:=sl}) (free:∀ b o,b∉ch->s.heap.get? b=some o->H b=none->H' b=none)
 (there:∀ b o,b∉ch->s.heap.get? b=some o->∃ o',h'.get? b=some o')
 (tups:∀ b xs,H b=some (.tup xs)->H' b=some (.tup xs)) (jh:∀ b o u,H b=some (.m9 o u)->H' b=some (.m9 o u)) (jl:∀ b ps,H b=some (.jU ps)->∃ more,H' b=some (.jU (ps++more)))
 (ns:∀ m,s.heap.Ns X.env.locals m->h'.Ns X.env.locals m) (hok:lq X.prog X.w H' h') (hg:AllBare g') :
 Inv X pq σ H' { s with heap:=h',gens:=g',drawn:=d',toks:=t'}:=by
 have LS:∀ b o,X.s₀.heap.get? b=some o->b≠X.env.locals:=fun b o e=>Nat.ne_of_lt (Nat.lt_of_lt_of_le (Heap.lt_size e) I.ok.above)
 have Jv:∀ b o,X.s₀.heap.get? b=some o->b∉X.ex->b∉ch:=fun b o e hx hb=>by
  rcases(hch b hb).1 with z|z
  ·exact hx z
  ·exact absurd (Nat.lt_of_lt_of_le (Heap.lt_size e) z) (Nat.lt_irrefl _)
 have cellK:∀ x c,X.env.cells.lookup x=some c->∀ v,s.heap.IsCell c v->h'.IsCell c v:=fun x c e v ⟨o,ho,hd⟩=>by
  have GW:c∉ch:=fun z=>(hch c z).2.2.1 x c e rfl
  by_cases hc:c∈X.fs
  ·obtain⟨sl,q⟩:=slot c o (I.CC x c e) hc GW ho (I.dS x c e);exact⟨_,q,hd⟩
  ·exact⟨o,keep c o (I.CC x c e) hc GW ho (I.dS x c e),hd⟩
 refine⟨I.ok,I.os,hg,⟨fun b o e n hb hx=>?_,fun b o e n hb hx=>?_,fun b o e n hx=>?_,fun b o e hx=>?_,fun b xs e=>tups b xs (I.base.tups b xs e),fun b o xs e=>jh b o xs (I.base.jh b o xs e),fun b ps e=>?_⟩,?_,fun x c e=>?_,?_,fun x c e=>?_,fun p hp=>?_,hok,I.len⟩
 ·exact keep b o (LS b o e) hb (Jv b o e hx) (I.base.keep b o e n hb hx) (I.base.free b o e n hx)
 ·obtain⟨sl,e1⟩:=I.base.slot b o e n hb hx;obtain⟨Jw,e2⟩:=slot b _ (LS b o e) hb (Jv b o e hx) e1 (I.base.free b o e n hx);exact⟨Jw,e2⟩
 ·obtain⟨o',e1⟩:=I.base.there b o e hx;exact free b o' (Jv b o e hx) e1 (I.base.free b o e n hx)
 ·obtain⟨o',e1⟩:=I.base.there b o e hx;exact there b o' (Jv b o e hx) e1
 ·obtain⟨m1,e1⟩:=I.base.jl b ps e;obtain⟨m2,e2⟩:=jl b _ e1;exact⟨m1++m2,by rw[e2,Array.append_assoc]⟩
 ·obtain⟨m,hn,hl⟩:=I.loc;refine⟨m,ns m hn,fun i x v e1 e2 e3=>?_⟩
  obtain⟨u,r,l⟩:=hl i x v e1 e2 e3;refine⟨u,r,?_⟩;rcases l with l|⟨k,c,e,z⟩
  ·exact .inl l
  ·exact .inr ⟨k,c,e,cellK x c e _ z⟩
 ·obtain⟨v,z⟩:=I.cell x c e;exact⟨v,cellK x c e v z⟩
 ·obtain⟨m,⟨o,_,_,ho,_⟩,_⟩:=I.loc;exact free _ o (fun z=>(hch _ z).2.1 rfl) ho I.free
 ·obtain⟨v,o,ho,hd⟩:=I.cell x c e;exact free c o (fun z=>(hch c z).2.2.1 x c e rfl) ho (I.dS x c e)
 ·obtain⟨e,n,ne,nf,d⟩:=I.pin p hp;have GW:p.1∉ch:=fun z=>(hch p.1 z).2.2.2 p hp rfl
  exact⟨keep p.1 p.2 ne nf GW e n,free p.1 p.2 GW e n,ne,nf,d⟩
theorem Inv.un{t' : Nat}(I:Inv X pq σ H s)(u:Un X.fs [] H H' s.heap h')(hok:lq X.prog X.w H' h'):Inv X pq σ H' { s with heap:=h',toks:=t'}:=by
 obtain⟨m,⟨o,es,ep,ho,r⟩,_⟩:=id I.loc;obtain⟨sl,hL⟩:=u.any ho I.free (by simp)
 exact I.step (g':=s.gens) (d':=s.drawn) (ch:=[]) (fun _ z=>nomatch z) (fun b o _ hb _ e n=>u.keep b o e n hb (by simp)) (fun b o _ hb _ e n=>u.slot b o e n hb (by simp)) (fun b o _ e n=>u.free b o e n (by simp)) (fun b o _ e=>u.there b o e (by simp)) u.tups u.jh u.jl (fun m' hm=>by
  obtain⟨o',es',Jx,ho',r'⟩:=hm;rw[ho]at ho';cases ho';exact⟨_,es',Jx,hL,r'⟩) hok I.bare
theorem Inv.call{g' : Array GenState}{t' : Nat}{d' : Drawn}{ch:List Addr}(I:Inv X pq σ H s)(u:Un (frs X.stack) ch H H' s.heap h')(hok:lq X.prog X.w H' h')(hg:AllBare g')
 (hch:∀ b∈ch,(b∈X.ex\/X.s₀.heap.objs.size<=b)/\b≠X.env.locals/\(∀ x c,X.env.cells.lookup x=some c->c≠b)/\∀ p∈X.pn++pq,p.1≠b) :
 Inv X pq σ H' { s with heap:=h',gens:=g',drawn:=d',toks:=t'}:=by
 obtain⟨m,⟨o,es,ep,ho,r⟩,_⟩:=id I.loc;obtain⟨sl,hL⟩:=u.any ho I.free fun z=>(hch _ z).2.1 rfl
 exact I.step (ch:=ch) hch (fun b o hL hb hc e n=>u.keep b o e n (fun z=>(List.mem_cons.mp (I.oz b z)).elim hL hb) hc) (fun b o _ _ hc e n=>u.any e n hc) (fun b o hc e n=>u.free b o e n hc) (fun b o hc e=>u.there b o e hc) u.tups u.jh u.jl (fun m' hm=>by
  obtain⟨o',es',Jx,ho',r'⟩:=hm;rw[ho]at ho';cases ho';exact⟨_,es',Jx,hL,r'⟩) hok hg
theorem Inv.turned{t' : Nat}{it:Addr}(I:Inv X pq σ H s)(k:∀ b o,b≠it->s.heap.get? b=some o->h'.get? b=some o)(hn:H it=none)(hL:it≠X.env.locals)
 (h1:it∈X.ex\/X.s₀.heap.objs.size<=it) (h2:∀ x c,X.env.cells.lookup x=some c->c≠it) (h3:∀ p∈X.pn++pq,p.1≠it):Inv X pq σ H { s with heap:=h',toks:=t'}:=by
 have LU:∀ b u,H b=some u->b≠it:=fun b u e z=>by rw[z,hn]at e;cases e
 refine I.step (g':=s.gens) (d':=s.drawn) (ch:=[it]) (fun b hb=>?_) (fun b o _ _ hc e _=>k b o (fun z=>hc (by simp[z])) e) (fun b o _ _ hc e _=>⟨o.slots,k b o (fun z=>hc (by simp[z])) e⟩) (fun _ _ _ _ n=>n)
  (fun b o hc e=>⟨o,k b o (fun z=>hc (by simp[z])) e⟩) (fun _ _ e=>e) (fun _ _ _ e=>e) (fun b ps e=>⟨#[],by rw[e];simp⟩) (fun m hm=>?_) (fun b u e=>?_) I.bare
 ·have e:b=it:=by simpa using hb
  subst e;exact⟨h1,hL,h2,h3⟩
 ·obtain⟨o,es,ep,ho,r⟩:=hm;exact⟨o,es,ep,k _ o (Ne.symm hL) ho,r⟩
 ·refine(I.hok b u e).stay (fun c v hc q=>k c v ?_ q) (fun _ q=>q) fun _ _ q=>q
  rcases hc with z|z
  ·rw[z];exact LU b u e
  ·exact LU c _ z
theorem Inv.tok(I:Inv X pq σ H s)(t:Nat):Inv X pq σ H { s with toks:=t}:=I.un (h':=s.heap) (t':=t) Un.refl I.hok
theorem Inv.kept{t' : Nat}(I:Inv X pq σ H s)(k:∀ b u,s.heap.get? b=some u->h'.get? b=some u):Inv X pq σ H { s with heap:=h',toks:=t'}:=I.un (Un.kept k) (I.hok.kept k)
theorem Inv.laid{a:Addr}{o:HO}{t' : Nat}(I:Inv X pq σ H s)(k:∀ b u,s.heap.get? b=some u->h'.get? b=some u)(hp:s.heap.objs.size<=a)(new:bu X.prog X.w (upd H a o) h' a o):
 Inv X pq σ (upd H a o) { s with heap:=h',toks:=t'}:=I.un (Un.laid k hp (I.hok.fresh hp)) (I.hok.laid k hp new)
theorem Inv.write{x e:Addr}{o:HO}{t' : Nat}(I:Inv X pq σ H s)(mu:Js (H x))(he:e=x\/H e=some (.own x))(k:∀ b u,b≠e->s.heap.get? b=some u->h'.get? b=some u)(GA:∃ u,h'.get? e=some u)
 (new:bu X.prog X.w (upd H x o) h' x o):Inv X pq σ (upd H x o) { s with heap:=h',toks:=t'}:=I.un (Un.write mu he k GA) (I.hok.write mu he k GA new)
theorem Inv.weak{σ' : List (Option V)}(I:Inv X pq σ H s)(hl:σ'.length=σ.length)(w:∀(i:Nat) v,σ'[i]?=some (some v)->σ[i]?=some (some v)):Inv X pq σ' H s :=
 ⟨I.ok,I.os,I.bare,I.base,let⟨m,hn,hl'⟩:=I.loc;⟨m,hn,fun i x v e1 e2 e3=>hl' i x v e1 (w i v e2) e3⟩,I.cell,I.free,I.dS,I.pin,I.hok,hl.trans I.len⟩
theorem Inv.fN{nO:aQ}(I:Inv X pq σ H s)(h:∀ p∈nO,s.heap.get? p.1=some p.2/\H p.1=none/\p.1≠X.env.locals/\p.1∉X.fs/\∀ v,p.2.data≠.cell v):Inv X nO σ H s :=
 ⟨I.ok,I.os,I.bare,I.base,I.loc,I.cell,I.free,I.dS,fun p hp=>(List.mem_append.mp hp).elim (fun z=>I.pin p (EH _ z)) (h p),I.hok,I.len⟩
theorem oA{N:List Str}(hN:N.Nodup){i j:Nat}{x:Str}(a:N[i]?=some x)(b:N[j]?=some x):i=j:=by
 obtain⟨h1,e1⟩:=vM.mp a;obtain⟨h2,e2⟩:=vM.mp b;exact(List.getElem_inj hN).mp (e1.trans e2.symm)
theorem yK{M:Model}{A:Around}{E:fD}{i:Nat}{x:Str}{v:V}{u:Value}{Q:Unit->Shared->Prop}(I:Inv X pq σ H s)(hN:X.N.Nodup)(hi:X.N[i]?=some x)(hx:Loc X.env.scope x)(r:RelV v u)
 (h:∀ s',Inv X pq (σ.set i (some v)) H s'->(∃ a,Heap.SameBut a s.heap s'.heap/\(a=X.env.locals\/X.env.cells.lookup x=some a))->Q () s') (hf:X.fn x=true\/X.env.scope.names.lookup x=some .local:=by first | exact .inl rfl | exact .inr rfl | assumption):wpAny M A (storeName X.env x u) Q E s:=by
 obtain⟨m,hn,hl⟩:=id I.loc;have hcls:(X.env.scope.kind == .class || (X.env.scope.kind == .module&&X.env.locals != X.env.globals))=false:=by rw[I.ok.kind];rfl
 have LV:i<σ.length:=by rw[I.len];exact(vM.mp hi).1
 have CC:=I.CC;have tracked:∀{a:Addr} {h' : Heap},(∃ o,s.heap.get? a=some o/\H a=none)->Heap.SameBut a s.heap h'->lq X.prog X.w H h':=fun {a h'} ha hs b ob e=>by
  obtain⟨_,_,hfree⟩:=ha;refine(I.hok b ob e).stay (fun c w' hc q=>(hs.2 c ?_).trans q) (fun _ q=>q) fun _ _ q=>q
  rintro rfl;rcases hc with rfl|hc
  ·rw[hfree]at e;cases e
  ·rw[hfree]at hc;cases hc
 rcases hx with hk|hk
 ·refine wpAny_storeName_local hk hn (fun h' hn' hs=>?_) hcls
  obtain⟨oL,_,_,vN,_⟩:=id hn;refine h _ ⟨I.ok,I.os,I.bare,⟨fun b o e n hb hx=>?_,fun b o e n hb hx=>?_,I.base.free,fun b o e hx=>?_,I.base.tups,I.base.jh,I.base.jl⟩,⟨_,hn',fun j y v' e1 e2 e3=>?_⟩,fun y c e=>?_,I.free,I.dS,fun p hp=>?_,tracked ⟨oL,vN,I.free⟩ hs,by simpa using I.len⟩ ⟨_,hs,.inl rfl⟩
  ·exact(hs.2 b (Nat.ne_of_lt (Nat.lt_of_lt_of_le (Heap.lt_size e) I.ok.above))).trans (I.base.keep b o e n hb hx)
  ·obtain⟨sl,e1⟩:=I.base.slot b o e n hb hx;exact⟨sl,(hs.2 b (Nat.ne_of_lt (Nat.lt_of_lt_of_le (Heap.lt_size e) I.ok.above))).trans e1⟩
  ·obtain⟨o',e1⟩:=I.base.there b o e hx;exact⟨o',(hs.2 b (Nat.ne_of_lt (Nat.lt_of_lt_of_le (Heap.lt_size e) I.ok.above))).trans e1⟩
  ·by_cases hj:j=i
   ·subst hj;rw[hi]at e1;cases e1;rw[List.getElem?_set_self LV]at e2;cases e2;exact⟨u,r,.inl ⟨hk,by simp⟩⟩
   ·rw[List.getElem?_set_ne (Ne.symm hj)]at e2;obtain⟨u',r',q⟩:=hl j y v' e1 e2 e3;refine⟨u',r',?_⟩;rcases q with⟨k,e⟩|⟨k,c,e,z⟩
    ·refine .inl ⟨k,?_⟩;have:y≠x:=fun e=>hj (oA hN e1 (e▸hi))
     simp[this,e]
    ·exact .inr ⟨k,c,e,z.sameBut hs (CC y c e)⟩
  ·obtain⟨w',z⟩:=I.cell y c e;exact⟨w',z.sameBut hs (CC y c e)⟩
  ·obtain⟨e,n,ne,nf,d⟩:=I.pin p hp;exact⟨(hs.2 p.1 ne).trans e,n,ne,nf,d⟩
 ·have hfn:X.fn x=true:=by
   rcases hf with z|z
   ·exact z
   ·rw[z]at hk;cases hk
  obtain⟨c,hc⟩:=I.ok.has x (.inl hk);obtain⟨w',z⟩:=I.cell x c hc;refine wpAny_storeName_cell I.ok.kind hk hc z (fun h' hc' hs=>?_)
  obtain⟨oc,hoc,Kd⟩:=id z;refine h { s with heap:=h'} ⟨I.ok,I.os,I.bare,⟨fun b o e n hb hx=>?_,fun b o e n hb hx=>?_,I.base.free,fun b o e hx=>?_,I.base.tups,I.base.jh,I.base.jl⟩,⟨m,hn.sameBut hs (Ne.symm (CC x c hc)),fun j y v' e1 e2 e3=>?_⟩,fun y c' e=>?_,I.free,I.dS,fun p hp=>?_,tracked ⟨oc,hoc,I.dS x c hc⟩ hs,by simpa using I.len⟩ ⟨c,hs,.inr hc⟩
  ·exact(hs.2 b (Nat.ne_of_lt (Nat.lt_of_lt_of_le (Heap.lt_size e) (I.ok.GC x c hfn hc)))).trans (I.base.keep b o e n hb hx)
  ·obtain⟨sl,e1⟩:=I.base.slot b o e n hb hx;exact⟨sl,(hs.2 b (Nat.ne_of_lt (Nat.lt_of_lt_of_le (Heap.lt_size e) (I.ok.GC x c hfn hc)))).trans e1⟩
  ·obtain⟨o',e1⟩:=I.base.there b o e hx;exact⟨o',(hs.2 b (Nat.ne_of_lt (Nat.lt_of_lt_of_le (Heap.lt_size e) (I.ok.GC x c hfn hc)))).trans e1⟩
  ·by_cases hj:j=i
   ·subst hj;rw[hi]at e1;cases e1;rw[List.getElem?_set_self LV]at e2;cases e2;exact⟨u,r,.inr ⟨.inl hk,c,hc,hc'⟩⟩
   ·rw[List.getElem?_set_ne (Ne.symm hj)]at e2;obtain⟨u',r',q⟩:=hl j y v' e1 e2 e3;refine⟨u',r',?_⟩;rcases q with q|⟨k,c',e,z'⟩
    ·exact .inl q
    ·refine .inr ⟨k,c',e,z'.sameBut hs ?_⟩;rintro rfl;exact hj (oA hN e1 (I.ok.inj _ _ _ e hc▸hi))
  ·by_cases hcc:c' = c
   ·subst hcc;exact⟨_,hc'⟩
   ·obtain⟨w2,z2⟩:=I.cell y c' e;exact⟨w2,z2.sameBut hs hcc⟩
  ·obtain⟨e,n,ne,nf,d⟩:=I.pin p hp;refine⟨(hs.2 p.1 ?_).trans e,n,ne,nf,d⟩;intro q;rw[q,hoc]at e;have q' : oc=p.2:=Option.some.inj e;exact d w' (by rw[<-q'];exact Kd)
theorem jm{M:Model}{A:Around}{E:fD}{i:Nat}{x:Str}{v:V}{u:Value}{Q:Unit->Shared->Prop}(I:Inv X pq σ H s)(hN:X.N.Nodup)(hi:X.N[i]?=some x)(hx:Loc X.env.scope x)(r:RelV v u)
 (h:∀ s',Inv X pq (σ.set i (some v)) H s'->Q () s') (hf:X.fn x=true\/X.env.scope.names.lookup x=some .local:=by first | exact .inl rfl | exact .inr rfl | assumption):wpAny M A (storeName X.env x u) Q E s :=
 yK I hN hi hx r (fun s' I' _=>h s' I') hf
theorem Inv.Ay{s' : Shared}{ch:List Addr}(I:Inv X pq σ H s)(ho:s'.os=s.os)(u:Un (frs X.stack) ch H H' s.heap s'.heap)(hok:lq X.prog X.w H' s'.heap)(hg:AllBare s'.gens)
 (hch:∀ b∈ch,(b∈X.ex\/X.s₀.heap.objs.size<=b)/\b≠X.env.locals/\(∀ x c,X.env.cells.lookup x=some c->c≠b)/\∀ p∈X.pn++pq,p.1≠b):Inv X pq σ H' s':=by
 obtain⟨h',g',d',t',o'⟩:=s';have e:o' = s.os:=ho;subst e;exact I.call (g':=g') (t':=t') (d':=d') u hok hg hch
end
abbrev XK:=Value->Option Addr->Hp->Prop
abbrev St:=List (Option V)
abbrev VK:=V->Hp->Prop
abbrev TE:=St->Hp->VK->Prop
abbrev TT:=St->Hp->(Bool->Hp->Prop)->Prop
abbrev TA:=St->Hp->(List V->Hp->Prop)->Prop
structure Ends where
 nx:St->Hp->Prop
 rt:VK
 bk:St->Hp->Prop:=fun _ _=>False
 ct:St->Hp->Prop:=fun _ _=>False
abbrev TS:=Ends->St->Hp->Prop
def EP(X:Cx)(pq:aQ)(σ:St)(Q:VK)(u:Value)(s' : Shared):Prop:=∃ v H',Inv X pq σ H' s'/\RelV v u/\Q v H'
def TP(X:Cx)(pq:aQ)(σ:St)(Q:Bool->Hp->Prop)(b:Bool)(s' : Shared):Prop:=∃ H',Inv X pq σ H' s'/\Q b H'
def AP(X:Cx)(pq:aQ)(σ:St)(Q:List V->Hp->Prop)(us:List Value)(s' : Shared):Prop:=∃ vs H',Inv X pq σ H' s'/\Vals vs us/\Q vs H'
def SP(X:Cx)(pq:aQ)(D:Ends)(f:Flow)(s' : Shared):Prop :=
 match f with
 | .next=>∃ σ' H',Inv X pq σ' H' s'/\D.nx σ' H'
 | .brk=>∃ σ' H',Inv X pq σ' H' s'/\D.bk σ' H'
 | .cont=>∃ σ' H',Inv X pq σ' H' s'/\D.ct σ' H'
 | .ret u=>∃ v σ' H',Inv X pq σ' H' s'/\RelV v u/\D.rt v H'
def PE(X:Cx)(e:Expr)(t:TE):Prop :=
 ∀(pq:aQ) (s:Shared) (σ:St) (H:Hp) (Q:VK),Inv X pq σ H s->t σ H Q->wpAny (model X.prog X.w) X.A (eval e X.env) (EP X pq σ Q) X.xe s
def PT(X:Cx)(e:Expr)(t:TT):Prop :=
 ∀(pq:aQ) (s:Shared) (σ:St) (H:Hp) (Q:Bool->Hp->Prop),Inv X pq σ H s->t σ H Q->wpAny (model X.prog X.w) X.A (isTrue e X.env (eval e X.env)) (TP X pq σ Q) X.xe s
def PW(X:Cx)(e:Expr)(t:TT):Prop :=
 ∀(whole:Sem Value) (pq:aQ) (s:Shared) (σ:St) (H:Hp) (Q:Bool->Hp->Prop),Inv X pq σ H s->t σ H Q->wpAny (model X.prog X.w) X.A (isTrue e X.env whole) (TP X pq σ Q) X.xe s
theorem PW.pt{X:Cx}{e:Expr}{t:TT}(h:PW X e t):PT X e t:=h _
def PA(X:Cx)(es:List Expr)(t:TA):Prop :=
 ∀(pos:Pos) (pq:aQ) (s:Shared) (σ:St) (H:Hp) (Q:List V->Hp->Prop),Inv X pq σ H s->t σ H Q->wpAny (model X.prog X.w) X.A (spliced (backTo pos (starEach es X.env))) (AP X pq σ Q) X.xe s
def PS(X:Cx)(st:Stmt)(t:TS):Prop :=
 ∀(pq:aQ) (s:Shared) (σ:St) (H:Hp) (D:Ends),Inv X pq σ H s->t D σ H->wpAny (model X.prog X.w) X.A (exec st X.env) (SP X pq D) X.xe s
def qg(X:Cx)(st:List Stmt)(t:TS):Prop :=
 ∀(pq:aQ) (s:Shared) (σ:St) (H:Hp) (D:Ends),Inv X pq σ H s->t D σ H->wpAny (model X.prog X.w) X.A (execs st X.env) (SP X pq D) X.xe s
theorem dP{α:Type}{t:Sem α}{Q Q' : α->Shared->Prop}{M:Model}{A:Around}{E:fD}{s:Shared}(h:wpAny M A t Q E s)(hQ:∀ a s,Q a s->Q' a s):wpAny M A t Q' E s:=wpAny_mono h hQ fun _ _ x=>x
section
variable {X:Cx}
def GX(i:Nat):TE:=fun σ H Q=>∃ v,σ[i]?=some (some v)/\Q v H
def tC(v:V):TE:=fun _ H Q=>Q v H
theorem ER{i:Nat}{x:Str}{pos:Pos}(hN:X.N[i]?=some x)(hv:Ju X.env.scope x)(hd:(x==("__debug__":Str))=false:=by decide)(hcd:(x==("__classdict__":Str))=false:=by decide):PE X (.Name x pos) (GX i):=by
 intro pq s σ H Q I h;obtain⟨v,e,h⟩:=h;obtain⟨m,hn,hl⟩:=I.loc;obtain⟨u,r,l⟩:=hl i x v hN e hv;have fin:EP X pq σ Q u s:=⟨v,H,I,r,h⟩;rcases l with⟨hk,hm⟩|⟨hk,c,hc,hcell⟩
 ·exact wpAny_Name (wpAny_loadName_local I.ok.kind hk hn hm fin) hd
 ·rcases hk with hk|hk
  ·exact wpAny_Name (wpAny_loadName_cell I.ok.kind hk hc hcell fin) hd
  ·exact wpAny_Name (wpAny_loadName_free I.ok.kind hk hc hcell fin hcd) hd
theorem ah{i j pos}:PE X (.Constant (.int i) j pos) (tC (.int i)):=fun _ _ _ H _ I h=>wpAny_Constant_int ⟨.int i,H,I.tok _,⟨_,rfl⟩,h⟩
theorem ud{b j pos}:PE X (.Constant (.bool b) j pos) (tC (.bl b)):=fun _ _ _ H _ I h=>Constant_bool ⟨.bl b,H,I,rfl,h⟩
theorem ES{j pos}:PE X (.Constant .none j pos) (tC .eV):=fun _ _ _ H _ I h=>Constant_none ⟨.eV,H,I,rfl,h⟩
theorem iB{x j pos}:PE X (.Constant (.str x) j pos) (tC (.str x)):=fun _ _ _ H _ I h=>Calls.Constant_str ⟨.str x,H,I.tok _,⟨_,rfl⟩,h⟩
def Gl(X:Cx)(x:Str):Prop:=X.env.kindOf x=some .globalImplicit
theorem nQ{E:fD}{pq:aQ}{s:Shared}{σ:St}{H:Hp}{x:Str}{u:Value}{pos:Pos}{Q:fD}(I:Inv X pq σ H s)(hg:Gl X x)(hm:X.mg x=some u)(h:Q u s)
 (hd:(x==("__debug__":Str))=false:=by decide):wpAny (model X.prog X.w) X.A (eval (.Name x pos) X.env) Q E s :=
 Calls.Name_function_global I.ok.kind hg (Calls.loadGlobal_global (by rw[I.ok.glob];exact I.mod.glob.keeps I.bk) hm h) hd
theorem jn{E:fD}{pq:aQ}{s:Shared}{σ:St}{H:Hp}{x:Str}{u:Value}{pos:Pos}{Q:fD}(I:Inv X pq σ H s)(hg:Gl X x)(hm:X.mg x=none)(hv:bootBuiltins x=some u)(h:Q u s)
 (hn:x≠"__name__":=by decide) (hd:(x==("__debug__":Str))=false:=by decide):wpAny (model X.prog X.w) X.A (eval (.Name x pos) X.env) Q E s:=by
 obtain⟨mb,h1,h2⟩:=I.mod.blt;exact Calls.Name_function_global I.ok.kind hg (Calls.loadGlobal_builtin (by rw[I.ok.glob];exact I.mod.glob.keeps I.bk) hm (by rw[I.ok.blt];exact h1.keeps I.bk) ((h2 x hn).trans hv) h) hd
theorem xK{x:Str}{v:V}{u:Value}{pos:Pos}(hg:Gl X x)(hm:X.mg x=some u)(r:RelV v u)(hd:(x==("__debug__":Str))=false:=by decide):PE X (.Name x pos) (tC v) :=
 fun _ _ _ H _ I h=>nQ I hg hm ⟨v,H,I,r,h⟩ hd
theorem CD{x:Str}{v:V}{u:Value}{pos:Pos}(hg:Gl X x)(hm:X.mg x=none)(hv:bootBuiltins x=some u)(r:RelV v u)(hn:x≠"__name__":=by decide)(hd:(x==("__debug__":Str))=false:=by decide):PE X (.Name x pos) (tC v) :=
 fun _ _ _ H _ I h=>jn I hg hm hv ⟨v,H,I,r,h⟩ hn hd
variable {a b:Expr}{ta tb:TE}{pos:Pos}
def tB(t:TE):TT:=fun σ H Q=>t σ H fun x H1=>∃ c,x = .bl c/\Q c H1
theorem eW{e:Expr}{t:TE}(h:PE X e t)(he:∀ whole,isTrue e X.env whole=(do let v←whole;standAt e.pos;holding [v] (truthy v)):=by intro _;rfl):PT X e (tB t):=by
 intro pq s σ H Q I hw;refine isTrue_plain (dP (h pq s σ H _ I hw) fun v s1 ⟨x,H1,I1,r1,q1⟩=>?_) (he _)
 obtain⟨d,rfl,q⟩:=q1;cases r1;exact wpAny_truthy_bool ⟨H1,I1,q⟩
variable {tA Jy:TT}{rest:List Expr}
def Ke(t u:TT):TT:=fun σ H Q=>t σ H fun c H1=>if c=true then u σ H1 Q else Q false H1
def NR(t u:TT):TT:=fun σ H Q=>t σ H fun c H1=>if c=true then Q true H1 else u σ H1 Q
def Kf(t:TT):TT:=fun σ H Q=>t σ H fun c H1=>Q (!c) H1
theorem xM(ha:PT X a tA):PW X (.BoolOp .And [a] pos) tA:=by
 intro wh pq s σ H Q I h;refine isTrue_and (dP (ha pq s σ H Q I h) fun c s1 e=>?_)
 cases c with
 | true=>exact isTrue_and_nil e
 | false=>exact e
theorem rW(ha:PT X a tA):PW X (.BoolOp .Or [a] pos) tA:=by
 intro wh pq s σ H Q I h;refine isTrue_or (dP (ha pq s σ H Q I h) fun c s1 e=>?_)
 cases c with
 | false=>exact isTrue_or_nil e
 | true=>exact e
theorem Az(ha:PT X a tA)(hb:PW X (.BoolOp .And (b::rest) pos) Jy):PW X (.BoolOp .And (a::b::rest) pos) (Ke tA Jy):=by
 intro wh pq s σ H Q I h;refine isTrue_and (dP (ha pq s σ H _ I h) fun c s1 ⟨H1,I1,q1⟩=>?_)
 cases c with
 | true=>exact hb wh pq s1 σ H1 Q I1 q1
 | false=>exact⟨H1,I1,q1⟩
theorem ue(ha:PT X a tA)(hb:PW X (.BoolOp .Or (b::rest) pos) Jy):PW X (.BoolOp .Or (a::b::rest) pos) (NR tA Jy):=by
 intro wh pq s σ H Q I h;refine isTrue_or (dP (ha pq s σ H _ I h) fun c s1 ⟨H1,I1,q1⟩=>?_)
 cases c with
 | true=>exact⟨H1,I1,q1⟩
 | false=>exact hb wh pq s1 σ H1 Q I1 q1
theorem jo(ha:PT X a tA):PT X (.UnaryOp .Not a pos) (Kf tA):=by
 intro pq s σ H Q I h;exact isTrue_not (ha pq s σ H (fun c H1=>Q (!c) H1) I h)
def GY(ta tb:TE):TE:=fun σ H Q=>ta σ H fun x H1=>∃ c,x = .bl c/\if c=true then tb σ H1 Q else Q (.bl false) H1
def GZ(ta:TE):TE:=fun σ H Q=>ta σ H fun x H1=>∃ c,x = .bl c/\Q (.bl (!c)) H1
theorem lX{op}{t:TE}(h:PE X a t):PE X (.BoolOp op [a] pos) t:=fun pq s σ H Q I hw=>BoolOp_one (h pq s σ H Q I hw)
theorem lY(ha:PE X a ta)(hb:PE X (.BoolOp .And (b::rest) pos) tb):PE X (.BoolOp .And (a::b::rest) pos) (GY ta tb):=by
 intro pq s σ H Q I h;refine BoolOp_and (dP (ha pq s σ H _ I h) fun v s1 ⟨x,H1,I1,r1,q1⟩=>?_)
 obtain⟨c,rfl,q1⟩:=q1;cases r1;refine wpAny_truthy_bool ?_;cases c with
 | true=>exact hb pq s1 σ H1 Q I1 q1
 | false=>exact⟨.bl false,H1,I1,rfl,q1⟩
theorem rX(ha:PE X a ta):PE X (.UnaryOp .Not a pos) (GZ ta):=by
 intro pq s σ H Q I h;refine UnaryOp_ (dP (ha pq s σ H _ I h) fun v s1 ⟨x,H1,I1,r1,q1⟩=>?_)
 obtain⟨c,rfl,q1⟩:=q1;cases r1;exact not_of (wpAny_truthy_bool ⟨.bl (!c),H1,I1,rfl,q1⟩)
def NS(t:TT)(ta tb:TE):TE:=fun σ H Q=>t σ H fun c H1=>if c=true then ta σ H1 Q else tb σ H1 Q
theorem uf{c:Expr}(hc:PT X c tA)(ha:PE X a ta)(hb:PE X b tb):PE X (.IfExp c a b pos) (NS tA ta tb):=by
 intro pq s σ H Q I h;refine wpAny_IfExp (dP (hc pq s σ H _ I h) fun d s1 ⟨H1,I1,q1⟩=>?_)
 cases d with
 | true=>exact ha pq s1 σ H1 Q I1 q1
 | false=>exact hb pq s1 σ H1 Q I1 q1
end
def aR(K:bw)(H:Hp)(a:Addr)(xs:List V):Prop :=
 Rd H a (.lst xs)\/
  ∃(o:Obj) (its:Array Value) (n:Nat),K.lookup a=some o/\o.cls = .type "list"/\o.dict=none/\o.data = .seq its n/\its.size<=sizeLine/\Vals xs its.toList
def bB(K:bw)(H:Hp)(a:Addr)(xs:List V):Prop :=
 Rd H a (.tup xs)\/
  ∃(o:Obj) (its:Array Value) (n:Nat),K.lookup a=some o/\o.cls = .type "tuple"/\o.data = .seq its n/\its.size<=sizeLine/\Vals xs its.toList
def Kg:Value->Option V
 | .none=>some .eV
 | .bool b=>some (.bl b)
 | .int i _=>some (.int i)
 | .str x _=>some (.str x)
 | .bytes b _=>some (.Au b)
 | .float b _=>some (.Gz b)
 | .ref a=>some (.ref a)
 | .type n=>some (.ty n)
 | _=>none
theorem RelV.abs{x:V}{u:Value}(r:RelV x u):Kg u=some x:=by
 cases x with
 | eV=>cases r;rfl
 | bl _=>cases r;rfl
 | int _=>obtain⟨t,rfl⟩:=r;rfl
 | str _=>obtain⟨t,rfl⟩:=r;rfl
 | Au _=>obtain⟨t,rfl⟩:=r;rfl
 | Gz _=>obtain⟨t,rfl⟩:=r;rfl
 | ref _=>cases r;rfl
 | ty _=>cases r;rfl
theorem RelV.inj{x y:V}{u:Value}(r:RelV x u)(q:RelV y u):x=y:=Option.some.inj (r.abs.symm.trans q.abs)
theorem Vals.inj:∀{xs ys:List V} {us:List Value},Vals xs us->Vals ys us->xs=ys
 | _,_,_,.nil,.nil=>rfl
 | _,_,_,.cons r t,.cons r' t'=>by rw[r.inj r',Vals.inj t t']
section
variable {X:Cx}{pq:aQ}{σ:St}{H:Hp}{s:Shared}{a:Addr}{xs ys:List V}
theorem aR.of{K:bw}(h:H a=some (.lst xs)):aR K H a xs:=.inl (.inl h)
theorem bB.of{K:bw}(h:H a=some (.tup xs)):bB K H a xs:=.inl (.inl h)
theorem Inv.list(I:Inv X pq σ H s)(h:aR X.K H a xs):∃ its:List Value,Vals xs its/\PlainL s.heap a its.toArray/\xs.length<=sizeLine:=by
 rcases h with h|⟨o,its,n,hk,hc,hd,hs,hz,r⟩
 ·obtain⟨z,its,n,r,e⟩:=h.ok I.hok;exact⟨its,r,⟨_,n,e,rfl,rfl,rfl⟩,z⟩
 ·refine⟨its.toList,r,⟨o,n,I.qS a o hk,hc,hd,by simpa using hs⟩,?_⟩
  have e:=r.length;simp only[Array.length_toList]at e
  lia
theorem Inv.tuple(I:Inv X pq σ H s)(h:bB X.K H a xs):∃ its:List Value,Vals xs its/\IsTup s.heap a its.toArray/\xs.length<=sizeLine:=by
 rcases h with h|⟨o,its,n,hk,hc,hs,hz,r⟩
 ·obtain⟨z,its,r,p⟩:=h.ok I.hok;exact⟨its,r,p,z⟩
 ·refine⟨its.toList,r,⟨o,I.qS a o hk,hc,n,by simpa using hs⟩,?_⟩
  have e:=r.length;simp only[Array.length_toList]at e
  lia
theorem Inv.ly(I:Inv X pq σ H s)(h:aR X.K H a xs)(h' : aR X.K H a ys):xs=ys:=by
 obtain⟨its,r,⟨o,n,e,_,_,d⟩,_⟩:=I.list h;obtain⟨its',r',⟨o',n',e',_,_,d'⟩,_⟩:=I.list h';rw[e]at e';cases e';rw[d]at d';injection d' with d1 _
 have:its=its':=by simpa using congrArg Array.toList d1
 subst this;exact r.inj r'
end
abbrev Cx.oB(X:Cx)(E:fD):Cx:={ X with xe:=E}
abbrev Cx.vO(X:Cx):Cx:=X.oB fun _ _=>False
theorem Cx.Ok.oB{X:Cx}(ok:X.Ok)(E:fD):(X.oB E).Ok :=
 ⟨ok.mod,ok.kind,ok.glob,ok.blt,ok.above,ok.inj,ok.has,ok.GC,ok.hd,ok.frames,ok.Cp,ok.Ka,ok.bs,ok.Cq,ok.yJ,ok.Ax,ok.funs,ok.DY⟩
theorem Cx.Ok.fZ{X:Cx}{E:fD}(ok:(X.oB E).Ok):X.Ok :=
 ⟨ok.mod,ok.kind,ok.glob,ok.blt,ok.above,ok.inj,ok.has,ok.GC,ok.hd,ok.frames,ok.Cp,ok.Ka,ok.bs,ok.Cq,ok.yJ,ok.Ax,ok.funs,ok.DY⟩
section
variable {X:Cx}{pq:aQ}{σ:St}{H:Hp}{s:Shared}{E:fD}
theorem Inv.oB(I:Inv X pq σ H s)(E:fD):Inv (X.oB E) pq σ H s:=⟨I.ok.oB E,I.os,I.bare,I.base,I.loc,I.cell,I.free,I.dS,I.pin,I.hok,I.len⟩
theorem Inv.fZ(I:Inv (X.oB E) pq σ H s):Inv X pq σ H s:=⟨I.ok.fZ,I.os,I.bare,I.base,I.loc,I.cell,I.free,I.dS,I.pin,I.hok,I.len⟩
theorem SP.fZ{D:Ends}{f:Flow}{s' : Shared}(h:SP (X.oB E) pq D f s'):SP X pq D f s':=by
 cases f with
 | next=>obtain⟨σ',H',I,q⟩:=h;exact⟨σ',H',I.fZ,q⟩
 | brk=>obtain⟨σ',H',I,q⟩:=h;exact⟨σ',H',I.fZ,q⟩
 | cont=>obtain⟨σ',H',I,q⟩:=h;exact⟨σ',H',I.fZ,q⟩
 | ret u=>obtain⟨v,σ',H',I,r,q⟩:=h;exact⟨v,σ',H',I.fZ,r,q⟩
theorem qg.vO{st:List Stmt}{t:TS}(h:qg X.vO st t):qg X st t:=fun pq s σ H D I hw =>
 wpAny_mono (h pq s σ H D (I.oB _) hw) (fun _ _ q=>q.fZ) fun _ _ z=>False.elim z
end
section
variable {X:Cx}{st:Stmt}{rest:List Stmt}{t u:TS}{e:Expr}{te:TE}{pos:Pos}
def aW:TS:=fun D σ H=>D.nx σ H
def Ends.on(D:Ends)(u:TS):Ends:={ D with nx:=u D}
def az(t u:TS):TS:=fun D σ H=>t (D.on u) σ H
theorem aZ:qg X [] aW:=fun _ _ σ H _ I h=>wpAny_execs_nil ⟨σ,H,I,h⟩
theorem aj(h1:PS X st t)(h2:qg X rest u):qg X (st::rest) (az t u):=by
 intro pq s σ H D I h;refine wpAny_execs_cons (dP (h1 pq s σ H { D with nx:=u D} I h) fun f s1 q=>?_)
 cases f with
 | next =>
   obtain⟨σ',H',I',q⟩:=q;exact h2 pq s1 σ' H' D I' q
 | ret v=>exact q
 | brk=>exact q
 | cont=>exact q
theorem au(h1:PS X st t):qg X [st] t:=by
 intro pq s σ H D I h;refine wpAny_execs_cons (dP (h1 pq s σ H D I h) fun f s1 q=>?_)
 cases f with
 | next=>exact wpAny_execs_nil q
 | ret v=>exact q
 | brk=>exact q
 | cont=>exact q
theorem Inv.quiet{pq:aQ}{σ:St}{H:Hp}{s:Shared}(I:Inv X pq σ H s):interactive X.env=false:=by simp[interactive,I.ok.kind]
def G0(te:TE):TS:=fun D σ H=>te σ H fun _ H1=>D.nx σ H1
theorem bR(he:PE X e te)(hs:swapsWith e none pos.line X.env=pure false:=by rfl):PS X (.Expr e pos) (G0 te):=by
 intro pq s σ H D I h;exact wpAny_Expr_any (dP (he pq s σ H _ I h) fun v s1 ⟨x,H1,I1,r1,q1⟩=>⟨σ,H1,I1,q1⟩) I.quiet hs
def Kh(te:TE):TS:=fun D σ H=>te σ H D.rt
theorem aI(he:PE X e te):PS X (.Return (some e) pos) (Kh te):=by
 intro pq s σ H D I h;exact wpAny_Return_some (dP (he pq s σ H _ I h) fun v s1 ⟨x,H1,I1,r1,q1⟩=>⟨x,σ,H1,I1,r1,q1⟩)
def bX(c:TT)(t u:TS):TS:=fun D σ H=>c σ H fun b H1=>if b=true then t D σ H1 else u D σ H1
theorem bY{c:Expr}{a b:List Stmt}{tc:TT}(hc:PT X c tc)(ha:qg X a t)(hb:qg X b u):PS X (.If c a b pos) (bX tc t u):=by
 intro pq s σ H D I h;refine wpAny_If (dP (hc pq s σ H _ I h) fun d s1 ⟨H1,I1,q1⟩=>?_)
 cases d with
 | true=>exact ha pq s1 σ H1 D I1 q1
 | false=>exact hb pq s1 σ H1 D I1 q1
end
abbrev TG:=V->St->Hp->(St->Hp->Prop)->Prop
abbrev DZ:=List V->St->Hp->(St->Hp->Prop)->Prop
def PG(X:Cx)(target:Expr)(t:TG):Prop :=
 ∀(pq:aQ) (s:Shared) (σ:St) (H:Hp) (v:V) (u:Value) (Q:St->Hp->Prop),Inv X pq σ H s->RelV v u->t v σ H Q->
  wpAny (model X.prog X.w) X.A (assign target X.env u) (fun _ s'=>∃ σ' H',Inv X pq σ' H' s'/\Q σ' H') X.xe s
def G3(X:Cx)(ts:List Expr)(t:DZ):Prop :=
 ∀(pq:aQ) (s:Shared) (σ:St) (H:Hp) (vs:List V) (us:List Value) (Q:St->Hp->Prop),Inv X pq σ H s->Vals vs us->t vs σ H Q->
  wpAny (model X.prog X.w) X.A (assignInOrder ((assignEach ts X.env).map (·.2)) us) (fun _ s'=>∃ σ' H',Inv X pq σ' H' s'/\Q σ' H') X.xe s
abbrev AA:=V->V->V->Hp->(Hp->Prop)->Prop
def ET(X:Cx)(t:AA):Prop :=
 ∀(pq:aQ) (s:Shared) (σ:St) (H:Hp) (o i v:V) (ov iv u:Value) (Q:Hp->Prop),Inv X pq σ H s->RelV o ov->RelV i iv->RelV v u->t o i v H Q->
  wpAny (model X.prog X.w) X.A (setItem ov iv u) (fun _ s'=>∃ H',Inv X pq σ H' s'/\Q H') X.xe s
abbrev G4:=V->V->Hp->VK->Prop
def LW(X:Cx)(op:Operator)(t:G4):Prop :=
 ∀(pq:aQ) (s:Shared) (σ:St) (H:Hp) (x y:V) (v u:Value) (Q:VK),Inv X pq σ H s->RelV x v->RelV y u->t x y H Q->
  wpAny (model X.prog X.w) X.A (inplaceOp op v u) (EP X pq σ Q) X.xe s
section
variable {X:Cx}{pos:Pos}
def AB(i:Nat):TG:=fun v σ H Q=>Q (σ.set i (some v)) H
theorem rY{i:Nat}{x:Str}(hN:X.N.Nodup)(hi:X.N[i]?=some x)(hx:Loc X.env.scope x)(hf:X.fn x=true\/X.env.scope.names.lookup x=some .local:=by first | exact .inl rfl | exact .inr rfl | assumption):PG X (.Name x pos) (AB i):=by
 intro pq s σ H v u Q I r h;exact wpAny_assign_Name (jm I hN hi hx r (fun s' I'=>⟨_,H,I',h⟩) hf)
def Kl:DZ:=fun vs σ H Q=>vs=[]/\Q σ H
def G5(t:TG)(u:DZ):DZ:=fun vs σ H Q=>∃ v r,vs=v::r/\t v σ H fun σ' H'=>u r σ' H' Q
theorem nR:G3 X [] Kl:=by
 intro pq s σ H vs us Q I r h;obtain⟨e,h⟩:=h;subst e;cases r;exact assignInOrder_nil ⟨σ,H,I,h⟩
theorem dj{e:Expr}{es:List Expr}{t:TG}{u:DZ}(h1:PG X e t)(h2:G3 X es u)
 (hs:(assignEach (e::es) X.env).map (·.2)=assign e X.env::(assignEach es X.env).map (·.2):=by rfl):G3 X (e::es) (G5 t u):=by
 intro pq s σ H vs us Q I r h;obtain⟨v,vr,e1,h⟩:=h;subst e1;cases r with
 | cons r rr =>
   rw[hs];refine assignInOrder_cons (dP (h1 pq s σ H _ _ _ I r h) fun _ s1 ⟨σ1,H1,I1,q1⟩=>?_)
   exact h2 pq s1 σ1 H1 _ _ Q I1 rr q1
def G6(K:bw)(n:Nat)(t:DZ):TG:=fun v σ H Q=>∃ a xs,v = .ref a/\bB K H a xs/\xs.length=n/\t xs σ H Q
theorem EU{es:List Expr}{k:Nat}{t:DZ}{n:Nat}(hc:X.calm=true)(h:G3 X es t)
 (hn:(assignEach es X.env).length=n:=by rfl) (hst:(assignEach es X.env).findIdx? (·.1)=none:=by rfl):PG X (.Tuple es k pos) (G6 X.K n t):=by
 intro pq s σ H v u Q I r hw;obtain⟨a,xs,e1,hq,hl,hw⟩:=hw;subst e1;cases r;obtain⟨its,rv,ht,hz⟩:=I.tuple hq;refine assign_Tuple_tuple (I.ok.hd hc) ht (by simp[hn,<-hl,rv.length]) hst fun h' hx=>?_
 have I1:Inv X pq σ H { s with heap:=h'}:=I.kept (t':=s.toks) fun b o e=>hx b o (Nat.ne_of_lt (Heap.lt_size e)) e
 exact h pq _ σ H xs _ Q I1 (by simpa using rv) hw
def Km(to ti:TE)(t:AA):TG:=fun v σ H Q=>to σ H fun o H1=>ti σ H1 fun i H2=>t o i v H2 fun H3=>Q σ H3
theorem AD{o i:Expr}{to ti:TE}{t:AA}(ho:PE X o to)(hi:PE X i ti)(hs:ET X t)
 (ha:∀ v,assign (.Subscript o i pos) X.env v=(do
  let ov←holding [v] (eval o X.env)
  let iv←holding [v,ov] (eval i X.env)
  standAt pos
  holding [v,ov,iv] (setItem ov iv v)
  release [v,ov,iv] []):=by intro _;rfl):PG X (.Subscript o i pos) (Km to ti t):=by
 intro pq s σ H v u Q I r h;rw[ha];refine cE (wpAny_holding (dP (ho pq s σ H _ I h) fun ov s1 ⟨x,H1,I1,r1,q1⟩=>?_))
 refine cE (wpAny_holding (dP (hi pq s1 σ H1 _ I1 q1) fun iv s2 ⟨y,H2,I2,r2,q2⟩=>?_))
 refine cE (wpAny_standAt (cE (wpAny_holding (dP (hs pq s2 σ H2 x y v ov iv u _ I2 r1 r2 r q2) fun _ s3 ⟨H3,I3,q3⟩=>?_))))
 exact wpAny_release ⟨σ,H3,I3,q3⟩
def G7(te:TE)(g:TG):TS:=fun D σ H=>te σ H fun x H1=>g x σ H1 D.nx
theorem AE{tg e:Expr}{te:TE}{g:TG}(he:PE X e te)(hg:PG X tg g)(hs:swapsWithSole [tg] e pos.line X.env=pure false:=by rfl)(hw:swappedStores [tg] e X.env=pure none:=by rfl)
 (h1:(assignEach [tg] X.env).map (·.2)=[assign tg X.env]:=by rfl):PS X (.Assign [tg] e pos) (G7 te g):=by
 intro pq s σ H D I h;refine wpAny_Assign_stores (dP (he pq s σ H _ I h) fun v s1 ⟨x,H1,I1,r1,q1⟩=>?_) hs hw
 rw[h1];exact dP (hg pq s1 σ H1 x v _ I1 r1 q1) fun _ s2 q=>q
theorem aG{i:Nat}{x:Str}{e:Expr}{te:TE}{pos' : Pos}(hN:X.N.Nodup)(hi:X.N[i]?=some x)(hx:Loc X.env.scope x)(he:PE X e te)(hs:swapsWith e (some (.Name x pos')) pos.line X.env=pure false:=by rfl)(hf:X.fn x=true\/X.env.scope.names.lookup x=some .local:=by first | exact .inl rfl | exact .inr rfl | assumption):
 PS X (.Assign [.Name x pos'] e pos) (G7 te (AB i)):=by
 intro pq s σ H D I h;refine wpAny_Assign_Name (dP (he pq s σ H _ I h) fun v s1 ⟨y,H1,I1,r1,q1⟩=>?_) hs
 exact jm I1 hN hi hx r1 (fun s2 I2=>⟨_,H1,I2,q1⟩) hf
def Kn(i:Nat)(te:TE)(ti:G4):TS:=fun D σ H=>∃ x,σ[i]?=some (some x)/\te σ H fun y H1=>ti x y H1 fun z H2=>D.nx (σ.set i (some z)) H2
theorem EV{i:Nat}{x:Str}{e:Expr}{te:TE}{op:Operator}{ti:G4}{pos' : Pos}(hN:X.N.Nodup)(hi:X.N[i]?=some x)(hx:Loc X.env.scope x)(he:PE X e te)(ho:LW X op ti)(hf:X.fn x=true\/X.env.scope.names.lookup x=some .local:=by first | exact .inl rfl | exact .inr rfl | assumption):
 PS X (.AugAssign (.Name x pos') op e pos) (Kn i te ti):=by
 intro pq s σ H D I h;obtain⟨v,e1,h⟩:=h;obtain⟨m,hn,hl⟩:=I.loc;have NT:Ju X.env.scope x:=by rcases hx with k | k;exact .inl k;exact .inr (.inl k)
 obtain⟨u,r,l⟩:=hl i x v hi e1 NT;refine wpAny_AugAssign_Name ?_;have go:wpAny (model X.prog X.w) X.A (eval e X.env) (fun w s₂=>wpAny (model X.prog X.w) X.A (inplaceOp op u w) (fun r s₃=>wpAny (model X.prog X.w) X.A (storeName X.env x r) (fun _=>SP X pq D .next) X.xe s₃) X.xe s₂) X.xe s:=by
  refine dP (he pq s σ H _ I h) fun w s1 ⟨y,H1,I1,r1,q1⟩=>?_
  refine dP (ho pq s1 σ H1 v y u w _ I1 r r1 q1) fun z s2 ⟨zv,H2,I2,r2,q2⟩=>?_
  exact jm I2 hN hi hx r2 (fun s3 I3=>⟨_,H2,I3,q2⟩) hf
 rcases l with⟨hk,hm⟩|⟨hk,c,hc,hcell⟩
 ·exact wpAny_loadName_local I.ok.kind hk hn hm go
 ·rcases hk with hk|hk
  ·exact wpAny_loadName_cell I.ok.kind hk hc hcell go
  ·rcases hx with k|k
   ·have:X.env.scope.names.lookup x=some .free:=hk;rw[k]at this;cases this
   ·have:X.env.scope.names.lookup x=some .free:=hk;rw[k]at this;cases this
def G8(to ti te:TE)(CF:V->V->Hp->VK->Prop)(Jz:G4)(CG:AA):TS:=fun D σ H=>to σ H fun o H1=>ti σ H1 fun i H2=>CF o i H2 fun x H3=>te σ H3 fun y H4=>Jz x y H4 fun z H5=>CG o i z H5 fun H6=>D.nx σ H6
def G9(X:Cx)(t:V->V->Hp->VK->Prop):Prop :=
 ∀(pq:aQ) (s:Shared) (σ:St) (H:Hp) (o i:V) (ov iv:Value) (Q:VK),Inv X pq σ H s->RelV o ov->RelV i iv->t o i H Q->
  wpAny (model X.prog X.w) X.A (getItem ov iv) (EP X pq σ Q) X.xe s
theorem xN{o i e:Expr}{to ti te:TE}{CF:V->V->Hp->VK->Prop}{Jz:G4}{CG:AA}{op:Operator}{tpos:Pos}(ho:PE X o to)(hi:PE X i ti)(hg:G9 X CF)(he:PE X e te)(hp:LW X op Jz)(hs:ET X CG)
 (ha:∀ ov iv new,augStore i ov iv new=(do holding [new,ov,iv] (setItem ov iv new);release [new,ov,iv] [];pure .next):=by intros;rfl):PS X (.AugAssign (.Subscript o i tpos) op e pos) (G8 to ti te CF Jz CG):=by
 intro pq s σ H D I h;refine wpAny_AugAssign_SubscriptAny (dP (ho pq s σ H _ I h) fun ov s1 ⟨x1,H1,I1,r1,q1⟩=>?_) ha
 refine dP (hi pq s1 σ H1 _ I1 q1) fun iv s2 ⟨x2,H2,I2,r2,q2⟩=>?_
 refine dP (hg pq s2 σ H2 x1 x2 ov iv _ I2 r1 r2 q2) fun old s3 ⟨x3,H3,I3,r3,q3⟩=>?_
 refine dP (he pq s3 σ H3 _ I3 q3) fun v s4 ⟨x4,H4,I4,r4,q4⟩=>?_
 refine dP (hp pq s4 σ H4 x3 x4 old v _ I4 r3 r4 q4) fun new s5 ⟨x5,H5,I5,r5,q5⟩=>?_
 exact dP (hs pq s5 σ H5 x1 x2 x5 ov iv new _ I5 r1 r2 r5 q5) fun _ s6 ⟨H6,I6,q6⟩=>⟨σ,H6,I6,q6⟩
end
structure It where
 go:Nat->Hp->Prop
 D0:Nat->Hp->V->Hp->Prop
 stop:Nat->Hp->Prop
def kJ(X:Cx)(pq:aQ)(H:Hp)(b:Addr):Prop :=
 H b=none/\b≠X.env.locals/\b∉X.fs/\(b∈X.ex\/X.s₀.heap.objs.size<=b)/\(∀ x c,X.env.cells.lookup x=some c->c≠b)/\∀ p∈X.pn++pq,p.1≠b
theorem Inv.AF{X:Cx}{pq:aQ}{σ:St}{H H' : Hp}{s:Shared}{b:Addr}(I:Inv X pq σ H s)(hb:s.heap.objs.size<=b)(hn:H' b=none):kJ X pq H' b:=by
 refine⟨hn,Nat.ne_of_gt (Nat.lt_of_lt_of_le I.lt hb),I.GV hb,.inr (Nat.le_trans I.sz hb),fun x c e z=>?_,fun p hp z=>?_⟩
 ·obtain⟨v,q⟩:=I.cell x c e;exact absurd (Nat.lt_of_lt_of_le q.lt (by rw[z];exact hb)) (Nat.lt_irrefl _)
 ·exact absurd (Nat.lt_of_lt_of_le (Heap.lt_size (I.pin p hp).1) (by rw[z];exact hb)) (Nat.lt_irrefl _)
structure Turn(P:Program)(w:World)(K:bw)(tg:Expr)(J:It)(fp:List Addr)(it:Addr)(tn:Nat->Heap->Prop):Prop where
 mem:it∈fp
 obj:∀ i h,tn i h->∀ b∈fp,∃ o,h.get? b=some o/\∀ v,o.data≠.cell v
 keep:∀ i h h',tn i h->(∀ b∈fp,∀ o,h.get? b=some o->h'.get? b=some o)->tn i h'
 item:∀(X:Cx),X.prog=P->X.w=w->X.K=K->X.calm=true->∀(i:Nat) (pq:aQ) (s:Shared) (σ:St) (H:Hp) (E:fD),Inv X pq σ H s->(∀ b∈fp,kJ X pq H b)->tn i s.heap->J.go i H->
  wpAny (model P w) X.A (pyNext (.ref it)) (fun r s1=>∃ u,r=some u/\
   wpAny (model P w) X.A (letOwnedTupleGo tg (.ref it) u) (fun _ s2=>∃ x H',Inv X pq σ H' s2/\RelV x u/\J.D0 i H x H'/\tn (i+1) s2.heap/\∀ b∈fp,H' b=none) E s1) E s
 done:∀(X:Cx),X.prog=P->X.w=w->X.K=K->X.calm=true->∀(i:Nat) (pq:aQ) (s:Shared) (σ:St) (H:Hp) (E:fD),Inv X pq σ H s->(∀ b∈fp,kJ X pq H b)->tn i s.heap->J.stop i H->
  wpAny (model P w) X.A (pyNext (.ref it)) (fun r s1=>r=none/\Inv X pq σ H s1) E s
 self:∀(A:Around) (i:Nat) (s:Shared) (Q:fD) (E:fD),tn i s.heap->Q (.ref it) s->wpAny (model P w) A (pyIter (.ref it)) Q E s
abbrev TI:=St->Hp->(It->Hp->Prop)->Prop
def LX(X:Cx)(pq:aQ)(σ:St)(tg:Expr)(R:It->Hp->Prop)(itv:Value)(s2:Shared):Prop :=
 ∃(it:Addr) (fp:List Addr) (tn:Nat->Heap->Prop) (J:It) (H' : Hp),itv = .ref it/\Inv X pq σ H' s2/\Turn X.prog X.w X.K tg J fp it tn/\tn 0 s2.heap/\(∀ b∈fp,kJ X pq H' b)/\R J H'
def PI(X:Cx)(tg iter:Expr)(wi:TI):Prop :=
 ∀(pq:aQ) (s:Shared) (σ:St) (H:Hp) (R:It->Hp->Prop),Inv X pq σ H s->wi σ H R->
  wpAny (model X.prog X.w) X.A (eval iter X.env) (fun v s1=>wpAny (model X.prog X.w) X.A (pyIter v) (LX X pq σ tg R) X.xe s1) X.xe s
theorem D3{M:Model}{A:Around}{E:fD}{s:Shared}{tg:Expr}{it:Addr}{u:Value}{o:Obj}{n:String}{vs:Array Value}{Q:Unit->Shared->Prop}(ho:s.heap.get? it=some o)(hc:o.cls = .type n)(hd:o.data = .fields vs)
 (hn:["enumerate","zip","dict_itemiterator","dict_reverseitemiterator","odict_iterator","itertools.zip_longest","itertools.pairwise"].contains n=false) (hQ:Q () s):wpAny M A (letOwnedTupleGo tg (.ref it) u) Q E s:=by
 unfold letOwnedTupleGo;cases tg<;>first
  | exact wpAny_pure hQ
  | (cases u<;>first
   | exact wpAny_pure hQ
   | (refine cE (wpAny_load ho ?_)
      rw[hc,hd];show wpAny M A (if(["enumerate","zip","dict_itemiterator","dict_reverseitemiterator","odict_iterator","itertools.zip_longest","itertools.pairwise"].contains n&&vs[0]? == some (rawInt _))=true then _ else _) Q E s
      rw[if_neg (by intro h;rw[hn,Bool.false_and]at h;cases h)]
      exact wpAny_pure hQ))
def CH(K:bw)(a:Addr):It :=
 ⟨fun i H=>∃ xs x,aR K H a xs/\xs[i]?=some x,fun i H x H'=>H' = H/\∀ xs,aR K H a xs->xs[i]?=some x,fun i H=>∃ xs,aR K H a xs/\xs.length<=i⟩
def AG(lo:Int)(n:Nat):It:=⟨fun i _=>i<n,fun i H x H'=>H' = H/\x = .int (lo+i),fun i _=>n<=i⟩
theorem yL{P:Program}{w:World}{K:bw}{tg:Expr}(a it:Addr):Turn P w K tg (CH K a) [it] it (fun i h=>h.IsListIter it a i) where
 mem:=by simp
 obj:=fun i h st b hb=>by
  have e:b=it:=by simpa using hb
  subst e;obtain⟨o,e,c,d⟩:=st;exact⟨o,e,fun v z=>by rw[d]at z;cases z⟩
 keep:=fun i h h' st k=>st.at fun o e=>k it (by simp) o e
 item:=by
  intro X hP hw hK hc i pq s σ H E I hf st hg;subst hP hw hK;obtain⟨xs,x,hq,hx⟩:=hg;obtain⟨its,rv,p,hz⟩:=I.list hq;obtain⟨u,hu,ru⟩:=rv.get hx;obtain⟨f0,f1,f2,f3,f4,f5⟩:=hf it (by simp)
  refine wpAny_pyNext_list_item st p.isList (x:=u) (by simpa using hu) fun h' st' sb=>?_
  have I1:Inv X pq σ H { s with heap:=h'}:=I.turned (t':=s.toks) (fun b o hb e=>(sb.2 b hb).trans e) f0 f1 f3 f4 f5
  obtain⟨o,e,c,d⟩:=id st';exact⟨u,rfl,D3 (s:={ s with heap:=h'}) e c d (by decide) ⟨x,H,I1,ru,⟨rfl,fun ys hy=>by rw[I.ly hy hq];exact hx⟩,st',fun b hb=>(hf b hb).1⟩⟩
 done:=by
  intro X hP hw hK hc i pq s σ H E I hf st hg;subst hP hw hK;obtain⟨xs,hq,hx⟩:=hg;obtain⟨its,rv,p,hz⟩:=I.list hq;obtain⟨f0,f1,f2,f3,f4,f5⟩:=hf it (by simp)
  have hl:=rv.length;exact wpAny_pyNext_list_end (I.ok.hd hc) st p.isList (by simp;lia) fun h' eb=>⟨rfl,I.turned (t':=s.toks) (fun b o hb e=>eb b o hb e) f0 f1 f3 f4 f5⟩
 self:=fun _ _ _ _ _ st h=>wpAny_pyIter_listiter st h
theorem vV{P:Program}{w:World}{K:bw}{tg:Expr}(it:Addr)(lo:Int)(n:Nat):Turn P w K tg (AG lo n) [it] it (fun i h=>IsRangeIter h it (lo+(i:Nat)*1) ((n:Int)-(i:Nat)) 1) where
 mem:=by simp
 obj:=fun i h st b hb=>by
  have e:b=it:=by simpa using hb
  subst e;exact⟨_,st,fun v z=>by
   have z' : Data.fields _=Data.cell v:=z;cases z'⟩
 keep:=fun i h h' st k=>k it (by simp) _ st
 item:=by
  intro X hP hw hK hc i pq s σ H E I hf st hg;subst hP hw hK;obtain⟨f0,f1,f2,f3,f4,f5⟩:=hf it (by simp)
  have W:=Walks.range (prog:=X.prog) (w:=X.w) (I.ok.hd hc) it lo 1 n;refine W.item i s _ _ hg st fun v h' tk hv st' kk=>?_
  obtain⟨t,rfl⟩:=hv;have I1:Inv X pq σ H { s with heap:=h',toks:=tk}:=I.turned (fun b o hb e=>kk b o (by simpa using hb) e) f0 f1 f3 f4 f5
  refine⟨_,rfl,D3 (s:={ s with heap:=h',toks:=tk}) (n:="range_iterator") st' rfl rfl (by decide) ⟨.int (lo+i),H,I1,⟨t,?_⟩,⟨rfl,rfl⟩,st',fun b hb=>(hf b hb).1⟩⟩
  rw[Int.mul_one]
 done:=by
  intro X hP hw hK hc i pq s σ H E I hf st hg;subst hP hw hK;obtain⟨f0,f1,f2,f3,f4,f5⟩:=hf it (by simp)
  exact wpAny_pyNext_range_end (I.ok.hd hc) st (by have:n<=i:=hg;lia) fun h' eb=>⟨rfl,I.turned (t':=s.toks) (fun b o hb e=>eb b o hb e) f0 f1 f3 f4 f5⟩
 self:=fun _ _ _ _ _ st h=>wpAny_pyIter_rangeiter st h
section
variable {X:Cx}{tg:Expr}
def D5(K:bw)(tl:TE):TI:=fun σ H R=>tl σ H fun x H1=>∃ a,x = .ref a/\(∃ xs,aR K H1 a xs)/\R (CH K a) H1
theorem CI{l:Expr}{tl:TE}(hl:PE X l tl):PI X tg l (D5 X.K tl):=by
 intro pq s σ H R I h;refine dP (hl pq s σ H _ I h) fun v s1 ⟨x,H1,I1,r1,q1⟩=>?_
 obtain⟨a,e,⟨xs,hq⟩,q⟩:=q1;subst e;cases r1;obtain⟨its,rv,p,hz⟩:=I1.list hq;refine wpAny_pyIter_list p.isList ?_;refine⟨s1.heap.objs.size,[s1.heap.objs.size],_,_,H1,rfl,I1.kept (t':=s1.toks) fun b o e=>Heap.get?_push_of_some _ e,yL a _,⟨_,Heap.get?_push_size _ rfl,rfl,rfl⟩,fun b hb=>?_,q⟩
 have e:b=s1.heap.objs.size:=by simpa using hb
 subst e;exact I1.AF (Nat.le_refl _) (I1.hok.fresh (Nat.le_refl _))
theorem ug{pq:aQ}{σ:St}{H:Hp}{s:Shared}{R:It->Hp->Prop}{E:fD}{lo hi:Int}{t u v:Tok}{tk:Nat}(I:Inv X pq σ H s)(h1 : -(2^62)<=lo)(h2:lo<2^62)(h3 : -(2^62)<=hi)(h4:hi<2^62)
 (q:R (AG lo (hi-lo).toNat) H):wpAny (model X.prog X.w) X.A (pyIter (.ref s.heap.objs.size)) (LX X pq σ tg R) E { s with heap:=s.heap.push { cls:=.type "range",data:=.fields #[.int lo t,.int hi u,.int 1 v]},toks:=tk}:=by
 refine wpAny_pyIter_range (IsRange.new ..) (small_one h1 h2 h3 h4) ?_;have I1:Inv X pq σ H { s with heap:=s.heap.push { cls:=.type "range",data:=.fields #[.int lo t,.int hi u,.int 1 v]},toks:=tk}:=I.kept fun b o e=>Heap.get?_push_of_some _ e
 refine⟨(s.heap.push { cls:=.type "range",data:=.fields #[.int lo t,.int hi u,.int 1 v]}).objs.size,[(s.heap.push { cls:=.type "range",data:=.fields #[.int lo t,.int hi u,.int 1 v]}).objs.size],_,_,H,rfl,
  I1.kept (t':=tk) fun b o e=>Heap.get?_push_of_some _ e,vV _ lo (hi-lo).toNat,?_,fun b hb=>?_,q⟩
 ·have e1:lo+((0:Nat):Int)*1=lo:=by simp
  have e2:(((hi-lo).toNat:Nat):Int)-((0:Nat):Int)=Builtin.Range.rangeSize lo hi 1:=by rw[rangeSize_one];split<;>lia
  show IsRangeIter _ _ (lo+((0:Nat):Int)*1) ((((hi-lo).toNat:Nat):Int)-((0:Nat):Int)) 1;rw[e1,e2];exact Heap.get?_push_size _ rfl
 ·have e:b=(s.heap.push { cls:=.type "range",data:=.fields #[.int lo t,.int hi u,.int 1 v]}).objs.size:=by simpa using hb
  subst e;exact I1.AF (Nat.le_refl _) (I1.hok.fresh (Nat.le_refl _))
def Hf(ta:TA):TI:=fun σ H R=>ta σ H fun vs H1=>∃ j:Int,vs=[.int j]/\-(2^62)<=j/\j<2^62/\R (AG 0 j.toNat) H1
def Hg(ta:TA):TI:=fun σ H R=>ta σ H fun vs H1=>∃ i j:Int,vs=[.int i,.int j]/\(-(2^62)<=i/\i<2^62/\-(2^62)<=j/\j<2^62)/\R (AG i (j-i).toNat) H1
theorem bq{a:Expr}{ta:TA}{p pos:Pos}(hg:Gl X "range")(hm:X.mg "range"=none)(ha:PA X [a] ta)(hs:starEach [a] X.env=[(false,eval a X.env)]:=by rfl):PI X tg (.Call (.Name "range" p) [a] [] pos) (Hf ta):=by
 intro pq s σ H R I h;refine Call_ (jn I hg hm boot_range (PyProof.Rows.callWith_type1 (dP (ha pos pq s σ H _ I h) fun us s1 ⟨vs,H1,I1,r1,q1⟩=>?_) hs rfl))
 obtain⟨j,e,q1,q2,q⟩:=q1;subst e;cases r1 with
 | cons r rr =>
   cases rr;obtain⟨t,rfl⟩:=r;exact call_range_1 (ug I1 (by lia) (by lia) q1 q2 (by simpa using q))
theorem yM{a b:Expr}{ta:TA}{p pos:Pos}(hg:Gl X "range")(hm:X.mg "range"=none)(ha:PA X [a,b] ta)(hs:starEach [a,b] X.env=[(false,eval a X.env),(false,eval b X.env)]:=by rfl)(hs2:starEach [b] X.env=[(false,eval b X.env)]:=by rfl):
 PI X tg (.Call (.Name "range" p) [a,b] [] pos) (Hg ta):=by
 intro pq s σ H R I h;refine Call_ (jn I hg hm boot_range (PyProof.Rows.callWith_type1 (dP (ha pos pq s σ H _ I h) fun us s1 ⟨vs,H1,I1,r1,q1⟩=>?_) (by rw[hs,hs2]) (by rw[hs2];rfl)))
 obtain⟨i,j,e,⟨q1,q2,q3,q4⟩,q⟩:=q1;subst e;cases r1 with
 | cons r rr =>
   cases rr with
   | cons r' rr =>
     cases rr;obtain⟨t,rfl⟩:=r;obtain⟨t',rfl⟩:=r';exact call_range_2 (ug I1 q1 q2 q3 q4 q)
def fO(wi:TI)(g:TG)(tb:TS):TS:=fun D σ H=>wi σ H fun J H1=>∃ W:Nat->Nat->St->Hp->Prop,(∃ m,W 0 m σ H1)/\∀ i m σ H,W i m σ H->
 (J.stop i H/\D.nx σ H)\/(J.go i H/\∃ N:St->Hp->Prop,(∀ σ' H',N σ' H'->∃ m',m'<m/\W (i+1) m' σ' H')/\∀ x H',J.D0 i H x H'->g x σ H' fun σ2 H2=>tb { D with nx:=N,ct:=N,bk:=D.nx} σ2 H2)
def lZ(fp:List Addr)(h:Heap):aQ:=fp.filterMap fun b=>(h.get? b).map fun o=>(b,o)
theorem eX{fp:List Addr}{h:Heap}{b:Addr}{o:Obj}(hb:b∈fp)(e:h.get? b=some o):(b,o)∈lZ fp h:=List.mem_filterMap.mpr ⟨b,hb,by rw[e];rfl⟩
theorem yN{fp:List Addr}{h:Heap}{p:Addr×Obj}(hp:p∈lZ fp h):p.1∈fp/\h.get? p.1=some p.2:=by
 obtain⟨b,hb,e⟩:=List.mem_filterMap.mp hp;cases q:h.get? b with
 | none=>rw[q]at e;cases e
 | some o =>
   rw[q]at e;have e' : (b,o)=p:=Option.some.inj e;subst e';exact⟨hb,q⟩
theorem Inv.pinned{pq:aQ}{σ:St}{H:Hp}{s:Shared}{fp:List Addr}(I:Inv X pq σ H s)(hf:∀ b∈fp,kJ X pq H b)(ho:∀ b∈fp,∃ o,s.heap.get? b=some o/\∀ v,o.data≠.cell v):Inv X (pq++lZ fp s.heap) σ H s :=
 I.fN fun p hp=>(List.mem_append.mp hp).elim (fun z=>I.pin p (lj _ z)) fun z=>by
  obtain⟨hb,e⟩:=yN z;obtain⟨f0,f1,f2,_⟩:=hf p.1 hb;obtain⟨o,e',d⟩:=ho p.1 hb;rw[e]at e';cases e';exact⟨e,f0,f1,f2,d⟩
theorem Inv.gb{pq pl:aQ}{σ:St}{H:Hp}{s:Shared}(I:Inv X (pq++pl) σ H s):Inv X pq σ H s:=I.fN fun p hp=>I.pin p (lj _ (EH _ hp))
theorem gP{iter:Expr}{body:List Stmt}{wi:TI}{g:TG}{tb:TS}{pos:Pos}(hp:PassesOwn (model X.prog X.w) X.A X.env X.xe)(hc:X.calm=true)(hi:PI X tg iter wi)(hg:PG X tg g)(hb:qg X body tb)
 (hs:∀ x,foldedSetIterable iter X.env x=pure x:=by intro _;rfl):PS X (.For tg iter body [] pos) (fO wi g tb):=by
 intro pq s σ H D I h;refine wpAny_For (dP (hi pq s σ H _ I h) fun v s1 h1=>dP h1 fun itv s2 h2=>?_) hs
 obtain⟨it,fp,tn,J,H2,e,I2,T,st2,f2,W,⟨m0,w0⟩,turn⟩:=h2;subst e;have vW:∀{H' : Hp},(∀ b∈fp,H' b=none)->∀ b∈fp,kJ X pq H' b:=fun hn b hb=>⟨hn b hb,(f2 b hb).2⟩
 refine codeAny_forLoop_any (fun n s'=>∃ i σ' H',Inv X pq σ' H' s'/\tn i s'.heap/\(∀ b∈fp,H' b=none)/\W i n σ' H') ?_ m0 ⟨0,σ,H2,I2,st2,fun b hb=>(f2 b hb).1,w0⟩
 rintro n s3 ⟨i,σ3,H3,I3,st3,D6,w3⟩;rcases turn i n σ3 H3 w3 with⟨stop,qn⟩|⟨go,N,hN,step⟩
 ·refine wpAny_passesOwn hp (dP (T.done X rfl rfl rfl hc i pq s3 σ3 H3 X.xe I3 (vW D6) st3 stop) fun r s4 ⟨hr,I4⟩=>?_)
  subst hr;exact wpAny_execs_nil ⟨σ3,H3,I4,qn⟩
 ·refine wpAny_passesOwn hp (dP (T.item X rfl rfl rfl hc i pq s3 σ3 H3 X.xe I3 (vW D6) st3 go) fun r s4 ⟨u,hr,h4⟩=>?_)
  subst hr;refine wpAny_passesOwn hp (dP h4 fun _ s5 ⟨x,H5,I5,r5,y5,AH,Hh⟩=>?_)
  have Hi:=I5.pinned (vW Hh) (T.obj _ _ AH);refine wpAny_passesOwn hp (dP (hg _ s5 σ3 H5 x u _ Hi r5 (step x H5 y5)) fun _ s6 ⟨σ6,H6,I6,q6⟩=>?_)
  refine wpAny_passesOwn hp (dP (hb _ s6 σ6 H6 _ I6 q6) fun f s7 q7=>?_)
  have again:∀{σ7:St} {H7:Hp},Inv X (pq++lZ fp s5.heap) σ7 H7 s7->N σ7 H7->∃ m,m<n/\∃ i σ' H',Inv X pq σ' H' s7/\tn i s7.heap/\(∀ b∈fp,H' b=none)/\W i m σ' H':=fun {σ7 H7} I7 n7=>by
   obtain⟨m',hm,w7⟩:=hN σ7 H7 n7;refine⟨m',hm,i+1,σ7,H7,I7.gb,T.keep _ _ _ AH fun b hb o e=>(I7.pin (b,o) (lj _ (lj _ (eX hb e)))).1,fun b hb=>?_,w7⟩
   obtain⟨o,e,d⟩:=T.obj _ _ AH b hb;exact(I7.pin (b,o) (lj _ (lj _ (eX hb e)))).2.1
  cases f with
  | next=>obtain⟨σ7,H7,I7,n7⟩:=q7;exact again I7 n7
  | cont=>obtain⟨σ7,H7,I7,n7⟩:=q7;exact again I7 n7
  | brk=>obtain⟨σ7,H7,I7,q7⟩:=q7;exact⟨σ7,H7,I7.gb,q7⟩
  | ret v=>obtain⟨x7,σ7,H7,I7,r7,q7⟩:=q7;exact⟨x7,σ7,H7,I7.gb,r7,q7⟩
end
theorem AI{K:bw}{a:Addr}{xs:List V}{g:TG}{tb:TS}{D:Ends}{σ:St}{H:Hp}(Pv:Nat->St->Hp->Prop)(h0:Pv 0 σ H)(hl:∀ i σ H,i<=xs.length->Pv i σ H->aR K H a xs)
 (hs:∀ i x σ H,xs[i]?=some x->Pv i σ H->g x σ H fun σ2 H2=>tb { D with nx:=Pv (i+1),ct:=Pv (i+1),bk:=D.nx} σ2 H2) (hd:∀ σ H,Pv xs.length σ H->D.nx σ H) :
 ∃ W:Nat->Nat->St->Hp->Prop,(∃ m,W 0 m σ H)/\∀ i m σ H,W i m σ H->
   ((CH K a).stop i H/\D.nx σ H)\/((CH K a).go i H/\∃ N:St->Hp->Prop,(∀ σ' H',N σ' H'->∃ m',m'<m/\W (i+1) m' σ' H')/\∀ x H',(CH K a).D0 i H x H'->g x σ H' fun σ2 H2=>tb { D with nx:=N,ct:=N,bk:=D.nx} σ2 H2):=by
 refine⟨fun i m σ H=>m=xs.length-i/\i<=xs.length/\Pv i σ H,⟨xs.length,by simp,Nat.zero_le _,h0⟩,?_⟩
 rintro i m σ H ⟨rfl,hi,p⟩;have q:=hl i σ H hi p
 by_cases hlt:i<xs.length
 ·refine .inr ⟨⟨xs,xs[i],q,by simp[hlt]⟩,Pv (i+1),fun σ' H' p'=>⟨xs.length-(i+1),by lia,rfl,hlt,p'⟩,fun x H' y=>?_⟩
  obtain⟨e,y⟩:=y;subst e;exact hs i x σ _ (y xs q) p
 ·have e:i=xs.length:=by lia
  subst e;exact .inl ⟨⟨xs,q,Nat.le_refl _⟩,hd σ H p⟩
theorem yO{lo:Int}{n:Nat}{g:TG}{tb:TS}{D:Ends}{σ:St}{H:Hp}(Pv:Nat->St->Hp->Prop)(h0:Pv 0 σ H)
 (hs:∀ i σ H,i<n->Pv i σ H->g (.int (lo+i)) σ H fun σ2 H2=>tb { D with nx:=Pv (i+1),ct:=Pv (i+1),bk:=D.nx} σ2 H2) (hd:∀ σ H,Pv n σ H->D.nx σ H) :
 ∃ W:Nat->Nat->St->Hp->Prop,(∃ m,W 0 m σ H)/\∀ i m σ H,W i m σ H->
   ((AG lo n).stop i H/\D.nx σ H)\/((AG lo n).go i H/\∃ N:St->Hp->Prop,(∀ σ' H',N σ' H'->∃ m',m'<m/\W (i+1) m' σ' H')/\∀ x H',(AG lo n).D0 i H x H'->g x σ H' fun σ2 H2=>tb { D with nx:=N,ct:=N,bk:=D.nx} σ2 H2):=by
 refine⟨fun i m σ H=>m=n-i/\i<=n/\Pv i σ H,⟨n,by simp,Nat.zero_le _,h0⟩,?_⟩
 rintro i m σ H ⟨rfl,hi,p⟩
 by_cases hlt:i<n
 ·refine .inr ⟨hlt,Pv (i+1),fun σ' H' p'=>⟨n-(i+1),by lia,rfl,hlt,p'⟩,fun x H' y=>?_⟩
  obtain⟨e,y⟩:=y;subst e y;exact hs i σ _ hlt p
 ·have e:i=n:=by lia
  subst e;exact .inl ⟨Nat.le_refl _,hd σ H p⟩
abbrev R2:=V->V->Hp->VK->Prop
def jV(X:Cx)(f:Value->Value->Sem Value)(r:R2):Prop :=
 ∀(pq:aQ) (s:Shared) (σ:St) (H:Hp) (x y:V) (v u:Value) (Q:VK),Inv X pq σ H s->RelV x v->RelV y u->r x y H Q->
  wpAny (model X.prog X.w) X.A (f v u) (EP X pq σ Q) X.xe s
def Ko(X:Cx)(f:Value->Sem Value)(r:V->Hp->VK->Prop):Prop :=
 ∀(pq:aQ) (s:Shared) (σ:St) (H:Hp) (x:V) (v:Value) (Q:VK),Inv X pq σ H s->RelV x v->r x H Q->
  wpAny (model X.prog X.w) X.A (f v) (EP X pq σ Q) X.xe s
def eU(X:Cx)(f:Value)(r:List V->Hp->VK->Prop):Prop :=
 ∀(pq:aQ) (s:Shared) (σ:St) (H:Hp) (xs:List V) (us:List Value) (Q:VK),Inv X pq σ H s->Vals xs us->r xs H Q->
  wpAny (model X.prog X.w) X.A (call f us) (EP X pq σ Q) X.xe s
def Hj(r:R2)(ta tb:TE):TE:=fun σ H Q=>ta σ H fun x H1=>tb σ H1 fun y H2=>r x y H2 Q
def NU(r:V->Hp->VK->Prop)(ta:TE):TE:=fun σ H Q=>ta σ H fun x H1=>r x H1 Q
def rI(C:Int->Int->Prop)(g:Int->Int->V):R2:=fun x y H Q=>∃ i j,x = .int i/\y = .int j/\C i j/\Q (g i j) H
def An(g:Int->Int->V):R2:=fun x y H Q=>∃ i j,x = .int i/\y = .int j/\Q (g i j) H
def rU(g:Int->V):V->Hp->VK->Prop:=fun x H Q=>∃ i,x = .int i/\Q (g i) H
section
variable {X:Cx}{a b c:Expr}{ta tb tc:TE}{pos:Pos}
theorem EW(ha:PE X a ta)(hb:PE X b tb){pq:aQ}{s:Shared}{σ:St}{H:Hp}{R:V->V->Hp->Prop}(I:Inv X pq σ H s)
 (h:ta σ H fun x H1=>tb σ H1 fun y H2=>R x y H2) {Q:fD} {f:Value->Value->Sem Value}
 (hf:∀ v u s2 x y H2,Inv X pq σ H2 s2->RelV x v->RelV y u->R x y H2->wpAny (model X.prog X.w) X.A (f v u) Q X.xe s2) :
 wpAny (model X.prog X.w) X.A (eval a X.env) (fun v s₁=>wpAny (model X.prog X.w) X.A (eval b X.env) (fun u s₂=>wpAny (model X.prog X.w) X.A (f v u) Q X.xe s₂) X.xe s₁) X.xe s:=by
 refine dP (ha pq s σ H _ I h) fun v s1 ⟨x,H1,I1,r1,q1⟩=>?_
 refine dP (hb pq s1 σ H1 _ I1 q1) fun u s2 ⟨y,H2,I2,r2,q2⟩=>?_
 exact hf v u s2 x y H2 I2 r1 r2 q2
theorem aE{op:Operator}{r:R2}(ho:jV X (binaryOp op) r)(ha:PE X a ta)(hb:PE X b tb):PE X (.BinOp a op b pos) (Hj r ta tb):=by
 intro pq s σ H Q I h;exact wpAny_BinOp (EW ha hb I h fun v u s2 x y H2 I2 rx ry q=>ho pq s2 σ H2 x y v u Q I2 rx ry q)
theorem D7{op:UnaryOp}{r:V->Hp->VK->Prop}(ho:Ko X (unaryOp op) r)(ha:PE X a ta):PE X (.UnaryOp op a pos) (NU r ta):=by
 intro pq s σ H Q I h;exact UnaryOp_ (dP (ha pq s σ H _ I h) fun v s1 ⟨x,H1,I1,r1,q1⟩=>ho pq s1 σ H1 x v Q I1 r1 q1)
theorem GD{f:Value->Value->Sem Value}{C:Int->Int->Prop}{g:Int->Int->Int}
 (rule:∀(i j:Int) (t u:Tok) (s:Shared) (Q:fD) (E:fD),C i j->Q (.int (g i j) s.toks) { s with toks:=s.toks+1}->wpAny (model X.prog X.w) X.A (f (.int i t) (.int j u)) Q E s) :
 jV X f (rI C fun i j=>.int (g i j)):=by
 intro pq s σ H x y v u Q I rx ry h;obtain⟨i,j,rfl,rfl,hc,q⟩:=h;obtain⟨t,rfl⟩:=rx;obtain⟨t',rfl⟩:=ry;exact rule i j t t' s _ _ hc ⟨.int (g i j),H,I.tok _,⟨_,rfl⟩,q⟩
theorem yP{f:Value->Value->Sem Value}{g:Int->Int->Int}
 (rule:∀(i j:Int) (t u:Tok) (s:Shared) (Q:fD) (E:fD),Q (.int (g i j) s.toks) { s with toks:=s.toks+1}->wpAny (model X.prog X.w) X.A (f (.int i t) (.int j u)) Q E s) :
 jV X f (An fun i j=>.int (g i j)):=by
 intro pq s σ H x y v u Q I rx ry h;obtain⟨i,j,rfl,rfl,q⟩:=h;obtain⟨t,rfl⟩:=rx;obtain⟨t',rfl⟩:=ry;exact rule i j t t' s _ _ ⟨.int (g i j),H,I.tok _,⟨_,rfl⟩,q⟩
theorem CJ{f:Value->Value->Sem Value}{g:Int->Int->Bool}
 (rule:∀(i j:Int) (t u:Tok) (s:Shared) (Q:fD) (E:fD),Q (.bool (g i j)) s->wpAny (model X.prog X.w) X.A (f (.int i t) (.int j u)) Q E s) :
 jV X f (An fun i j=>.bl (g i j)):=by
 intro pq s σ H x y v u Q I rx ry h;obtain⟨i,j,rfl,rfl,q⟩:=h;obtain⟨t,rfl⟩:=rx;obtain⟨t',rfl⟩:=ry;exact rule i j t t' s _ _ ⟨.bl (g i j),H,I,rfl,q⟩
def Kp(i j:Int):Prop:=0<j/\j<1073741824
def Hl(i j:Int):Prop:=0<=j/\j<=1000000/\i.natAbs<2^64
def EX(i j:Int):Prop:=(-(2^64)<i/\i<2^64)\/(-(2^64)<j/\j<2^64)
theorem EX.ok{i j:Int}(h:EX i j):IntMulOk i j:=by
 rcases h with⟨h1,h2⟩|⟨h1,h2⟩
 ·exact .of_left (intBits_le_64 h1 h2)
 ·exact .of_right (intBits_le_64 h1 h2)
theorem vX(k:Nat):(0:Int)<=2^k:=by
 rw[two_pow_cast];exact Int.natCast_nonneg _
theorem bZ:jV X (binaryOp .Add) (An fun i j=>.int (i+j)):=yP fun _ _ _ _ _ _ _ q=>add_int q
theorem oE:jV X (binaryOp .Sub) (An fun i j=>.int (i-j)):=yP fun _ _ _ _ _ _ _ q=>sub_int q
theorem vY:jV X (binaryOp .Mult) (rI EX fun i j=>.int (i*j)):=GD fun _ _ _ _ _ _ _ hc q=>mul_int q hc.ok
theorem jW:jV X (binaryOp .FloorDiv) (rI Kp fun i j=>.int (i/j)):=GD fun i j _ _ _ _ _ hc q=>by
 have h1:(0:Int)<j:=hc.1;have h2:j<1073741824:=hc.2;exact floordiv_int (by lia) (by rw[Int.fdiv_eq_ediv_of_nonneg i (by lia)];exact q) (.inl (PyProof.noPylong_small (by lia)))
theorem bM:jV X (binaryOp .Mod) (rI (fun _ j=>0<j) fun i j=>.int (i%j)):=GD fun i j _ _ _ _ _ hc q=>by
 have h1:(0:Int)<j:=hc;exact mod_int' (by lia) (by rw[Int.fmod_eq_emod_of_nonneg i (by lia)];exact q)
theorem EY:jV X (binaryOp .Pow) (rI Hl fun i j=>.int (i^j.toNat)):=GD fun _ _ _ _ _ _ _ hc q=>pow_int_small hc.1 hc.2.1 hc.2.2 q
theorem l5:jV X (binaryOp .LShift) (rI Hl fun i j=>.int (i*2^j.toNat)):=GD fun _ _ _ _ _ _ _ hc q=>lshift_int_small hc.1 hc.2.1 hc.2.2 q
theorem rZ:jV X (binaryOp .RShift) (rI (fun _ j=>0<=j) fun i j=>.int (i/2^j.toNat)):=GD fun i j _ _ _ _ _ hc q =>
 rshift_int hc (by rw[Int.fdiv_eq_ediv_of_nonneg i (vX _)];exact q)
theorem EZ:jV X (binaryOp .BitAnd) (An fun i j=>.int (Builtin.bitAnd i j)):=yP fun _ _ _ _ _ _ _ q=>and_int q
theorem kK:jV X (binaryOp .BitXor) (An fun i j=>.int (Builtin.bitXor i j)):=yP fun _ _ _ _ _ _ _ q=>xor_int q
theorem xO:jV X (inplaceOp .Add) (An fun i j=>.int (i+j)):=yP fun _ _ _ _ _ _ _ q=>iadd_int q
theorem E2:jV X (inplaceOp .BitOr) (An fun i j=>.int (Builtin.bitOr i j)):=yP fun _ _ _ _ _ _ _ q=>ior_int q
theorem NV{f:Value->Sem Value}{g:Int->Int}
 (rule:∀(i:Int) (t:Tok) (s:Shared) (Q:fD) (E:fD),Q (.int (g i) s.toks) { s with toks:=s.toks+1}->wpAny (model X.prog X.w) X.A (f (.int i t)) Q E s) :
 Ko X f (rU fun i=>.int (g i)):=by
 intro pq s σ H x v Q I rx h;obtain⟨i,rfl,q⟩:=h;obtain⟨t,rfl⟩:=rx;exact rule i t s _ _ ⟨.int (g i),H,I.tok _,⟨_,rfl⟩,q⟩
theorem AJ:Ko X (unaryOp .USub) (rU fun i=>.int (-i)):=NV fun _ _ _ _ _ q=>neg_int q
end
def Ho:V->V->Bool
 | .eV,.eV=>true | .eV,.int _=>true | .int _,.eV=>true | .eV,.bl _=>true | .bl _,.eV=>true | .eV,.str _=>true | .str _,.eV=>true
 | .int _,.int _=>true | .bl _,.bl _=>true | .str _,.str _=>true | .Au _,.Au _=>true
 | .int _,.str _=>true | .str _,.int _=>true | .bl _,.str _=>true | .str _,.bl _=>true
 | _,_=>false
def NW:R2:=fun x y H Q=>Ho x y=true/\Q (.bl (decide (x=y))) H
def NX:R2:=fun x y H Q=>Ho x y=true/\Q (.bl (!decide (x=y))) H
theorem xP{i j:Int}:decide (V.int i=V.int j)=(i==j):=by
 rw[Bool.eq_iff_iff];simp
theorem AK{i j:Bool}:decide (V.bl i=V.bl j)=(i==j):=by
 rw[Bool.eq_iff_iff];simp
theorem xQ{i j:Str}:decide (V.str i=V.str j)=(i==j):=by
 rw[Bool.eq_iff_iff];simp
theorem xR{i j:Array UInt8}:decide (V.Au i=V.Au j)=(i.toList==j.toList):=by
 rw[Bool.eq_iff_iff];cases i;cases j;simp
section
variable {X:Cx}{a b c:Expr}{ta tb tc:TE}{pos:Pos}
theorem bf{pq:aQ}{σ:St}{H:Hp}{s:Shared}{Q:VK}{k k' : Bool}(I:Inv X pq σ H s)(q:Q (.bl k) H)(e:k=k'):EP X pq σ Q (.bool k') s:=by
 subst e;exact⟨.bl k,H,I,rfl,q⟩
theorem cC:jV X (compareOp .Eq) NW:=by
 intro pq s σ H x y v u Q I rx ry h;obtain⟨hs,q⟩:=h;cases x with
 | eV =>
   cases rx;cases y with
   | eV=>cases ry;exact PySem.EqNone.eq_none_none (bf I q (by simp))
   | bl j=>cases ry;exact PySem.EqNone.eq_none_bool (bf I q (by simp))
   | int j=>obtain⟨t',rfl⟩:=ry;exact PySem.EqNone.eq_none_int (bf I q (by simp))
   | str j=>obtain⟨t',rfl⟩:=ry;exact PySem.EqNone.eq_none_str (bf I q (by simp))
   | _=>exact absurd (show false=true from hs) Bool.false_ne_true
 | bl i =>
   cases rx;cases y with
   | eV=>cases ry;exact PySem.EqNone.eq_bool_none (bf I q (by simp))
   | bl j=>cases ry;exact eq_bool (bf I q AK)
   | str j=>obtain⟨t',rfl⟩:=ry;exact PySem.EqMixed.eq_bool_str (bf I q (by simp))
   | _=>exact absurd (show false=true from hs) Bool.false_ne_true
 | int i =>
   obtain⟨t,rfl⟩:=rx;cases y with
   | eV=>cases ry;exact PySem.EqNone.eq_int_none (bf I q (by simp))
   | int j=>obtain⟨t',rfl⟩:=ry;exact eq_int (bf I q xP)
   | str j=>obtain⟨t',rfl⟩:=ry;exact PySem.EqMixed.eq_int_str (bf I q (by simp))
   | _=>exact absurd (show false=true from hs) Bool.false_ne_true
 | str i =>
   obtain⟨t,rfl⟩:=rx;cases y with
   | eV=>cases ry;exact PySem.EqNone.eq_str_none (bf I q (by simp))
   | bl j=>cases ry;exact PySem.EqMixed.eq_str_bool (bf I q (by simp))
   | int j=>obtain⟨t',rfl⟩:=ry;exact PySem.EqMixed.eq_str_int (bf I q (by simp))
   | str j=>obtain⟨t',rfl⟩:=ry;exact eq_str (bf I q xQ)
   | _=>exact absurd (show false=true from hs) Bool.false_ne_true
 | Au i =>
   obtain⟨t,rfl⟩:=rx;cases y with
   | Au j=>obtain⟨t',rfl⟩:=ry;exact PySem.W.eq_bytes (bf I q xR)
   | _=>exact absurd (show false=true from hs) Bool.false_ne_true
 | _=>cases y<;>exact absurd (show false=true from hs) Bool.false_ne_true
theorem D8:jV X (compareOp .NotEq) NX:=by
 intro pq s σ H x y v u Q I rx ry h;obtain⟨hs,q⟩:=h;cases x with
 | eV =>
   cases rx;cases y with
   | eV=>cases ry;exact PySem.EqNone.ne_none_none (bf I q (by simp))
   | bl j=>cases ry;exact PySem.EqNone.ne_none_bool (bf I q (by simp))
   | int j=>obtain⟨t',rfl⟩:=ry;exact PySem.EqNone.ne_none_int (bf I q (by simp))
   | str j=>obtain⟨t',rfl⟩:=ry;exact PySem.EqNone.ne_none_str (bf I q (by simp))
   | _=>exact absurd (show false=true from hs) Bool.false_ne_true
 | bl i =>
   cases rx;cases y with
   | eV=>cases ry;exact PySem.EqNone.ne_bool_none (bf I q (by simp))
   | bl j=>cases ry;exact ne_bool (bf I q (congrArg not AK))
   | str j=>obtain⟨t',rfl⟩:=ry;exact PySem.EqMixed.ne_bool_str (bf I q (by simp))
   | _=>exact absurd (show false=true from hs) Bool.false_ne_true
 | int i =>
   obtain⟨t,rfl⟩:=rx;cases y with
   | eV=>cases ry;exact PySem.EqNone.ne_int_none (bf I q (by simp))
   | int j=>obtain⟨t',rfl⟩:=ry;exact ne_int (bf I q (congrArg not xP))
   | str j=>obtain⟨t',rfl⟩:=ry;exact PySem.EqMixed.ne_int_str (bf I q (by simp))
   | _=>exact absurd (show false=true from hs) Bool.false_ne_true
 | str i =>
   obtain⟨t,rfl⟩:=rx;cases y with
   | eV=>cases ry;exact PySem.EqNone.ne_str_none (bf I q (by simp))
   | bl j=>cases ry;exact PySem.EqMixed.ne_str_bool (bf I q (by simp))
   | int j=>obtain⟨t',rfl⟩:=ry;exact PySem.EqMixed.ne_str_int (bf I q (by simp))
   | str j=>obtain⟨t',rfl⟩:=ry;exact ne_str (bf I q (congrArg not xQ))
   | _=>exact absurd (show false=true from hs) Bool.false_ne_true
 | Au i =>
   obtain⟨t,rfl⟩:=rx;cases y with
   | Au j=>obtain⟨t',rfl⟩:=ry;exact PySem.W.ne_bytes (bf I q (congrArg not xR))
   | _=>exact absurd (show false=true from hs) Bool.false_ne_true
 | _=>cases y<;>exact absurd (show false=true from hs) Bool.false_ne_true
theorem xS:jV X (compareOp .Lt) (An fun i j=>.bl (decide (i<j))):=CJ fun _ _ _ _ _ _ _ q=>lt_int q
theorem D9:jV X (compareOp .LtE) (An fun i j=>.bl (decide (i<=j))):=CJ fun _ _ _ _ _ _ _ q=>le_int q
theorem qT:jV X (compareOp .Gt) (An fun i j=>.bl (decide (j<i))):=CJ fun _ _ _ _ _ _ _ q=>gt_int q
theorem Hq:jV X (compareOp .GtE) (An fun i j=>.bl (decide (j<=i))):=CJ fun _ _ _ _ _ _ _ q=>ge_int q
theorem aM(b:Expr){op:CmpOp}(h:op≠.In:=by decide)(h2:op≠.NotIn:=by decide):behindInMarks op b=false:=by
 have e1:(op==CmpOp.In)=false:=by cases op<;>first | rfl | exact absurd rfl h
 have e2:(op==CmpOp.NotIn)=false:=by cases op<;>first | rfl | exact absurd rfl h2
 cases b<;>simp[behindInMarks,e1,e2]
theorem cR{op:CmpOp}{r:R2}(ho:jV X (compareOp op) r)(ha:PE X a ta)(hb:PE X b tb)(hm:behindInMarks op b=false):PE X (.Compare a [op] [b] pos) (Hj r ta tb):=by
 intro pq s σ H Q I h;exact wpAny_Compare1 (EW ha hb I h fun v u s2 x y H2 I2 rx ry q=>ho pq s2 σ H2 x y v u Q I2 rx ry q) hm
def Hr(t:TE):TT:=fun σ H Q=>t σ H fun x H'=>∃ k,x = .bl k/\Q k H'
theorem aP{op:CmpOp}{r:R2}(ho:jV X (compareOp op) r)(ha:PE X a ta)(hb:PE X b tb)(hm:behindInMarks op b=false):PT X (.Compare a [op] [b] pos) (Hr (Hj r ta tb)):=by
 intro pq s σ H Q I h;refine wpAny_isTrue_Compare1 (dP (ha pq s σ H _ I h) fun v s1 ⟨x,H1,I1,r1,q1⟩=>dP (hb pq s1 σ H1 _ I1 q1) fun u s2 ⟨y,H2,I2,r2,q2⟩ =>
  dP (ho pq s2 σ H2 x y v u _ I2 r1 r2 q2) fun c s3 ⟨z,H3,I3,r3,k,e,q3⟩=>?_) hm
 subst e;cases r3;exact wpAny_truthy_bool ⟨H3,I3,q3⟩
theorem oF:(sizeLine:Nat)<2^63:=by rw[sizeLine_eq];decide
theorem vals1{x:V}{us:List Value}(r:Vals [x] us):∃ u,us=[u]/\RelV x u:=by
 cases r with
 | cons r1 r2=>cases r2;exact⟨_,rfl,r1⟩
theorem vals2{x y:V}{us:List Value}(r:Vals [x,y] us):∃ u w',us=[u,w']/\RelV x u/\RelV y w':=by
 cases r with
 | cons r1 r2 =>
   cases r2 with
   | cons r3 r4=>cases r4;exact⟨_,_,rfl,r1,r3⟩
theorem qU(hc:X.calm=true):eU X (.builtin "max") (fun xs H Q=>∃ i j,xs=[.int i,.int j]/\Q (.int (if j > i then j else i)) H):=by
 intro pq s σ H xs us Q I r h;obtain⟨i,j,rfl,q⟩:=h;obtain⟨u,w',rfl,⟨t,rfl⟩,⟨t',rfl⟩⟩:=vals2 r;refine max_two_ints (I.ok.hd hc) fun h' tk k=>⟨_,H,I.kept k,?_,q⟩
 by_cases hj:j > i
 ·rw[if_pos hj,if_pos hj];exact⟨_,rfl⟩
 ·rw[if_neg hj,if_neg hj];exact⟨_,rfl⟩
theorem yQ(hc:X.calm=true):eU X (.builtin "min") (fun xs H Q=>∃ i j,xs=[.int i,.int j]/\Q (.int (if j<i then j else i)) H):=by
 intro pq s σ H xs us Q I r h;obtain⟨i,j,rfl,q⟩:=h;obtain⟨u,w',rfl,⟨t,rfl⟩,⟨t',rfl⟩⟩:=vals2 r;refine min_two_ints (I.ok.hd hc) fun h' tk k=>⟨_,H,I.kept k,?_,q⟩
 by_cases hj:j<i
 ·rw[if_pos hj,if_pos hj];exact⟨_,rfl⟩
 ·rw[if_neg hj,if_neg hj];exact⟨_,rfl⟩
theorem l6:eU X (.type "int") (fun xs H Q=>(∃ i,xs=[.int i]/\Q (.int i) H)\/∃ k,xs=[.bl k]/\Q (.int (if k then 1 else 0)) H):=by
 intro pq s σ H xs us Q I r h;rcases h with⟨i,rfl,q⟩|⟨k,rfl,q⟩
 ·obtain⟨u,rfl,t,rfl⟩:=vals1 r;exact call_int_int ⟨.int i,H,I,⟨_,rfl⟩,q⟩
 ·obtain⟨u,rfl,r1⟩:=vals1 r;cases r1;exact call_int_bool ⟨.int (if k then 1 else 0),H,I.tok _,⟨_,rfl⟩,q⟩
end
structure E3(h:Heap)(x dx C:Addr)(mA:jk):Prop where
 obj:h.get? x=some (PySem.W.instObj C dx)
 ns:h.Ns1 dx mA
 ne:dx≠x
theorem yR{h:Heap}{dx:Addr}{mA:jk}(n:h.Ns1 dx mA):∃ od,h.get? dx=some od/\∀ name,PySem.W.lookIn name od=some (mA name):=by
 obtain⟨o,es,ep,ho,hd,hk,_,hm⟩:=n;refine⟨o,ho,fun name=>?_⟩
 have e:=hm name;unfold nsFind findBy at e;rw[<-Array.find?_toList]at e;unfold PySem.W.lookIn;rw[hd];dsimp only
 split
 ·rename_i y q
  rw[q]at e;exact congrArg some e
 ·rename_i q
  rw[q]at e;have a:es.toList.any (·.refKey)=false:=by
   rw[List.any_eq_false];intro y hy;obtain⟨z,t,hkey⟩:=hk y (Array.mem_toList_iff.mp hy);simp[DictEntry.refKey,hkey]
  have a' : ¬ es.toList.any (·.refKey)=true:=by rw[a];exact Bool.false_ne_true
  rw[if_neg a'];exact congrArg some e
theorem E3.look{h:Heap}{x dx C:Addr}{mA:jk}(I:E3 h x dx C mA):∃ od,PySem.W.InstAt h x (PySem.W.instObj C dx) C (some od)/\∀ name,PySem.W.lookIn name od=some (mA name) :=
 let⟨od,ho,hl⟩:=yR I.ns
 ⟨od,⟨I.obj,rfl,rfl,ho⟩,hl⟩
section
variable {P:Program}{w:World}{H H' : Hp}{h h' : Heap}{a C dx:Addr}{fs fs' : List (Str×V)}
theorem CK(hok:lq P w H h)(e:H a=some (.ins C dx fs)):∃ mA,E3 h a dx C mA/\(∀ f,EM (fs.lookup f) (mA f))/\PySem.Within mA (fs.map (·.1))/\fs.length<=1000/\H dx=some (.own a):=by
 obtain⟨d,z,ne,ob,mA,n,r,q⟩:=(show bu P w H h a (.ins C dx fs) from hok a _ e)
 exact⟨mA,⟨ob,n,ne⟩,r,q,z,d⟩
end
structure Kq(K:bw)(C:Addr):Prop where
 pg:PySem.W.plainGet K C Str.empty=true
 hd:PySem.W.hasDictIn K C=true
 po:PySem.W.plainOver K C=true
 sa:PySem.W.findIn K (.ref C) "__setattr__"=some (some (.builtin "object.__setattr__"))
theorem Kq.get{K:bw}{C:Addr}(c:Kq K C)(f:Str):PySem.W.plainGet K C f=true:=c.pg
section
variable {X:Cx}{pq:aQ}{σ:St}{H:Hp}{s:Shared}{A:Around}{E:fD}{Q:fD}{c:Value}{b:Bool}
inductive l7(K:bw)(H:Hp):V->Value->Prop where
 | eV:l7 K H .eV (.type "NoneType")
 | bl (x:Bool):l7 K H (.bl x) (.type "bool")
 | int (i:Int):l7 K H (.int i) (.type "int")
 | str (x:Str):l7 K H (.str x) (.type "str")
 | Gz (x:UInt64):l7 K H (.Gz x) (.type "float")
 | lst {a:Addr} {xs:List V} (e:H a=some (.lst xs)):l7 K H (.ref a) (.type "list")
 | m9 {a:Addr} {o:Obj} {xs:List V} (e:H a=some (.m9 o (.lst xs))):l7 K H (.ref a) (.type "list")
 | tup {a:Addr} {xs:List V} (e:H a=some (.tup xs)):l7 K H (.ref a) (.type "tuple")
 | dK {a:Addr} {kvs:List (Key×V)} (e:H a=some (.dK kvs)):l7 K H (.ref a) (.type "dict")
 | dT {a:Addr} {kvs:List (List Key×V)} (e:H a=some (.dT kvs)):l7 K H (.ref a) (.type "dict")
 | ins {a C dx:Addr} {fs:List (Str×V)} (e:H a=some (.ins C dx fs)) (cl:Kq K C) (ha:PySem.W.findIn K (.ref C) "__class__"=some (some (.builtin "object.__class__")))
  (hn:PySem.W.specialIn K (.builtin "object.__class__") "__get__"=some (some (.builtin "getset_descriptor.__get__"))) (htk:PySem.W.takesIn K (.builtin "object.__class__")=some true)
  (hm:PySem.W.mroIn K C (.type "object")=some true):l7 K H (.ref a) (.ref C)
theorem yS{x:V}{u t:Value}(I:Inv X pq σ H s)(rx:RelV x u)(ty:l7 X.K H x t)(e:PySem.W.kitOne X.K t c=some b)(h:∀ tk,Q (.bool b) { s with toks:=tk}):
 wpAny (model X.prog X.w) A (call (.builtin "isinstance") [u,c]) Q E s:=by
 cases ty with
 | eV=>cases(show u=Value.none from rx);exact PySem.W.kia_one PySem.W.kitx_none I.qS True.intro e (fun z=>nomatch z) h
 | bl y=>cases(show u=Value.bool y from rx);exact PySem.W.kia_one PySem.W.kitx_bool I.qS True.intro e (fun z=>nomatch z) h
 | int i=>obtain⟨t,q⟩:=(show ∃ t,u=Value.int i t from rx);cases q;exact PySem.W.kia_one PySem.W.kitx_int I.qS True.intro e (fun z=>nomatch z) h
 | str y=>obtain⟨t,q⟩:=(show ∃ t,u=Value.str y t from rx);cases q;exact PySem.W.kia_one PySem.W.kitx_str I.qS True.intro e (fun z=>nomatch z) h
 | Gz y=>obtain⟨t,q⟩:=(show ∃ t,u=Value.float y t from rx);cases q;exact PySem.W.kia_one PySem.W.kitx_float I.qS True.intro e (fun z=>nomatch z) h
 | @lst a xs ea =>
   cases(show u=Value.ref a from rx)
   obtain⟨_,_,n,_,h1⟩:=(show bu X.prog X.w H s.heap a (.lst xs) from I.hok a _ ea)
   exact PySem.W.kia_one PySem.W.kitx_list I.qS ⟨_,h1,rfl⟩ e (fun z=>nomatch z) h
 | @m9 a ob xs ea =>
   cases(show u=Value.ref a from rx)
   obtain⟨_,_,_,n,_,h1⟩:=(show bu X.prog X.w H s.heap a (.m9 ob (.lst xs)) from I.hok a _ ea)
   exact PySem.W.kia_one PySem.W.kitx_list I.qS ⟨_,h1,rfl⟩ e (fun z=>nomatch z) h
 | @tup a xs ea =>
   cases(show u=Value.ref a from rx)
   obtain⟨_,_,_,p⟩:=(show bu X.prog X.w H s.heap a (.tup xs) from I.hok a _ ea)
   obtain⟨o,h1,h2,_⟩:=p;exact PySem.W.kia_one PySem.W.kitx_tuple I.qS ⟨o,h1,h2⟩ e (fun z=>nomatch z) h
 | @dK a kvs ea =>
   cases(show u=Value.ref a from rx)
   obtain⟨_,_,vs,_,p⟩:=(show bu X.prog X.w H s.heap a (.dK kvs) from I.hok a _ ea)
   obtain⟨o,es,ep,h1,h2,_⟩:=p;exact PySem.W.kia_one PySem.W.kitx_dict I.qS ⟨o,h1,h2.1⟩ e (fun z=>nomatch z) h
 | @dT a kvs ea =>
   cases(show u=Value.ref a from rx)
   obtain⟨_,_,xs,_,o,es,ep,h1,h2,_⟩:=(show bu X.prog X.w H s.heap a (.dT kvs) from I.hok a _ ea)
   exact PySem.W.kia_one PySem.W.kitx_dict I.qS ⟨o,h1,h2.1⟩ e (fun z=>nomatch z) h
 | @ins a C dx fs ea cl ha hn htk hm =>
   cases(show u=Value.ref a from rx)
   obtain⟨mA,O,_⟩:=CK I.hok ea;obtain⟨od,J,_⟩:=O.look;exact PySem.W.kia_one (PySem.W.kitx_own (cl.get _) cl.hd ha hn htk hm) I.qS J e (fun z=>nomatch z) h
end
structure eT(k:Nat)(A:Around):Prop where
 hd:A.handled=none
 dp:A.depth+3*k+5<recursionLimit
 un:A.units+16*k+200<cLine
theorem eT.mono{j k:Nat}{A:Around}(r:eT k A)(h:j<=k):eT j A:=⟨r.hd,by have:=r.dp;lia,by have:=r.un;lia⟩
theorem eT.deeper{k:Nat}{A:Around}(r:eT (k+1) A)(env:Env):eT k (A.deeper env) :=
 ⟨r.hd,by have:=r.dp;show A.depth+1+3*k+5<_;lia,by have:=r.un;show A.units+3+16*k+200<_;lia⟩
theorem eT.in1{k:Nat}{A:Around}(r:eT (k+1) A):eT k A.in1 :=
 ⟨r.hd,by have:=r.dp;show A.depth+3*k+5<_;lia,by have:=r.un;show A.units+1+16*k+200<_;lia⟩
theorem eT.depth{k:Nat}{A:Around}(r:eT k A):A.depth<recursionLimit:=by have:=r.dp;lia
theorem eT.units{k:Nat}{A:Around}(r:eT k A):A.units+64<cLine:=by have:=r.un;lia
def Ks:TA:=fun _ H Q=>Q [] H
def Hs(ta:TE)(tr:TA):TA:=fun σ H Q=>ta σ H fun x H1=>tr σ H1 fun xs H2=>Q (x::xs) H2
section
variable {X:Cx}{e:Expr}{es:List Expr}{te:TE}{t:TA}{pos:Pos}
theorem ae:PA X [] Ks:=fun _ _ _ _ H Q I h=>Calls.spliced_nil ⟨[],H,I,.nil,h⟩
theorem aa(ha:PE X e te)(hr:PA X es t)(hs:starEach (e::es) X.env=(false,eval e X.env)::starEach es X.env:=by rfl):PA X (e::es) (Hs te t):=by
 intro pos pq s σ H Q I h;rw[hs];show wpAny _ _ (spliced ((false,eval e X.env)::backTo pos (starEach es X.env))) _ _ s;refine Calls.spliced_cons (dP (ha pq s σ H _ I h) fun u s1 ⟨x,H1,I1,r1,q1⟩=>?_)
 exact dP (hr pos pq s1 σ H1 _ I1 q1) fun us s2 ⟨xs,H2,I2,r2,q2⟩=>⟨x::xs,H2,I2,.cons r1 r2,q2⟩
def Ku(t:TA):TE:=fun σ H Q=>t σ H fun xs H1=>xs.length<=sizeLine/\∀ p,H1 p=none->Q (.ref p) (upd H1 p (.tup xs))
def Kv(t:TA):TE:=fun σ H Q=>t σ H fun xs H1=>xs.length<=sizeLine/\∀ p,H1 p=none->Q (.ref p) (upd H1 p (.lst xs))
theorem eg{x1}(h:PA X es t):PE X (.Tuple es x1 pos) (Ku t):=by
 intro pq s σ H Q I hq;refine wpAny_Tuple_spliced (dP (h pos pq s σ H _ I hq) fun us s1 ⟨xs,H1,I1,r,z,q⟩=>⟨by rw[<-r.length];exact z,?_⟩)
 have hf:H1 s1.heap.objs.size=none:=I1.hok.fresh (Nat.le_refl _);refine⟨.ref s1.heap.objs.size,upd H1 s1.heap.objs.size (.tup xs),I1.laid (t':=s1.toks) (fun b u e=>Heap.get?_push_of_some _ e) (Nat.le_refl _) ?_,rfl,q _ hf⟩
 exact⟨z,us,r,⟨_,Heap.get?_push_size _ rfl,rfl,_,rfl⟩⟩
theorem dQ(h:PA X es t):PE X (.List es pos) (Kv t):=by
 intro pq s σ H Q I hq;refine wpAny_List_spliced (dP (h pos pq s σ H _ I hq) fun us s1 ⟨xs,H1,I1,r,z,q⟩=>⟨by rw[<-r.length];exact z,?_⟩)
 have hf:H1 s1.heap.objs.size=none:=I1.hok.fresh (Nat.le_refl _);refine⟨.ref s1.heap.objs.size,upd H1 s1.heap.objs.size (.lst xs),I1.laid (t':=s1.toks) (fun b u e=>Heap.get?_push_of_some _ e) (Nat.le_refl _) ?_,rfl,q _ hf⟩
 exact⟨z,us,0,r,Heap.get?_push_size _ rfl⟩
end
abbrev Sp:=List V->Hp->VK->XK->Prop
abbrev Ao:=List Env->Hp->Shared->XK->Value->Shared->Prop
structure CL(P:Program)(w:World)(K:bw)(mg:jk)(base:Heap)(A:Around)(outer:List Env)(s:Shared)(H:Hp):Prop where
 frames:A.frames=some outer
 mod:Mod K mg base
 bs:∀ b o,base.get? b=some o->s.heap.get? b=some o/\H b=none
 Cq:base.objs.size<=s.heap.objs.size
 funs:s.heap.FunFrames base outer
 DY:∀ b∈frs outer,H b=none
 hok:lq P w H s.heap
 bare:AllBare s.gens
def CE(outer:List Env)(P:Program)(w:World)(H:Hp)(s:Shared)(Q:VK)(u:Value)(s' : Shared):Prop :=
 ∃ v H',s'.os=s.os/\AllBare s'.gens/\Un (frs outer) [] H H' s.heap s'.heap/\lq P w H' s'.heap/\RelV v u/\Q v H'
def CR(CX:Ao)(outer:List Env)(P:Program)(w:World)(H:Hp)(s:Shared)(Q:VK)(E:XK)(r:Result)(s' : Shared):Prop :=
 match r with
 | .ok (.ret u)=>CE outer P w H s Q u s'
 | .ok _=>False
 | .error e=>CX outer H s E e s'
structure jq(P:Program)(w:World)(K:bw)(mg:jk)(base:Heap)(CX:Ao)(k:Nat)(f:Addr)(fd:FuncData)(ps:List Str)(sp:Sp):Prop where
 len:∀ vs H Q E,sp vs H Q E->vs.length=ps.length
 run:∀(A:Around) (outer:List Env) (s:Shared) (H:Hp) (args:Args) (us:List Value) (vs:List V) (Q:VK) (E:XK),eT k A->CL P w K mg base A outer s H->BindsTo s fd args (ps.zip us)->Vals vs us->sp vs H Q E->
  codeAny (model P w) A (.call (.ref f) args) (CR CX outer P w H s Q E) s
section
variable {X:Cx}{pq:aQ}{σ:St}{H:Hp}{s s' : Shared}
theorem Inv.Kw(I:Inv X pq σ H s):CL X.prog X.w X.K X.mg X.base X.A X.stack s H :=
 ⟨I.ok.frames,I.ok.mod,I.bs,Nat.le_trans I.ok.Cq I.sz,I.stack,I.nN,I.hok,I.bare⟩
theorem Inv.after{Q:VK}{u:Value}(I:Inv X pq σ H s)(h:CE X.stack X.prog X.w H s Q u s'):EP X pq σ Q u s':=by
 obtain⟨v,H',os,bare,un,hok,r,q⟩:=h;obtain⟨hh,g,d,t,os'⟩:=s';obtain rfl:os' = s.os:=os;exact⟨v,H',I.call (h':=hh) (g':=g) (d':=d) (t':=t) (ch:=[]) un hok bare (fun b z=>absurd z (by simp)),r,q⟩
end
def Ea(sp:Sp)(Eb:List V)(E:XK)(t:TA):TE:=fun σ H Q=>t σ H fun vs H1=>sp (vs++Eb) H1 Q E
def Binds(K:bw)(fd:FuncData)(ps:List Str)(ds:List Value):Prop :=
 ∀(s:Shared) (us:List Value),K.In s.heap->(us++ds).length=ps.length->BindsTo s fd ⟨us,[]⟩ (ps.zip (us++ds))
theorem Binds.all{K:bw}{fd:FuncData}{ps:List Str}(h:∀ us:List Value,us.length=ps.length->bindArgs fd ⟨us,[]⟩=pure (ps.zip us)):Binds K fd ps []:=fun s us _ hl=>by
 rw[List.append_nil]at hl ⊢;exact .of_eq (h us hl)
def Passes(CX:Ao)(X:Cx)(E:XK):Prop:=∀(pq:aQ) (σ:St) (H:Hp) (s:Shared) (e:Value) (s' : Shared),Inv X pq σ H s->CX X.stack H s E e s'->X.xe e s'
section
variable {X:Cx}{CX:Ao}{k:Nat}{f C:Addr}{fd:FuncData}{ps:List Str}{sp:Sp}{Eb:List V}{ds:List Value}{E:XK}{x m:Str}{p pos apos:Pos}{e o:Expr}{es:List Expr}{ta:TE}{t:TA}
theorem E4{pq:aQ}{σ:St}{H:Hp}{s:Shared}{Q:VK}{us:List Value}{vs:List V}(F:jq X.prog X.w X.K X.mg X.base CX k f fd ps sp)(hr:eT k X.A)(hb:Binds X.K fd ps ds)(hd:Vals Eb ds)(hx:Passes CX X E)
 (I:Inv X pq σ H s) (r:Vals vs us) (h:sp (vs++Eb) H Q E):wpAny (model X.prog X.w) X.A (call (.ref f) us) (EP X pq σ Q) X.xe s:=by
 have r2:Vals (vs++Eb) (us++ds):=r.append hd;have hl:(us++ds).length=ps.length:=by rw[<-r2.length];exact F.len _ _ _ _ h
 refine wpAny_call (codeAny_mono (F.run X.A X.stack s H ⟨us,[]⟩ (us++ds) (vs++Eb) Q E hr I.Kw (hb s us I.qS hl) r2 h) fun r s' hq=>?_)
 cases r with
 | error e=>exact hx pq σ H s e s' I hq
 | ok fl =>
   cases fl with
   | ret u=>exact I.after hq
   | next=>exact False.elim hq
   | brk=>exact False.elim hq
   | cont=>exact False.elim hq
theorem CM(F:jq X.prog X.w X.K X.mg X.base CX k f fd ps sp)(hr:eT k X.A)(hg:Gl X x)(hm:X.mg x=some (.ref f))(hk:PySem.W.keepIn X.K (.ref f)=true)(hb:Binds X.K fd ps ds)(hd:Vals Eb ds)(hx:Passes CX X E)
 (ha:PA X (e::es) t) (hdb:(x==("__debug__":Str))=false:=by decide) (he:starEach (e::es) X.env=(false,eval e X.env)::starEach es X.env:=by rfl) (hpl:(backTo pos (starEach es X.env)).any (·.1)=false:=by rfl) :
 PE X (.Call (.Name x p) (e::es) [] pos) (Ea sp Eb E t):=by
 intro pq s σ H Q I h;refine wpAny_Call_Name_kw (nQ I hg hm ?_ hdb);refine PySem.W.callWith_K (h₀:=X.base) I.ok.mod.Jt hk (dP (ha pos pq s σ H _ I h) fun us s1 ⟨vs,H1,I1,r,q⟩=>⟨I1.qS,?_⟩) he hpl
 exact E4 F hr hb hd hx I1 r q
end
structure aA(N P:List Str)(sc:Scope):Prop where
 kind:sc.kind = .function
 co:sc.isCoroutine=false
 gen:sc.isGenerator=false
 nd:N.Nodup
 pre:N.take P.length=P
 par:∀ x∈P,sc.names.lookup x=some .local\/sc.names.lookup x=some .cell
 E5:∀ y∈sc.names,y.2≠.free
theorem qV{kindOf:Str->Option NameKind}{x:Str}:∀{binds:List (Str×Value)} {m:jk},(∀ v,(x,v)∉binds)->bindL kindOf binds m x=m x
 | [],_,_=>rfl
 | (n,v)::r,m,h=>by
   unfold bindL;rw[qV fun w hw=>h w (qi _ hw)]
   split
   ·have:x≠n:=by rintro rfl;exact h v List.mem_cons_self
    simp[this]
   ·rfl
theorem qW{kindOf:Str->Option NameKind}{x:Str}:∀{binds:List (Str×Value)} {m:jk},(∀ v,(x,v)∉binds)->bindC kindOf binds m x=m x
 | [],_,_=>rfl
 | (n,v)::r,m,h=>by
   unfold bindC;rw[qW fun w hw=>h w (qi _ hw)]
   split
   ·rfl
   ·have:x≠n:=by rintro rfl;exact h v List.mem_cons_self
    simp[this]
theorem qX{kindOf:Str->Option NameKind}{x:Str}{v:Value}:∀{P:List Str} {vs:List Value} {i:Nat} {m:jk},P.Nodup->P[i]?=some x->vs[i]?=some v->kindOf x=some .local->
 bindL kindOf (P.zip vs) m x=some v
 | [],_,_,_,_,h,_,_=>by simp at h
 | _::_,[],_,_,_,_,h,_=>by simp at h
 | p::P,w::vs,0,m,nd,h1,h2,hk=>by
   simp at h1 h2;subst h1;subst h2;show bindL kindOf ((p,w)::P.zip vs) m p=_;unfold bindL;rw[qV fun v hv=>(List.nodup_cons.mp nd).1 (List.of_mem_zip hv).1,if_pos hk]
   simp
 | p::P,w::vs,i+1,m,nd,h1,h2,hk=>by
   show bindL kindOf ((p,w)::P.zip vs) m x=_;unfold bindL;exact qX (i:=i) (List.nodup_cons.mp nd).2 (by simpa using h1) (by simpa using h2) hk
theorem qY{kindOf:Str->Option NameKind}{x:Str}{v:Value}:∀{P:List Str} {vs:List Value} {i:Nat} {m:jk},P.Nodup->P[i]?=some x->vs[i]?=some v->kindOf x≠some .local->
 bindC kindOf (P.zip vs) m x=some v
 | [],_,_,_,_,h,_,_=>by simp at h
 | _::_,[],_,_,_,_,h,_=>by simp at h
 | p::P,w::vs,0,m,nd,h1,h2,hk=>by
   simp at h1 h2;subst h1;subst h2;show bindC kindOf ((p,w)::P.zip vs) m p=_;unfold bindC;rw[qW fun v hv=>(List.nodup_cons.mp nd).1 (List.of_mem_zip hv).1,if_neg hk]
   simp
 | p::P,w::vs,i+1,m,nd,h1,h2,hk=>by
   show bindC kindOf ((p,w)::P.zip vs) m x=_;unfold bindC;exact qY (i:=i) (List.nodup_cons.mp nd).2 (by simpa using h1) (by simpa using h2) hk
def start(N:List Str)(vs:List V):St:=vs.map some++List.replicate (N.length-vs.length) none
def nk(CX:Ao)(P:Program)(w:World)(K:bw)(mg:jk)(base:Heap)(N:List Str)(qual:Str)(scope:Scope)(f:Addr)(cd:Value)(A:Around)(outer:List Env)(s:Shared)(H:Hp)(E:XK):Cx where
 prog:=P
 w:=w
 K:=K
 mg:=mg
 base:=base
 A:=A.deeper (envOfC qual scope s.heap.objs.size f cd)
 N:=N
 s₀:=s
 H₀:=H
 env:=envOfC qual scope s.heap.objs.size f cd
 outer:=outer
 stack:=envOfC qual scope s.heap.objs.size f cd::outer
 ex:=[]
 calm:=true
 fn:=fun _=>true
 pn:=[]
 xe:=fun e s'=>wpAny (model P w) (A.deeper (envOfC qual scope s.heap.objs.size f cd)) (leaving (envOfC qual scope s.heap.objs.size f cd) e) (fun _ s''=>CX outer H s E e s'') (fun e' s''=>CX outer H s E e' s'') s'
theorem uh{sc:Scope}{n:Nat}{x:Str}(h:sc.names.lookup x=some .cell):∃ c,(cellsFrom n sc.names []).lookup x=some c:=by
 have q:=PySem.W.cellsFrom_some sc.names n [] (.inl h);exact Option.isSome_iff_exists.mp q
theorem yT{CX:Ao}{P:Program}{w:World}{K:bw}{mg:jk}{base:Heap}{N ps:List Str}{qual:Str}{scope:Scope}{f:Addr}{cd:Value}{A:Around}{outer:List Env}{s s1:Shared}{H:Hp}{E:XK}{us:List Value}{vs:List V}
 (S:aA N ps scope) (hd:A.handled=none) (e0:CL P w K mg base A outer s H) (hl:vs.length=ps.length) (r:Vals vs us)
 (x:InCallC s s.heap.objs.size (bindL (envOfC qual scope s.heap.objs.size f cd).kindOf (ps.zip us) fun _=>none) (cellsFrom (s.heap.objs.size+1) scope.names []) (bindC (envOfC qual scope s.heap.objs.size f cd).kindOf (ps.zip us) fun _=>none) s1) :
 Inv (nk CX P w K mg base N qual scope f cd A outer s H E) [] (start N vs) H s1:=by
 have hpl:ps.length<=N.length:=by have:=congrArg List.length S.pre;rw[List.length_take]at this;lia
 obtain⟨h1,tk,rfl,hk⟩:=x.done;have Kx:∀ b:Addr,b∉(nk CX P w K mg base N qual scope f cd A outer s H E).ex:=fun b z=>absurd (show b∈([]:List Addr) from z) (by simp)
 refine⟨⟨e0.mod,S.kind,rfl,rfl,Nat.le_refl _,fun y z c h1 h2=>?_,fun y hy=>?_,fun y c _ h=>?_,fun _=>hd,Around.frames_deeper e0.frames,.inr ⟨rfl,rfl⟩,fun b z=>absurd z (Kx b),e0.bs,e0.Cq,fun b _ _=>Kx b,fun b z=>absurd z (Kx b),e0.funs,e0.DY⟩,
  rfl,e0.bare,Un.kept hk,⟨_,x.toInCall.ns,fun i y v h1 h2 h3=>?_⟩,fun y c h=>⟨_,x.cell y c h⟩,e0.hok.fresh (Nat.le_refl _),fun y c h=>?_,fun p hp=>absurd (show p∈([]:aQ) from hp) (by simp),e0.hok.kept hk,?_⟩
 ·exact name_of_addr x.apart (PySem.mem_of_lookup h1) (PySem.mem_of_lookup h2)
 ·have hy:scope.names.lookup y=some .cell\/scope.names.lookup y=some .free:=hy;rcases hy with hy|hy
  ·exact uh hy
  ·exact absurd rfl (S.E5 _ (PySem.mem_of_lookup hy))
 ·exact Nat.le_of_lt (x.above y c (PySem.mem_of_lookup h))
 ·have hi:i<vs.length:=by
   unfold start at h2
   by_cases hi:i<vs.length
   ·exact hi
   ·rw[List.getElem?_append_right (by simpa using hi)]at h2
    rw[List.getElem?_replicate]at h2
    split at h2<;>cases h2
  have ha:vs[i]?=some v:=by
   unfold start at h2;rw[List.getElem?_append_left (by simpa using hi),List.getElem?_map]at h2
   cases e:vs[i]? with
   | none=>rw[e]at h2;cases h2
   | some a=>rw[e]at h2;cases h2;rfl
  obtain⟨u,hu,rv⟩:=r.get ha;have hp:ps[i]?=some y:=by
   rw[<-S.pre,List.getElem?_take_of_lt (by lia)];exact h1
  have LY:ps.Nodup:=by rw[<-S.pre];exact S.nd.sublist (List.take_sublist _ _)
  refine⟨u,rv,?_⟩;rcases S.par y (vU hp) with k|k
  ·exact .inl ⟨k,qX LY hp hu k⟩
  ·obtain⟨c,e⟩:=uh (n:=s.heap.objs.size+1) k;refine .inr ⟨.inl k,c,e,?_⟩;have q:=x.cell y c e;rw[qY LY hp hu (by show scope.names.lookup y≠_;rw[k];decide)]at q
   exact q
 ·exact e0.hok.fresh (Nat.le_of_lt (x.above y c (PySem.mem_of_lookup h)))
 ·unfold start;show _=N.length;rw[List.length_append,List.length_map,List.length_replicate]
  lia
theorem AL{CX:Ao}{P:Program}{w:World}{K:bw}{mg:jk}{base:Heap}{k:Nat}{f:Addr}{name qual:Str}{params:Arguments}{body:List Stmt}{scope:Scope}{dV kV doc pm cdv ct oc:Value}{an od:Option Addr}
 {osl:Array (Option Value)} {N ps:List Str} {sp:Sp} (lk:K.lookup f=some ⟨oc,od,.func (PySem.W.fnOf name qual params body scope dV kV doc pm an cdv ct),osl⟩) (hcd:PySem.W.codeIn K cdv qual=true) (S:aA N ps scope)
 (len:∀ vs H Q E,sp vs H Q E->vs.length=ps.length)
 (hbody:∀(A:Around) (outer:List Env) (s:Shared) (H:Hp) (vs:List V) (Q:VK) (E:XK),eT k (A.deeper (envOfC qual scope s.heap.objs.size f cdv))->sp vs H Q E->
  ∃ t,qg (nk CX P w K mg base N qual scope f cdv A outer s H E) body t/\t { nx:=fun _ H'=>Q .eV H',rt:=Q} (start N vs) H) :
 jq P w K mg base CX (k+1) f (PySem.W.fnOf name qual params body scope dV kV doc pm an cdv ct) ps sp:=by
 refine⟨len,fun A outer s H args us vs Q E hr e0 hb r vP=>?_⟩
 have hl:=len _ _ _ _ vP;have KX:K.In s.heap:=e0.mod.Jt.keeps fun b o e=>(e0.bs b o e).1
 have lim:s.heap.NoLimit:=e0.mod.nolimit.keeps fun b o e=>(e0.bs b o e).1
 have hkind:∀ y∈ps.zip us,scope.names.lookup y.1=some .local\/(scope.names.lookup y.1=some .cell/\((cellsFrom (s.heap.objs.size+1) scope.names []).lookup y.1).isSome=true):=fun⟨n,v⟩ hy=>by
  rcases S.par n (List.of_mem_zip hy).1 with q|q
  ·exact .inl q
  ·exact .inr ⟨q,PySem.W.cellsFrom_some _ _ _ (.inl q)⟩
 refine codeAny_call_function hr.depth (KX _ _ lk) rfl S.co S.gen rfl (PySem.W.codeRec_of KX hcd) (hb _ _ _ _ ?_);refine wpAny_newFunctionEnv_cells S.kind hkind fun env he s1 x=>?_
 subst he;refine⟨lim.keeps x.toInCall.keep,codeAny_func ?_⟩;obtain⟨t,ht,hq⟩:=hbody A outer s H vs Q E (hr.deeper _) vP;have I:Inv (nk CX P w K mg base N qual scope f cdv A outer s H E) [] (start N vs) H s1:=yT S hr.hd e0 hl r x;refine wpAny_mono (ht [] s1 (start N vs) H _ I hq) (fun fl s' hs=>?_) fun e s' hs=>hs
 have fin:∀{σ' : St} {H' : Hp} {v:V} {u:Value},Inv (nk CX P w K mg base N qual scope f cdv A outer s H E) [] σ' H' s'->RelV v u->Q v H'->CE outer P w H s Q u s' :=
  fun {σ' H' v u} J rv q=>⟨v,H',J.os,J.bare,J.base,J.hok,rv,q⟩
 cases fl with
 | ret u =>
   obtain⟨v,σ',H',J,rv,q⟩:=hs;exact fin J rv q
 | next =>
   obtain⟨σ',H',J,q⟩:=hs;exact fin (v:=V.eV) (u:=Value.none) J rfl q
 | brk =>
   obtain⟨_,_,_,q⟩:=hs;exact False.elim q
 | cont =>
   obtain⟨_,_,_,q⟩:=hs;exact False.elim q
section
variable {X:Cx}{x:Str}{p pos:Pos}{e:Expr}{es:List Expr}{t:TA}{id T:String}{r:List V->Hp->VK->Prop}
def Ky(r:List V->Hp->VK->Prop)(t:TA):TE:=fun σ H Q=>t σ H fun vs H1=>r vs H1 Q
theorem bE(hc:eU X (.builtin id) r)(hg:Gl X x)(hm:X.mg x=none)(hv:bootBuiltins x=some (.builtin id))(ha:PA X (e::es) t)(hn:x≠"__name__":=by decide)(hdb:(x==("__debug__":Str))=false:=by decide)
 (he:starEach (e::es) X.env=(false,eval e X.env)::starEach es X.env:=by rfl) (hpl:(backTo pos (starEach es X.env)).any (·.1)=false:=by rfl):PE X (.Call (.Name x p) (e::es) [] pos) (Ky r t):=by
 intro pq s σ H Q I h;refine wpAny_Call_Name_kw (jn I hg hm hv ?_ hn hdb);exact PyProof.Rows.callWith_builtin1 (dP (ha pos pq s σ H _ I h) fun us s1 ⟨vs,H1,I1,r1,q1⟩=>hc pq s1 σ H1 vs us Q I1 r1 q1) he hpl
theorem cF(hc:eU X (.type T) r)(hg:Gl X x)(hm:X.mg x=none)(hv:bootBuiltins x=some (.type T))(ha:PA X (e::es) t)(hn:x≠"__name__":=by decide)(hdb:(x==("__debug__":Str))=false:=by decide)
 (he:starEach (e::es) X.env=(false,eval e X.env)::starEach es X.env:=by rfl) (hpl:(backTo pos (starEach es X.env)).any (·.1)=false:=by rfl):PE X (.Call (.Name x p) (e::es) [] pos) (Ky r t):=by
 intro pq s σ H Q I h;refine wpAny_Call_Name_kw (jn I hg hm hv ?_ hn hdb);exact PyProof.Rows.callWith_type1 (dP (ha pos pq s σ H _ I h) fun us s1 ⟨vs,H1,I1,r1,q1⟩=>hc pq s1 σ H1 vs us Q I1 r1 q1) he hpl
end
end L2
namespace HT
open PySem PyProof.Rows
section
variable {prog:Program}{w:World}{A:Around}{E:fD}{s:Shared}
theorem CN{t b:Addr}{vs ws:List Value}{Q:fD}(ht:IsTup s.heap t vs.toArray)(hb:IsTup s.heap b ws.toArray)(hv:vs≠[])
 (h1:ws=[]->Q (.ref t) s) (h2:ws≠[]->Q (.ref s.heap.objs.size) { s with heap:=s.heap.push { cls:=.type "tuple",data:=.seq (vs++ws).toArray}})
 (hsz:vs.length+ws.length<=sizeLine):wpAny (model prog w) A (binaryOp .Add (.ref t) (.ref b)) Q E s:=by
 obtain⟨⟨cls,dd,data,sl⟩,ho,hc,n,hd⟩:=id ht;obtain⟨⟨Ht,dd2,data2,sl2⟩,ho2,hc2,n2,hd2⟩:=id hb;simp only at hc hd hc2 hd2;subst hc hd hc2 hd2;have e:vs.toArray++ws.toArray=(vs++ws).toArray:=by simp
 by_cases hw:ws=[]
 ·exact concat_meets ⟨_,ho,rfl⟩ ⟨_,ho2,rfl⟩ noFill_tuple_add seq_tuple_add PySem.F.slot_tuple_add PySem.F.entry_tuple_add (PySem.F.args_tuple_add_2 _ _)
   (tuple_addW1 t b vs.toArray ws.toArray n n2 dd dd2 sl sl2 (by simpa using hv) (by simp[hw])) ⟨ho,ho2,h1 hw⟩
 ·refine concat_meets ⟨_,ho,rfl⟩ ⟨_,ho2,rfl⟩ noFill_tuple_add seq_tuple_add PySem.F.slot_tuple_add PySem.F.entry_tuple_add (PySem.F.args_tuple_add_2 _ _)
   (tuple_addW2 t b vs.toArray ws.toArray n n2 dd dd2 sl sl2 (by simpa using hv) (by simpa using hw) (by rw[List.size_toArray,List.size_toArray];exact hsz)) ⟨ho,ho2,?_⟩
  rw[e];exact h2 hw
def nS(n d:Nat):Option Int->Nat
 | none=>d
 | some v=>if v<0 then(v+(n:Int)).toNat else min v.toNat n
end
end HT
namespace L2
open PySem PySem.Spec PyProof.Rows
abbrev TO:=St->Hp->(Option Int->Hp->Prop)->Prop
def PO(X:Cx)(e:Option Expr)(t:TO):Prop :=
 ∀(pq:aQ) (s:Shared) (σ:St) (H:Hp) (Q:Option Int->Hp->Prop),Inv X pq σ H s->t σ H Q->
  wpAny (model X.prog X.w) X.A (evalPart e X.env) (fun u s'=>∃ o H',Inv X pq σ H' s'/\IsPart u o/\Q o H') X.xe s
def CO:TO:=fun _ H Q=>Q none H
def Hu(t:TE):TO:=fun σ H Q=>t σ H fun x H1=>∃ i,x = .int i/\Q (some i) H1
theorem intsAre_of{ns:List Int}:∀{us:List Value},Vals (ns.map V.int) us->IntsAre us ns:=by
 induction ns with
 | nil=>intro us r;rw[List.map_nil]at r;cases r;exact .nil
 | cons n ns ih =>
   intro us r;rw[List.map_cons]at r;cases r with
   | cons r1 r2 =>
     obtain⟨t,e⟩:=r1;subst e;exact .cons n t (ih r2)
section
variable {X:Cx}{e:Expr}{te:TE}{lo hi:Option Expr}{tl th:TO}{pos p2:Pos}
theorem xT:PO X none CO:=by
 intro pq s σ H Q I h;rw[evalPart_none];exact wpAny_pure ⟨none,H,I,.none,h⟩
theorem xU(h:PE X e te):PO X (some e) (Hu te):=by
 intro pq s σ H Q I hw;rw[evalPart_some];refine dP (h pq s σ H _ I hw) fun u s1 ⟨x,H1,I1,r1,q1⟩=>?_
 obtain⟨i,rfl,q⟩:=q1;obtain⟨t,rfl⟩:=r1;exact⟨some i,H1,I1,.int i t,q⟩
def Kz(X:Cx)(r:V->Option Int->Option Int->Hp->VK->Prop):Prop :=
 ∀(pq:aQ) (s:Shared) (σ:St) (H:Hp) (x:V) (v vl vu:Value) (lo hi:Option Int) (sl:Addr) (Q:VK),Inv X pq σ H s->RelV x v->s.heap.IsSliceOf sl vl vu .none->IsPart vl lo->IsPart vu hi->r x lo hi H Q->
  ∃ T id,typeLookup (.type T) "__getitem__"=pure (some (.builtin id))/\s.TypeIs v T/\wpAny (model X.prog X.w) X.A (getItem v (.ref sl)) (EP X pq σ Q) X.xe s
def NY(r:V->Option Int->Option Int->Hp->VK->Prop)(te:TE)(tl th:TO):TE:=fun σ H Q=>te σ H fun x H1=>tl σ H1 fun l H2=>th σ H2 fun u H3=>r x l u H3 Q
theorem um{r:V->Option Int->Option Int->Hp->VK->Prop}(hr:Kz X r)(he:PE X e te)(hl:PO X lo tl)(hu:PO X hi th):PE X (.Subscript e (.Slice lo hi none p2) pos) (NY r te tl th):=by
 intro pq s σ H Q I h;refine Subscript_ (dP (he pq s σ H _ I h) fun v s1 ⟨x,H1,I1,r1,q1⟩=>?_)
 refine wpAny_Slice (dP (hl pq s1 σ H1 _ I1 q1) fun vl s2 ⟨l,H2,I2,pl,q2⟩=>dP (hu pq s2 σ H2 _ I2 q2) fun vu s3 ⟨u,H3,I3,pu,q3⟩=>?_)
 rw[evalPart_none];refine wpAny_pure ?_;have I4:Inv X pq σ H3 { s3 with heap:=s3.heap.push { cls:=.type "slice",data:=.fields #[vl,vu,.none]}}:=I3.kept (t':=s3.toks) fun b ob q=>Heap.get?_push_of_some _ q
 obtain⟨T,id,hT,ht,hg⟩:=hr pq { s3 with heap:=s3.heap.push { cls:=.type "slice",data:=.fields #[vl,vu,.none]}} σ H3 x v vl vu l u s3.heap.objs.size Q I4 r1 (Heap.IsSliceOf.new ..) pl pu q3
 show wpAny (model X.prog X.w) X.A (subscriptTail e (.Slice lo hi none p2) v (.ref s3.heap.objs.size)) (EP X pq σ Q) X.xe { s3 with heap:=s3.heap.push { cls:=.type "slice",data:=.fields #[vl,vu,.none]}}
 exact tail_any (ops:=[.ref s3.heap.objs.size,v]) ht hT hg (by with_unfolding_all rfl)
def yU(xs:List V)(lo hi:Option Int):List V:=(xs.drop (HT.nS xs.length 0 lo)).take (HT.nS xs.length xs.length hi-HT.nS xs.length 0 lo)
theorem uo(xs:List V)(lo hi:Option Int):(yU xs lo hi).length<=xs.length:=by
 unfold yU;rw[List.length_take,List.length_drop]
 lia
def Hv(K:bw):R2:=fun x y H Q=>∃ a b xs ys,x = .ref a/\y = .ref b/\bB K H a xs/\bB K H b ys/\xs≠[]/\xs.length+ys.length<=sizeLine/\
 (ys=[]->Q (.ref a) H)/\(ys≠[]->∀ p,H p=none->Q (.ref p) (upd H p (.tup (xs++ys))))
theorem Vals.r6{xs:List V}{us:List Value}(r:Vals xs us):us=[]↔xs=[]:=by
 cases r with
 | nil=>simp
 | cons _ _=>simp
theorem CP:jV X (binaryOp .Add) (Hv X.K):=by
 intro pq s σ H x y v u Q I rx ry h;obtain⟨a,b,xs,ys,rfl,rfl,ha,hb,hx,hz,q1,q2⟩:=h;cases rx;cases ry;obtain⟨its,r1,p1,_⟩:=I.tuple ha;obtain⟨its2,r2,p2,_⟩:=I.tuple hb;refine HT.CN p1 p2 (fun z=>hx (r1.r6.mp z)) (fun z=>⟨.ref a,H,I,rfl,q1 (r2.r6.mp z)⟩) (fun z=>?_) (by rw[<-r1.length,<-r2.length];exact hz)
 refine⟨.ref s.heap.objs.size,_,I.laid (t':=s.toks) (o:=.tup (xs++ys)) (fun b ob q=>Heap.get?_push_of_some _ q) (Nat.le_refl _) ?_,rfl,q2 (fun w=>z (r2.r6.mpr w)) _ (I.hok.fresh (Nat.le_refl _))⟩
 exact⟨by rw[List.length_append];exact hz,_,r1.append r2,IsTup.new _ _⟩
end
def CQ(n:Nat)(i:Int):Option Nat:=if 0<=i then(if i<n then some i.toNat else none) else if -(n:Int)<=i then some (i+n).toNat else none
def xV{α:Type}(xs:List α)(i:Int):Option α:=(CQ xs.length i).bind fun j=>xs[j]?
theorem xW{n:Nat}{i:Int}{j:Nat}(h:CQ n i=some j):seqIndex? i n=some j/\j<n/\-(n:Int)<=i/\i<n:=by
 unfold CQ at h
 by_cases h0:0<=i
 ·rw[if_pos h0]at h
  by_cases h1:i<n
  ·rw[if_pos h1]at h;have e:i.toNat=j:=Option.some.inj h;exact⟨by rw[seqIndex_of h0 h1,e],by lia,by lia,h1⟩
  ·rw[if_neg h1]at h;cases h
 ·rw[if_neg h0]at h
  by_cases h1 : -(n:Int)<=i
  ·rw[if_pos h1]at h;have e:(i+n).toNat=j:=Option.some.inj h;exact⟨by rw[seqIndex_neg (by lia) h1,e],by lia,h1,by lia⟩
  ·rw[if_neg h1]at h;cases h
theorem xX{α:Type}{xs:List α}{i:Int}{v:α}(h:xV xs i=some v):∃ j,seqIndex? i xs.length=some j/\xs[j]?=some v/\j<xs.length/\-(xs.length:Int)<=i/\i<xs.length:=by
 unfold xV at h;cases e:CQ xs.length i with
 | none=>rw[e]at h;cases h
 | some j =>
   rw[e]at h;obtain⟨h1,h2,h3,h4⟩:=xW e;exact⟨j,h1,h,h2,h3,h4⟩
theorem ak{α:Type}{xs:List α}{j:Nat}{v:α}(h:xs[j]?=some v):xV xs (j:Int)=some v:=by
 have hj:j<xs.length:=(vM.mp h).1;have e:CQ xs.length (j:Int)=some j:=by
  unfold CQ;rw[if_pos (by lia),if_pos (by lia)];simp
 unfold xV;rw[e];exact h
def xY(b:Expr):Prop:=∀ o i,subscripted b false o i=operate [o,i] (getItem o i)
def GF(X:Cx)(r:R2):Prop :=
 ∀(value slice:Expr) (pq:aQ) (s:Shared) (σ:St) (H:Hp) (x y:V) (v u:Value) (Q:VK),Inv X pq σ H s->RelV x v->RelV y u->r x y H Q->
  subscripted slice false v u=operate [v,u] (getItem v u)->wpAny (model X.prog X.w) X.A (subscriptTail value slice v u) (EP X pq σ Q) X.xe s
def KA(X:Cx)(id:String)(r:V->List V->Hp->VK->Prop):Prop :=
 ∀(pq:aQ) (s:Shared) (σ:St) (H:Hp) (x:V) (xs:List V) (v:Value) (us:List Value) (Q:VK),Inv X pq σ H s->RelV x v->Vals xs us->r x xs H Q->
  wpAny (model X.prog X.w) X.A (call (.builtin id) (v::us)) (EP X pq σ Q) X.xe s
section
variable {X:Cx}{a b:Expr}{ta tb:TE}{pos:Pos}
theorem Hw{r:R2}(hr:GF X r)(ha:PE X a ta)(hb:PE X b tb)(hs:xY b):PE X (.Subscript a b pos) (Hj r ta tb):=by
 intro pq s σ H Q I h;exact Subscript_ (EW ha hb I h fun v u s2 x y H2 I2 rx ry q=>hr a b pq s2 σ H2 x y v u Q I2 rx ry q (hs _ _))
def Hx(K:bw):R2:=fun x y H Q=>∃ p xs i v,x = .ref p/\y = .int i/\aR K H p xs/\xV xs i=some v/\Q v H
def Hy(K:bw):R2:=fun x y H Q=>∃ p xs i v,x = .ref p/\y = .int i/\bB K H p xs/\xV xs i=some v/\Q v H
theorem CS:GF X (Hx X.K):=by
 intro value slice pq s σ H x y v u Q I rx ry h hs;obtain⟨p,xs,i,z,rfl,rfl,hq,he,q⟩:=h;cases rx;obtain⟨t,rfl⟩:=ry;obtain⟨its,r,pl,hz⟩:=I.list hq;obtain⟨j,h1,h2,h3,h4,h5⟩:=xX he;obtain⟨w,ew,rw'⟩:=r.get h2;have hl:=r.length;have hn:=oF;have fin:EP X pq σ Q w s:=⟨z,H,I,rw',q⟩
 by_cases h0:0<=i
 ·have hj:i.toNat=j:=by
   rw[seqIndex_of h0 h5]at h1;exact Option.some.inj h1
  exact item_listR pl.isList h0 (by lia) (by rw[hj];simpa using ew) fin hs
 ·have hj:(i+(its.toArray.size:Int)).toNat=j:=by
   rw[seqIndex_neg (by lia) h4]at h1
   rw[List.size_toArray,<-hl];exact Option.some.inj h1
  exact subscriptTail_builtinR (x:=w) pl.isList.typeIs slot_list_getitem.lookup
   (wpAny_getItem_list_neg (Q:=fun r s'=>r=w/\EP X pq σ Q r s') pl.isList (by lia) (by rw[List.size_toArray]<;>lia) (by lia) (by rw[hj];simpa using ew) ⟨rfl,fin⟩) hs
theorem E6:GF X (Hy X.K):=by
 intro value slice pq s σ H x y v u Q I rx ry h hs;obtain⟨p,xs,i,z,rfl,rfl,hq,he,q⟩:=h;cases rx;obtain⟨t,rfl⟩:=ry;obtain⟨its,r,pl,hz⟩:=I.tuple hq;obtain⟨j,h1,h2,h3,h4,h5⟩:=xX he;obtain⟨w,ew,rw'⟩:=r.get h2;have hl:=r.length;have hn:=oF;have fin:EP X pq σ Q w s:=⟨z,H,I,rw',q⟩;exact subscriptTail_builtinR (x:=w) pl.typeIs slot_tuple_getitem.lookup
  (getItem_tuple (j:=j) (Q:=fun r s'=>r=w/\EP X pq σ Q r s') pl (by lia) (by lia) (by rw[List.size_toArray,<-hl];exact h1) (by simpa using ew) ⟨rfl,fin⟩) hs
theorem vZ(its:List Value)(n j:Nat)(u:Value):Obj.mapSeq (·.setIfInBounds j u) { cls:=.type "list",data:=.seq its.toArray n}={ cls:=.type "list",data:=.seq (its.set j u).toArray n}:=by
 simp[Obj.mapSeq]
theorem Inv.lst{pq:aQ}{σ:St}{H:Hp}{s:Shared}{p:Addr}{xs:List V}(I:Inv X pq σ H s)(h:H p=some (.lst xs)):
 ∃(its:List Value) (n:Nat),Vals xs its/\s.heap.get? p=some { cls:=.type "list",data:=.seq its.toArray n}/\xs.length<=sizeLine:=by
 obtain⟨z,its,n,r,e⟩:=I.hok p _ h;exact⟨its,n,r,e,z⟩
theorem Inv.E7{pq:aQ}{σ:St}{H:Hp}{s:Shared}{p:Addr}{xs ys:List V}{its its' : List Value}{n n' : Nat}{f:Obj->Obj}(I:Inv X pq σ H s)(h:H p=some (.lst xs))
 (ho:s.heap.get? p=some { cls:=.type "list",data:=.seq its.toArray n}) (hf:f { cls:=.type "list",data:=.seq its.toArray n}={ cls:=.type "list",data:=.seq its'.toArray n'}) (r:Vals ys its') (hz:ys.length<=sizeLine) (t:Nat) :
 Inv X pq σ (upd H p (.lst ys)) { s with heap:=s.heap.update p f,toks:=t}:=by
 have e:(s.heap.update p f).get? p=some { cls:=.type "list",data:=.seq its'.toArray n'}:=by
  rw[Heap.get?_update_self f ho (by rw[hf]<;>rfl),hf]
 refine I.write (x:=p) (e:=p) (by rw[h];trivial) (.inl rfl) (fun b u hb q=>(Heap.get?_update_other _ _ (Ne.symm hb)).trans q) ⟨_,e⟩ ?_
 exact⟨hz,its',n',r,e⟩
def Hz:V->V->V->Hp->(Hp->Prop)->Prop:=fun o i v H Q=>∃ p xs k j,o = .ref p/\i = .int k/\H p=some (.lst xs)/\CQ xs.length k=some j/\Q (upd H p (.lst (xs.set j v)))
theorem set_list:ET X Hz:=by
 intro pq s σ H o i v ov iv u Q I ro ri rv h;obtain⟨p,xs,k,j,rfl,rfl,hp,hj,q⟩:=h;cases ro;obtain⟨t,rfl⟩:=ri;obtain⟨its,n,r,ho,hz⟩:=I.lst hp;obtain⟨h1,h2,h3,h4⟩:=xW hj;have hl:=r.length;have hn:=oF;have I' : Inv X pq σ (upd H p (.lst (xs.set j v))) { s with heap:=s.heap.update p (Obj.mapSeq (·.setIfInBounds j u))} :=
  I.E7 hp ho (vZ its n j u) (r.set rv j) (by rw[List.length_set];exact hz) s.toks
 by_cases h0:0<=k
 ·have hk:k.toNat=j:=by
   rw[seqIndex_of h0 h4]at h1;exact Option.some.inj h1
  exact PySem.W.ki_setAt ho h0 (by lia) (by rw[List.size_toArray,<-hl];exact h4) (by rw[hk];exact⟨_,I',q⟩)
 ·have hk:(k+(its.toArray.size:Int)).toNat=j:=by
   rw[seqIndex_neg (by lia) h3]at h1
   rw[List.size_toArray,<-hl];exact Option.some.inj h1
  exact PySem.W.ki_setBack ho (by lia) (by rw[List.size_toArray,<-hl];exact h3) (by lia) (by rw[hk];exact⟨_,I',q⟩)
theorem r9(lo hi:Option Int)(n:Nat):(sliceBounds lo hi none n).1=((HT.nS n 0 lo:Nat):Int)/\(sliceBounds lo hi none n).2.1=((HT.nS n n hi:Nat):Int)/\(sliceBounds lo hi none n).2.2=1:=by
 refine⟨?_,?_,rfl⟩
 ·cases lo with
  | none=>simp[sliceBounds,HT.nS]
  | some i =>
    simp only[sliceBounds,HT.nS,Option.getD_none,show(1:Int) > 0 by decide,if_true]
    by_cases h:i<0
    ·simp only[h,if_true]<;>lia
    ·simp only[h,if_false]<;>lia
 ·cases hi with
  | none=>simp[sliceBounds,HT.nS]
  | some i =>
    simp only[sliceBounds,HT.nS,Option.getD_none,show(1:Int) > 0 by decide,if_true]
    by_cases h:i<0
    ·simp only[h,if_true]<;>lia
    ·simp only[h,if_false]<;>lia
theorem qj(its:List Value)(lo hi:Option Int):slicePick its.toArray lo hi none=((its.drop (HT.nS its.length 0 lo)).take (HT.nS its.length its.length hi-HT.nS its.length 0 lo)).toArray:=by
 obtain⟨h1,h2,h3⟩:=r9 lo hi its.toArray.size;unfold slicePick;rw[h1,h2,h3];simp only[sliceRange_one,pick_run,List.size_toArray]<;>rfl
def HA(K:bw):V->Option Int->Option Int->Hp->VK->Prop:=fun x lo hi H Q=>∃ a xs,x = .ref a/\aR K H a xs/\∀ p,H p=none->Q (.ref p) (upd H p (.lst (yU xs lo hi)))
theorem CT:Kz X (HA X.K):=by
 intro pq s σ H x v vl vu lo hi sl Q I rx hs pl pu h;obtain⟨a,xs,rfl,hx,q⟩:=h;cases rx;obtain⟨its,r,ht,hz⟩:=I.list hx;have hlen:=r.length;refine⟨"list",_,slot_list_getitem.lookup,ht.isList.typeIs,?_⟩;refine wpAny_getItem_list_slice ht.isList hs pl pu .none (by simp) ?_ (by rw[List.size_toArray]<;>lia)
 rw[qj,<-hlen];refine⟨.ref s.heap.objs.size,_,I.laid (t':=s.toks) (o:=.lst (yU xs lo hi)) (fun b ob q=>Heap.get?_push_of_some _ q) (Nat.le_refl _) ?_,rfl,q _ (I.hok.fresh (Nat.le_refl _))⟩
 exact⟨Nat.le_trans (uo xs lo hi) hz,_,0,(r.drop (HT.nS xs.length 0 lo)).take (HT.nS xs.length xs.length hi-HT.nS xs.length 0 lo),Heap.get?_push_size _ rfl⟩
def lz:V->Bool
 | .eV=>true
 | .bl _=>true
 | .int _=>true
 | .str _=>true
 | _=>false
def CU:V->V->Bool
 | .eV,.eV=>true
 | .bl a,.bl b=>a==b
 | .bl a,.int b=>(if a then 1 else 0)==b
 | .int a,.bl b=>a==(if b then 1 else 0)
 | .int a,.int b=>a==b
 | .str a,.str b=>a==b
 | _,_=>false
theorem E8{A:Around}{s:Shared}{y x:V}{u v:Value}(ry:RelV y u)(rx:RelV x v)(fy:lz y=true)(fx:lz x=true):SeqAt.EqAt A s u v (CU y x):=by
 cases y with
 | eV =>
   cases ry;cases x with
   | eV=>cases rx;exact SeqAt.EqAt.same _
   | bl b=>cases rx;exact SeqAt.EqAt.none_bool b
   | int b=>obtain⟨t,rfl⟩:=rx;exact SeqAt.EqAt.none_int b t
   | str b=>obtain⟨t,rfl⟩:=rx;exact SeqAt.EqAt.none_str b t
   | _=>exact absurd (show false=true from fx) Bool.false_ne_true
 | bl a =>
   cases ry;cases x with
   | eV=>cases rx;exact SeqAt.EqAt.bool_none a
   | bl b=>cases rx;exact SeqAt.EqAt.bool_bool a b
   | int b=>obtain⟨t,rfl⟩:=rx;exact SeqAt.EqAt.bool_int a b t
   | str b=>obtain⟨t,rfl⟩:=rx;exact SeqAt.EqAt.bool_str a b t
   | _=>exact absurd (show false=true from fx) Bool.false_ne_true
 | int a =>
   obtain⟨t',rfl⟩:=ry;cases x with
   | eV=>cases rx;exact SeqAt.EqAt.int_none a t'
   | bl b=>cases rx;exact SeqAt.EqAt.int_bool a t' b
   | int b=>obtain⟨t,rfl⟩:=rx;exact SeqAt.EqAt.int_int a t' b t
   | str b=>obtain⟨t,rfl⟩:=rx;exact SeqAt.EqAt.int_str a t' b t
   | _=>exact absurd (show false=true from fx) Bool.false_ne_true
 | str a =>
   obtain⟨t',rfl⟩:=ry;cases x with
   | eV=>cases rx;exact SeqAt.EqAt.str_none a t'
   | bl b=>cases rx;exact SeqAt.EqAt.str_bool a t' b
   | int b=>obtain⟨t,rfl⟩:=rx;exact SeqAt.EqAt.str_int a t' b t
   | str b=>obtain⟨t,rfl⟩:=rx;exact SeqAt.EqAt.str_str a t' b t
   | _=>exact absurd (show false=true from fx) Bool.false_ne_true
 | _=>exact absurd (show false=true from fy) Bool.false_ne_true
def CV(x:V)(u:Value):Bool:=match u with
 | .none=>CU .eV x
 | .bool b=>CU (.bl b) x
 | .int i _=>CU (.int i) x
 | .str z _=>CU (.str z) x
 | _=>false
theorem AM{x y:V}{u:Value}(r:RelV y u)(f:lz y=true):CV x u=CU y x:=by
 cases y with
 | eV=>cases r;rfl
 | bl b=>cases r;rfl
 | int i=>obtain⟨t,rfl⟩:=r;rfl
 | str z=>obtain⟨t,rfl⟩:=r;rfl
 | _=>exact absurd (show false=true from f) Bool.false_ne_true
theorem sd{x:V}:∀{xs:List V} {us:List Value},Vals xs us->xs.all lz=true->us.any (CV x)=xs.any fun y=>CU y x
 | _,_,.nil,_=>rfl
 | y::xs,u::us,.cons r t,f=>by
   rw[List.all_cons,Bool.and_eq_true]at f;rw[List.any_cons,List.any_cons,AM r f.1,sd t f.2]
theorem oG{A:Around}{s:Shared}{x:V}{v:Value}(rx:RelV x v)(fx:lz x=true):∀{xs:List V} {us:List Value},Vals xs us->xs.all lz=true->∀ u∈us,SeqAt.EqAt A s u v (CV x u)
 | _,_,.nil,_=>fun u hu=>by cases hu
 | y::xs,u::us,.cons r t,f=>fun u' hu=>by
   rw[List.all_cons,Bool.and_eq_true]at f;rcases List.mem_cons.mp hu with rfl|hu
   ·rw[AM r f.1];exact E8 r rx f.1 fx
   ·exact oG rx fx t f.2 u' hu
def Ec(x:V)(xs:List V):Bool:=xs.any fun y=>CU y x
def LZ(K:bw)(neg:Bool):R2:=fun x y H Q=>∃ p xs,y = .ref p/\(aR K H p xs\/bB K H p xs)/\lz x=true/\xs.all lz=true/\Q (.bl (if neg then !Ec x xs else Ec x xs)) H
theorem se:jV X (compareOp .NotIn) (LZ X.K true):=by
 intro pq s σ H x y v u Q I rx ry h;obtain⟨p,xs,rfl,hq,fx,fs,q⟩:=h;cases ry;rcases hq with hq|hq
 ·obtain⟨its,r,pl,hz⟩:=I.list hq;refine SeqAt.notIn_listAt (CV x) pl.isList (fun w hw=>oG rx fx r fs w (by simpa using hw)) ⟨.bl _,H,I,rfl,?_⟩
  rw[show its.toArray.any (CV x)=its.any (CV x) by simp,sd r fs]
  exact q
 ·obtain⟨its,r,pl,hz⟩:=I.tuple hq;refine SeqAt.notIn_tupleAt (CV x) pl (fun w hw=>oG rx fx r fs w (by simpa using hw)) ⟨.bl _,H,I,rfl,?_⟩
  rw[show its.toArray.any (CV x)=its.any (CV x) by simp,sd r fs]
  exact q
theorem sj:eU X (.builtin "len") (fun xs H Q=>∃ p ys,xs=[.ref p]/\(aR X.K H p ys\/bB X.K H p ys)/\Q (.int ys.length) H):=by
 intro pq s σ H xs us Q I r h;obtain⟨p,ys,rfl,hq,q⟩:=h;obtain⟨u,rfl,rx⟩:=vals1 r;cases rx;have hn:=oF;rcases hq with hq|hq
 ·obtain⟨its,r',pl,hz⟩:=I.list hq;have hlen:=r'.length;exact Calls.call_len_list pl.isList (by simp only[List.size_toArray]<;>lia) ⟨.int ys.length,H,I.tok _,⟨s.toks+1,by rw[List.size_toArray,hlen]⟩,q⟩
 ·obtain⟨its,r',pl,hz⟩:=I.tuple hq;have hlen:=r'.length;exact len_tuple pl (by simp only[List.size_toArray]<;>lia) ⟨.int ys.length,H,I.tok _,⟨s.toks+1,by rw[List.size_toArray,hlen]⟩,q⟩
theorem qk:eU X (.type "tuple") (fun xs H Q=>∃ p ys,xs=[.ref p]/\((aR X.K H p ys/\∀ l,H l=none->Q (.ref l) (upd H l (.tup ys)))\/(bB X.K H p ys/\Q (.ref p) H))):=by
 intro pq s σ H xs us Q I r h;obtain⟨p,ys,rfl,h⟩:=h;obtain⟨u,rfl,rx⟩:=vals1 r;cases rx;rcases h with⟨hq,q⟩|⟨hq,q⟩
 ·obtain⟨its,r',pl,hz⟩:=I.list hq;have hlen:=r'.length;refine call_tuple_list pl.isList (fun h' kp=>?_) (by simp only[List.size_toArray]<;>lia)
  have I1:Inv X pq σ H { s with heap:=h'}:=I.kept (t':=s.toks) kp
  have I2:Inv X pq σ (upd H h'.objs.size (.tup ys)) { s with heap:=h'.push { cls:=.type "tuple",data:=.seq its.toArray}} :=
   I1.laid (t':=s.toks) (fun b o e=>Heap.get?_push_of_some _ e) (Nat.le_refl _) (show bu X.prog X.w _ _ _ (.tup ys) from⟨hz,its,r',IsTup.new _ _⟩)
  exact⟨.ref h'.objs.size,_,I2,rfl,q _ (I1.hok.fresh (Nat.le_refl _))⟩
 ·obtain⟨its,r',pl,hz⟩:=I.tuple hq;exact call_tuple_same pl ⟨.ref p,H,I,rfl,q⟩
def KC(K:bw)(T:String)(x:V)(H:Hp):Prop:=match x with
 | .str _=>T="str"
 | .int _=>T="int"
 | .ref p=>(T="list"/\∃ xs,aR K H p xs)\/(T="tuple"/\∃ o,K.lookup p=some o/\o.cls = .type "tuple"/\o.dict=none)\/
  (T="dict"/\((∃ kvs,H p=some (.dK kvs))\/∃ kvs,H p=some (.dT kvs)))\/(T="set"/\∃ S n,H p=some (.set S n))
 | _=>False
theorem AN{pq:aQ}{σ:St}{H:Hp}{s:Shared}{T:String}{x:V}{v:Value}(I:Inv X pq σ H s)(r:RelV x v)(ty:KC X.K T x H):
 s.TypeIs v T/\∀ a,v = .ref a->∃ ob,s.heap.get? a=some ob/\ob.dict=none:=by
 cases x with
 | str z =>
   obtain⟨t,rfl⟩:=r;cases(show T="str" from ty)
   exact⟨typeIs_str s z t,fun _ e=>nomatch e⟩
 | int i =>
   obtain⟨t,rfl⟩:=r;cases(show T="int" from ty)
   exact⟨typeIs_int s i t,fun _ e=>nomatch e⟩
 | ref p =>
   cases r;rcases ty with⟨rfl,xs,hq⟩|⟨rfl,o,hk,hc,hd⟩|⟨rfl,hk⟩|⟨rfl,S,n,hk⟩
   ·obtain⟨its,_,pl,_⟩:=I.list hq;refine⟨pl.isList.typeIs,fun a e=>?_⟩
    cases e;obtain⟨o,n,e,c,hd,_⟩:=pl;exact⟨o,e,hd⟩
   ·refine⟨⟨o,I.qS p o hk,hc⟩,fun a e=>?_⟩
    cases e;exact⟨o,I.qS _ o hk,hd⟩
   ·have z:∃ o,s.heap.get? p=some o/\o.ExactDict:=by
     rcases hk with⟨kvs,hk⟩|⟨kvs,hk⟩
     ·obtain⟨_,_,_,_,o,_,_,e,ex,_⟩:=I.hok p _ hk;exact⟨o,e,ex⟩
     ·obtain⟨_,_,_,_,o,_,_,e,ex,_⟩:=I.hok p _ hk;exact⟨o,e,ex⟩
    obtain⟨o,e,ex⟩:=z;refine⟨⟨o,e,ex.1⟩,fun a e2=>?_⟩
    cases e2;exact⟨o,e,ex.2.1⟩
   ·obtain⟨o,_,_,_,e,ex,_⟩:=I.hok p _ hk;refine⟨⟨o,e,ex.1⟩,fun a e2=>?_⟩
    cases e2;exact⟨o,e,ex.2.1⟩
 | _=>exact False.elim ty
def KD(K:bw)(T:String)(r:V->List V->Hp->VK->Prop)(to:TE):TE:=fun σ H Q=>to σ H fun x H1=>KC K T x H1/\r x [] H1 Q
def KG(K:bw)(T:String)(r:V->List V->Hp->VK->Prop)(to:TE)(t:TA):TE:=fun σ H Q=>to σ H fun x H1=>KC K T x H1/\t σ H1 fun xs H2=>r x xs H2 Q
variable {o e:Expr}{es:List Expr}{to:TE}{t:TA}{name:Str}{apos cpos:Pos}{T id:String}{r:V->List V->Hp->VK->Prop}
theorem E9(pa:PlainAttrs T)(slot:Slot T name id)(hty:typeOf (.builtin id)=pure (.type "method_descriptor"))(hm:KA X id r)(ho:PE X o to)
 (hbase:attributeBase o name X.env (eval o X.env)=eval o X.env:=by rfl) (hline:(apos.endLine==cpos.line)=true:=by rfl):PE X (.Call (.Attribute o name apos) [] [] cpos) (KD X.K T r to):=by
 intro pq s σ H Q I h;refine wpAny_Call_method0_late hbase hline (dP (ho pq s σ H _ I h) fun v s1 ⟨x,H1,I1,r1,ty,q1⟩=>?_)
 obtain⟨h1,h2⟩:=AN I1 r1 ty;exact⟨T,id,pa,slot,hty,h1,h2,Calls.callWith_builtin rfl (PySem.evalArgs_none (hm pq s1 σ H1 x [] v [] Q I1 r1 .nil q1))⟩
theorem oH(pa:PlainAttrs T)(slot:Slot T name id)(hty:typeOf (.builtin id)=pure (.type "method_descriptor"))(hm:KA X id r)(ho:PE X o to)(ha:PA X (e::es) t)
 (hbase:attributeBase o name X.env (eval o X.env)=eval o X.env:=by rfl)
 (hfew:((backTo cpos (starEach (e::es) X.env)).all (fun x=>!x.1)&&(backToKw cpos (keywordEach [] X.env)).all (fun x=>x.1.isSome)
  && decide ((e::es).length+([]:List Keyword).length+(if([]:List Keyword).isEmpty then 0 else 1)<30))=true:=by rfl)
 (hline:(apos.endLine==cpos.line)=true:=by rfl) (hs:starEach (e::es) X.env=(false,eval e X.env)::starEach es X.env:=by rfl) (hplain:(backTo cpos (starEach es X.env)).any (·.1)=false:=by rfl) :
 PE X (.Call (.Attribute o name apos) (e::es) [] cpos) (KG X.K T r to t):=by
 intro pq s σ H Q I h;refine wpAny_Call_method_late hbase hfew hline rfl (dP (ho pq s σ H _ I h) fun v s1 ⟨x,H1,I1,r1,ty,q1⟩=>?_)
 obtain⟨h1,h2⟩:=AN I1 r1 ty;refine⟨T,id,pa,slot,hty,h1,h2,?_⟩;have hA:=ha cpos pq s1 σ H1 _ I1 q1;rw[hs]at hA ⊢;refine Calls.callWith_builtin (by show(false || (backTo cpos (starEach es X.env)).any (·.1))=false;rw[hplain]<;>rfl) (Calls.evalArgs_plain ?_)
 exact dP hA fun us s2 ⟨vs,H2,I2,r2,q2⟩=>hm pq s2 σ H2 x vs v us Q I2 r1 r2 q2
end
def L6(X:Cx)(id:String)(r:V->List V->Hp->VK->Prop):Prop :=
 ∀(pq:aQ) (s:Shared) (σ:St) (H:Hp) (x:V) (xs:List V) (v:Value) (us:List Value) (Q:VK),Inv X pq σ H s->RelV x v->Vals xs us->r x xs H Q->
  wpAny (model X.prog X.w) X.A (call (.builtin id) (v::us)) (EP X pq σ Q) X.xe s
theorem Vals.one:∀{x:V} {us:List Value},Vals [x] us->∃ u,us=[u]/\RelV x u
 | _,_,.cons r .nil=>⟨_,rfl,r⟩
theorem Vals.rep{xs:List V}{us:List Value}(h:Vals xs us):∀ k:Nat,Vals (List.replicate k xs).flatten (List.replicate k us).flatten
 | 0=>.nil
 | k+1=>by
   rw[List.replicate_succ,List.replicate_succ,List.flatten_cons,List.flatten_cons];exact Vals.append h (Vals.rep h k)
theorem foldl_rep(its:List Value):∀(k:Nat) (acc:List Value),
 List.foldl (fun x1 x2=>x1++x2) acc.toArray (List.replicate k its.toArray)=(acc++(List.replicate k its).flatten).toArray
 | 0,acc=>by simp
 | k+1,acc=>by
   have e:acc.toArray++its.toArray=(acc++its).toArray:=by simp
   have e2:(acc++its)++(List.replicate k its).flatten=acc++(List.replicate (k+1) its).flatten:=by
    rw[List.replicate_succ,List.flatten_cons,List.append_assoc]
   rw[<-e2,<-foldl_rep its k (acc++its),<-e,List.replicate_succ,List.foldl_cons]
section
variable {X:Cx}{pq:aQ}{σ:St}{H:Hp}{s:Shared}{l b:Addr}{xs ys zs:List V}
theorem Inv.HB{its its' : List Value}{n:Nat}{f:Array Value->Array Value}{t' : Nat}(I:Inv X pq σ H s)(hH:H l=some (.lst xs))
 (e:s.heap.get? l=some { cls:=.type "list",data:=.seq its.toArray n}) (hf:f its.toArray=its'.toArray) (hv:Vals ys its') (hz:ys.length<=sizeLine) :
 Inv X pq σ (upd H l (.lst ys)) { s with heap:=s.heap.update l (Obj.mapSeq f),toks:=t'}:=by
 have q:=PySem.IsL.update e f;rw[hf]at q;refine I.write (x:=l) (e:=l) (by rw[hH];exact trivial) (.inl rfl) (fun b' u hb hu=>(Heap.get?_update_other s.heap (Obj.mapSeq f) (Ne.symm hb)).trans hu) ⟨_,q⟩ ?_
 exact⟨hz,its',_,hv,q⟩
theorem Inv.HC{its:List Value}{t' : Nat}(I:Inv X pq σ H s)(hv:Vals ys its)(hz:ys.length<=sizeLine):
 Inv X pq σ (upd H s.heap.objs.size (.lst ys)) { s with heap:=s.heap.push { cls:=.type "list",data:=.seq its.toArray},toks:=t'} :=
 I.laid (fun _ _ q=>Heap.get?_push_of_some _ q) (Nat.le_refl _) ⟨hz,its,0,hv,Heap.get?_push_size _ rfl⟩
theorem Inv.fresh(I:Inv X pq σ H s):H s.heap.objs.size=none:=I.hok.fresh (Nat.le_refl _)
theorem Inv.CW(I:Inv X pq σ H s)(hH:H l=some (.lst xs)):xs.length<=sizeLine/\∃(its:List Value) (n:Nat),Vals xs its/\xs.length=its.length/\s.heap.get? l=some { cls:=.type "list",data:=.seq its.toArray n}:=by
 obtain⟨z,its,n,r,e⟩:=I.hok l _ hH;exact⟨z,its,n,r,r.length,e⟩
theorem uq{n:Nat}(h:n<=sizeLine):Builtin.List.listTooLong n=false:=by
 unfold Builtin.List.listTooLong;exact dO (by lia)
end
section
variable {X:Cx}
def CY:V->List V->Hp->VK->Prop:=fun x vs H Q=>∃ l xs y,x = .ref l/\vs=[y]/\H l=some (.lst xs)/\xs.length<sizeLine/\Q .eV (upd H l (.lst (xs++[y])))
theorem eY:L6 X "list.append" CY:=by
 intro pq s σ H x vs v us Q I rx rv h;obtain⟨l,xs,y,rfl,rfl,hH,hz,q⟩:=h;cases rx;obtain⟨u,rfl,ru⟩:=rv.one;obtain⟨z,its,n,r,hl,e⟩:=I.CW hH;refine call_meets F.slot_list_append ⟨_,e,rfl⟩ F.entry_list_append (F.args_list_append_2 _ _) (PySem.list_append l its.toArray n u (by rw[List.size_toArray];lia)) ⟨e,?_⟩
 refine⟨.eV,_,I.HB (its':=its++[u]) hH e (by simp) (r.append (.cons ru .nil)) ?_,rfl,q⟩
 rw[List.length_append,List.length_singleton]
 lia
def CZ:V->List V->Hp->VK->Prop:=fun x vs H Q=>∃ l b xs zs,x = .ref l/\vs=[.ref b]/\H l=some (.lst xs)/\H b=some (.lst zs)/\xs.length+zs.length<=sizeLine/\Q .eV (upd H l (.lst (xs++zs)))
theorem yV:L6 X "list.extend" CZ:=by
 intro pq s σ H x vs v us Q I rx rv h;obtain⟨l,b,xs,zs,rfl,rfl,hH,hB,hz,q⟩:=h;cases rx;obtain⟨u,rfl,ru⟩:=rv.one;cases ru;obtain⟨z,its,n,r,hl,e⟩:=I.CW hH;obtain⟨z2,its2,n2,r2,hl2,e2⟩:=I.CW hB;have hsz:its.toArray.size+its2.toArray.size<=sizeLine:=by rw[List.size_toArray,List.size_toArray];lia
 have AO : ¬(!its.toArray.isEmpty&&Builtin.List.listTooLong (its.toArray.size+its2.toArray.size))=true:=by
  rw[uq hsz,Bool.and_false];exact Bool.false_ne_true
 refine call_meets F.slot_list_extend ⟨_,e,rfl⟩ F.entry_list_extend (F.args_list_extend_2 _ _)
  (AutoSeq1.list_extend_list_list_0 l its.toArray n b its2.toArray n2 AO (by rw[List.size_toArray];lia) (by lia)) ⟨e,e2,?_⟩
 refine⟨.eV,_,I.HB (its':=its++its2) hH e (by simp) (r.append r2) ?_,rfl,q⟩
 rw[List.length_append]
 lia
def KH:R2:=fun x y H Q=>∃ l k xs,x = .ref l/\y = .int k/\H l=some (.lst xs)/\-(2^63)<=k/\k<2^63/\xs.length*k.toNat<=sizeLine/\
 ∀ p,H p=none->Q (.ref p) (upd H p (.lst (List.replicate k.toNat xs).flatten))
theorem len_rep{α:Type}(xs:List α)(k:Nat):(List.replicate k xs).flatten.length=k*xs.length:=by
 induction k with
 | zero=>simp
 | succ k ih=>rw[List.replicate_succ,List.flatten_cons,List.length_append,ih,Nat.succ_mul,Nat.add_comm]
theorem v8:jV X (binaryOp .Mult) KH:=by
 intro pq s σ H x y v u Q I rx ry h;obtain⟨l,k,xs,rfl,rfl,hH,h1,h2,hz,q⟩:=h;cases rx;obtain⟨t,rfl⟩:=ry;obtain⟨z,its,n,r,hl,e⟩:=I.CW hH;have hlen:its.toArray.size*k.toNat<=sizeLine:=by rw[List.size_toArray,<-hl];exact hz
 have KI : ¬ its.toArray.size*k.toNat > (2^63-1)/8:=by
  have:(sizeLine:Nat)<=(2^63-1)/8:=by decide
  lia
 have hfit : ¬(!Builtin.List.listFitsIndex k)=true:=by
  rw[fitsIndex_both h1 h2];exact Bool.false_ne_true
 have AO : ¬ Builtin.List.listTooLong (its.toArray.size*k.toNat)=true:=by
  rw[uq hlen];exact Bool.false_ne_true
 have hnew:List.foldl (fun x1 x2=>x1++x2) #[] (List.replicate (if its.toArray.isEmpty=true then 0 else k.toNat) its.toArray)=(List.replicate k.toNat its).flatten.toArray:=by
  have f0:∀ m:Nat,List.foldl (fun x1 x2=>x1++x2) #[] (List.replicate m its.toArray)=(List.replicate m its).flatten.toArray:=fun m=>by
   have:=foldl_rep its m [];rw[List.nil_append]at this;exact this
  rw[f0];cases its with
  | nil=>simp
  | cons a r'=>rw[if_neg (by simp)]
 refine wpAny_binaryOp_repeat_ref (T:="list") (U:="int") (by decide) ⟨_,e,rfl⟩ (fun s'=>typeIs_int s' k t) noFill_list_mul F.fills_int_mul F.slot_int_rmul repeat_list F.slot_int_index.lookup
  (call_meets F.slot_int_rmul (typeIs_int s k t) F.entry_int_rmul (F.args_int_rmul_2 _ _) (int___rmul___int_list k t l its.toArray n)
   ⟨e,rfl,⟨_,e,rfl⟩,call_meets F.slot_list_mul ⟨_,e,rfl⟩ F.entry_list_mul (F.args_list_mul_2 _ _) (AutoListH.list___mul___list_int_3 l its.toArray n k t hfit KI AO) ⟨e,?_⟩⟩)
 rw[hnew];exact⟨.ref _,_,I.HC (t':=s.toks) (r.rep k.toNat) (by rw[len_rep,Nat.mul_comm];exact hz),rfl,q _ I.fresh⟩
end
end L2
namespace Att
open PySem PySem.W PySem.Calls PyProof.Rows
theorem nq{P:Params}{h:Heap}:∀(ns:List Int) (vs:List Value),WellAll P h vs (ns.map WData.int)->IntsAre vs ns:=by
 intro ns
 induction ns with
 | nil =>
   intro vs w;rw[List.map_nil]at w;cases w;exact .nil
 | cons n ns ih =>
   intro vs w;rw[List.map_cons]at w;cases w with
   | cons a b =>
     cases a;exact .cons _ _ (ih _ b)
theorem yW{l:OpenLaw}{n:Nat}(hn:l.most=some n){P:Params}{h:Heap}{args:List WData}{vals:List Value}
 (hpre:l.row.toRowW.claim.pre args=true) (KJ:WellAll P h vals args) :
 ∃ a vs ns,vals=[Value.ref a]/\args=[WData.list (ns.map WData.int)]/\h.get? a=some { cls:=.type "list",data:=.seq vs.toArray}/\IntsAre vs ns/\ns.length<=n:=by
 have hsh:WShape.hasAll [] args [.list .int]=true:=(pre_splitW hpre).1;have hc:l.pre.holds [] { args:=args}=true:=(pre_splitW hpre).2;obtain⟨d,r,rfl,h1,h2⟩:=hasAllW_cons hsh;obtain rfl:=hasAllW_nil h2;obtain⟨xs,rfl,h3⟩:=hasW_list h1;obtain⟨ns,rfl⟩:=items_int h3;have hlen:ns.length<=n:=by
  unfold OpenLaw.pre at hc;have h4:(WTm.not (.lt (.lit (.int (n:Int))) (.len (.arg 0)))).holds [] { args:=[.list (ns.map .int)]}=true:=by
   have h4:=(holds_andW hc).1;rw[hn]at h4;exact h4
  have h5:=condW_of h4 (w_not (w_lt w_lit (w_len_list (w_arg rfl))));rw[List.length_map]at h5;refine Nat.le_of_not_lt fun q=>?_
  have q' : (n:Int)<((ns.length:Nat):Int):=by lia
  first
   | (rw[cN q']at h5;exact absurd h5 (by decide))
   | (simp at h5;lia)
 cases KJ with
 | cons w1 w2 =>
   cases w2;cases w1 with
   | list ho hall=>exact⟨_,_,ns,rfl,rfl,ho,nq ns _ hall,hlen⟩
theorem yX(l:OpenLaw)(args:List WData):l.row.toRowW.claim.post args (.bool true) args=true :=
 postW_of (r:=l.row.toRowW) (X:=(true==true))
  (show WShape.has [] (.bool true) .bool=true by first | rfl | decide | simp[WShape.has,WShape.arms,WShape.armsAll])
  (show(WTm.eq .res (.lit (.bool true))).value [] { args:=args,res:=some (.bool true),after:=args}=some (.bool (true==true)) from w_eq_bool (w_res rfl) w_lit) rfl
theorem ur{l:OpenLaw}{n:Nat}{q:Program}{loose:List Str}{XP:(Str->Option Value)->Heap->Prop}{YP:World->Heap->Prop}{d:DefRec}
 (hn:l.most=some n) (HD:d.params.defaults=[])
 (call:∀(w:World) (s₀ s₁:Shared) (mg mb:jk) (fa:Addr) (o:Obj) (pm cd doc:Value) (a:Addr) (vs:List Value) (ns:List Int),
  Ground q loose [] XP w s₀ mg mb s₁.heap->YP w s₁.heap->
  s₁.heap.get? fa=some o->o.data = .func (docDef d.name d.params d.body d.scope pm cd doc)->s₁.heap.CodeRec cd d.name->mg d.name=some (.ref fa)->
  s₁.heap.get? a=some { cls:=.type "list",data:=.seq vs.toArray}->IntsAre vs ns->ns.length<=n->s₁.gens = #[]->
  codeAny (model l.prog w) callerA (.call (.ref fa) ⟨[.ref a],[]⟩) (fun r s'=>r = .ok (.ret (.bool true))/\OldK s₁.heap s'.heap/\s'.os=s₁.os/\AllBare s'.gens) s₁) :
 WalkO q loose XP YP l.row.toRowW d [] (fun f vs=>PySem.call f vs):=by
 intro w s₀ s₁ mg mb G Y fa o pm cd doc dV kV ho hd hcd hD hmg hg args vals as hpre hlay hrd KJ hlo;obtain rfl:dV = .none:=Dflts.none hD HD;obtain rfl:kV = .none:=Dflts.noKw hD;obtain⟨a,vs,ns,rfl,rfl,hobj,hints,hlen⟩:=yW hn hpre KJ;refine enter_call (codeAny_mono (call w s₀ s₁ mg mb fa o pm cd doc a vs ns G Y ho (fd_plain hd) hcd hmg hobj hints hlen hg) fun r s' hq=>?_)
 obtain⟨rfl,h2,h3,h4⟩:=hq;exact⟨.inl ⟨.bool true,.bool true,[],rfl,fun _=>rfl,.bool true,yX l _,fun _=>⟨List.Pairwise.nil,fun _ hm=>(nomatch hm)⟩⟩,h2,h3,h4⟩
end Att
namespace L2
open PySem PySem.Spec PyProof.Rows
theorem qZ:∀{vs:List Value} {ns:List Int},IntsAre vs ns->Vals (ns.map V.int) vs
 | _,_,.nil=>.nil
 | _,_,.cons n t h=>.cons ⟨t,rfl⟩ (qZ h)
end L2
namespace L2
open PySem PySem.Spec PyProof.Rows
def cL(s:Stmt):Arguments:=match s with
 | .FunctionDef _ a _ _ _ _ _ _ _ _=>a
 | _=>{ posonlyargs:=[],args:=[],vararg:=none,kwonlyargs:=[],kw_defaults:=[],kwarg:=none,defaults:=[]}
def bC(s:Stmt):List Stmt:=match s with
 | .FunctionDef _ _ b _ _ _ _ _ _ _=>b
 | _=>[]
def ai(s:Stmt):Scope:=match s with
 | .FunctionDef _ _ _ _ _ _ sc _ _ _=>sc
 | _=>{ kind:=.function,names:=[],isGenerator:=false,isCoroutine:=false}
abbrev xZ:Ao:=fun _ _ _ _ _ _=>False
abbrev E0:XK:=fun _ _ _=>False
theorem aL{X:Cx}:Passes xZ X E0:=fun _ _ _ _ _ _ _ h=>h.elim
structure C1(K:bw)(x qual:Str)(st:Stmt)(f:Addr)(fd:FuncData):Prop where
 ex:∃(oc:Value) (od:Option Addr) (kV doc pm:Value) (an:Option Addr) (cdv ct:Value) (osl:Array (Option Value)),
  fd=PySem.W.fnOf x qual (cL st) (bC st) (ai st) .none kV doc pm an cdv ct/\K.lookup f=some ⟨oc,od,.func fd,osl⟩/\PySem.W.codeIn K cdv qual=true
 kp:PySem.W.keepIn K (.ref f)=true
section
variable {P:Program}{w:World}{K:bw}{mg:jk}{base:Heap}
theorem C1.ok{x qual:Str}{st:Stmt}{f:Addr}{fd:FuncData}{N ps:List Str}{k:Nat}{sp:Sp}(F:C1 K x qual st f fd)(S:aA N ps (ai st))(len:∀ vs H Q E,sp vs H Q E->vs.length=ps.length)
 (hbody:∀(cdv:Value) (A:Around) (outer:List Env) (s:Shared) (H:Hp) (vs:List V) (Q:VK) (E:XK),eT k (A.deeper (envOfC qual (ai st) s.heap.objs.size f cdv))->sp vs H Q E->
  ∃ t,qg (nk xZ P w K mg base N qual (ai st) f cdv A outer s H E).vO (bC st) t/\t { nx:=fun _ H'=>Q .eV H',rt:=Q} (start N vs) H):jq P w K mg base xZ (k+1) f fd ps sp:=by
 obtain⟨oc,od,kV,doc,pm,an,cdv,ct,osl,rfl,lk,hcd⟩:=F.ex;refine AL lk hcd S len fun A outer s H vs Q E hr vP=>?_
 obtain⟨t,h,q⟩:=hbody cdv A outer s H vs Q E hr vP;exact⟨t,h.vO,q⟩
theorem C1.binds{x qual:Str}{st:Stmt}{f:Addr}{fd:FuncData}{ps:List Str}(F:C1 K x qual st f fd)
 (h:∀(kV doc pm:Value) (an:Option Addr) (cdv ct:Value) (us:List Value),us.length=ps.length->bindArgs (PySem.W.fnOf x qual (cL st) (bC st) (ai st) .none kV doc pm an cdv ct) ⟨us,[]⟩=pure (ps.zip us)):Binds K fd ps []:=by
 obtain⟨oc,od,kV,doc,pm,an,cdv,ct,osl,rfl,lk,hcd⟩:=F.ex;exact .all (h kV doc pm an cdv ct)
theorem Fb{x qual:Str}{st:Stmt}{f:Addr}{oc:Value}{od an:Option Addr}{osl:Array (Option Value)}{kV doc pm cdv ct:Value}(l:K.lookup f=some ⟨oc,od,.func (PySem.W.fnOf x qual (cL st) (bC st) (ai st) .none kV doc pm an cdv ct),osl⟩)
 (c:PySem.W.codeIn K cdv qual=true) (k:PySem.W.keepIn K (.ref f)=true):C1 K x qual st f (PySem.W.fnOf x qual (cL st) (bC st) (ai st) .none kV doc pm an cdv ct):=⟨⟨oc,od,kV,doc,pm,an,cdv,ct,osl,rfl,l,c⟩,k⟩
end
theorem jX{n:Nat}(h:n<=1000):n<sizeLine:=Nat.lt_of_le_of_lt h (by decide)
section
variable {X:Cx}
theorem pv(i:Nat){x:Str}{pos:Pos}(hN:X.N[i]?=some x:=by rfl)(hv:Ju X.env.scope x:=by first | exact Or.inl rfl | exact Or.inr (Or.inl rfl) | exact Or.inr (Or.inr rfl))(hd:(x==("__debug__":Str))=false:=by decide)
 (hcd:(x==("__classdict__":Str))=false:=by decide):PE X (.Name x pos) (GX i):=ER hN hv hd hcd
end
theorem g9{A B:Prop}(h:B):if false=true then A else B:=by
 rw[if_neg Bool.false_ne_true];exact h
theorem jr{A B:Prop}(h:A):if true=true then A else B:=by
 rw[if_pos rfl];exact h
theorem lA{c A B:Prop}[Decidable c](h1:c->A)(h2 : ¬ c->B):if c then A else B:=by
 by_cases h:c
 ·rw[if_pos h];exact h1 h
 ·rw[if_neg h];exact h2 h
def aq(H H' : Hp):Prop:=∀ b o,H b=some o->H' b=some o
theorem aq.refl(H:Hp):aq H H:=fun _ _ h=>h
theorem aq.trans{H H1 H2:Hp}(a:aq H H1)(b:aq H1 H2):aq H H2:=fun c o h=>b c o (a c o h)
theorem aq.free{H H' : Hp}(e:aq H H'){l:Addr}(h:H' l=Option.none):H l=Option.none:=by
 cases q:H l with
 | none=>rfl
 | some o =>
   rw[e l o q]at h;cases h
theorem aq.seq{K:bw}{H H' : Hp}{a:Addr}{xs:List V}(e:aq H H')(h:aR K H a xs):aR K H' a xs:=by
 rcases h with(h|⟨o,h⟩) | h
 ·exact .inl (.inl (e _ _ h))
 ·exact .inl (.inr ⟨o,e _ _ h⟩)
 ·exact .inr h
def b7(cells:List (Str×Addr)):List (Str×NameKind)->List (Str×Addr)->List (Str×Addr)
 | [],cs=>cs
 | (n,k)::r,cs=>b7 cells r (if(k==NameKind.free)=true then(n,(cells.lookup n).getD 0)::cs else cs)
theorem oJ{env:Env}{f:Str×NameKind->List (Str×Addr)->Sem (ForInStep (List (Str×Addr)))}
 (hf1:∀ n k cs c,(k==NameKind.free)=true->env.cells.lookup n=some c->f (n,k) cs=pure (.yield ((n,c)::cs)))
 (hf2:∀ n k cs,(k==NameKind.free)=false->f (n,k) cs=pure (.yield cs)) :
 ∀(names:List (Str×NameKind)) (cs:List (Str×Addr)),(∀ n k,(n,k)∈names->(k==NameKind.free)=true->∃ c,env.cells.lookup n=some c)->
  forIn names cs f=(pure (b7 env.cells names cs):Sem (List (Str×Addr)))
 | [],cs,_=>by rw[List.forIn_nil];rfl
 | (n,k)::r,cs,h=>by
   have ih:=fun cs=>oJ hf1 hf2 r cs fun m j hm=>h m j (qi _ hm)
   rw[List.forIn_cons];cases e:(k==NameKind.free) with
   | true =>
     obtain⟨c,hc⟩:=h n k List.mem_cons_self e;rw[hf1 n k cs c e hc,pure_bind];show forIn r ((n,c)::cs) f=_;rw[ih]
     conv=>rhs;unfold b7
     rw[if_pos e,hc];rfl
   | false =>
     rw[hf2 n k cs e,pure_bind];show forIn r cs f=_;rw[ih]
     conv=>rhs;unfold b7
     rw[if_neg (by rw[e];exact Bool.false_ne_true)]
theorem kL{scope:Scope}{env:Env}(h:∀ n k,(n,k)∈scope.names->(k==NameKind.free)=true->∃ c,env.cells.lookup n=some c):closureFor scope env=pure (b7 env.cells scope.names []):=by
 simp only[closureFor];rw[oJ (env:=env) ?_ ?_ scope.names [] h]
 ·rfl
 ·intro n k cs c e hc;show(if(k==NameKind.free)=true then _ else _)=_
  rw[if_pos e];unfold cellOf;rw[hc];rfl
 ·intro n k cs e;show(if(k==NameKind.free)=true then _ else _)=_
  rw[if_neg (by rw[e];exact Bool.false_ne_true)]
theorem gw{cells:List (Str×Addr)}{x:Str}{c:Addr}:∀{names:List (Str×NameKind)} {cs:List (Str×Addr)},(b7 cells names cs).lookup x=some c->cs.lookup x=some c\/((x,NameKind.free)∈names/\(cells.lookup x).getD 0=c)
 | [],cs,h=>.inl h
 | (n,k)::r,cs,h=>by
   unfold b7 at h;rcases gw h with q|⟨q1,q2⟩
   ·by_cases e:(k==NameKind.free)=true
    ·rw[if_pos e]at q
     by_cases hx:x=n
     ·subst hx;rw[List.lookup_cons_self]at q;have hk:k=NameKind.free:=eq_of_beq e;exact .inr ⟨by rw[hk];exact List.mem_cons_self,Option.some.inj q⟩
     ·have hb:(x==n)=false:=beq_eq_false_iff_ne.mpr hx;simp only[List.lookup_cons,hb]at q;exact .inl q
    ·rw[if_neg e]at q;exact .inl q
   ·exact .inr ⟨qi _ q1,q2⟩
theorem gf{cells:List (Str×Addr)}{x:Str}:∀{names:List (Str×NameKind)} {cs:List (Str×Addr)},((x,NameKind.free)∈names\/∃ c,cs.lookup x=some c)->∃ c,(b7 cells names cs).lookup x=some c
 | [],cs,h=>by
   rcases h with h|h
   ·cases h
   ·exact h
 | (n,k)::r,cs,h=>by
   unfold b7;apply gf;rcases h with h|⟨c,h⟩
   ·rcases List.mem_cons.mp h with h|h
    ·cases h
     right
     rw[if_pos (by rfl)]
     exact⟨_,List.lookup_cons_self⟩
    ·exact .inl h
   ·right
    by_cases e:(k==NameKind.free)=true
    ·rw[if_pos e]
     by_cases hx:x=n
     ·subst hx;exact⟨_,List.lookup_cons_self⟩
     ·have hb:(x==n)=false:=beq_eq_false_iff_ne.mpr hx;exact⟨c,by simp only[List.lookup_cons,hb];exact h⟩
    ·rw[if_neg e];exact⟨c,h⟩
theorem iC{env:Env}{x:Str}{k:NameKind}:∀{names:List (Str×NameKind)},
 (names.map fun(n,k)=>if(k==NameKind.free&&env.scope.kind == .function&&env.kindOf n==some .cell) then(n,NameKind.cell) else(n,k)).lookup x=some k->
  ∃ k0,names.lookup x=some k0/\(k=k0\/(k0 = .free/\k = .cell))
 | [],h=>by cases h
 | (n,j)::r,h=>by
   have ih:=@iC env x k r
   replace h:List.lookup x ((if(j==NameKind.free&&env.scope.kind == .function&&env.kindOf n==some .cell)=true then(n,NameKind.cell) else(n,j))::_)=some k:=h
   cases hx:x==n with
   | true =>
     by_cases hc:(j==NameKind.free&&env.scope.kind == .function&&env.kindOf n==some .cell)=true
     ·rw[if_pos hc]at h;simp only[List.lookup_cons,hx]at h ⊢;have hj:j=NameKind.free:=by
       rw[Bool.and_eq_true,Bool.and_eq_true]at hc;exact eq_of_beq hc.1.1
      exact⟨j,rfl,.inr ⟨hj,(Option.some.inj h).symm⟩⟩
     ·rw[if_neg hc]at h;simp only[List.lookup_cons,hx]at h ⊢;exact⟨j,rfl,.inl (Option.some.inj h).symm⟩
   | false =>
     by_cases hc:(j==NameKind.free&&env.scope.kind == .function&&env.kindOf n==some .cell)=true
     ·rw[if_pos hc]at h;simp only[List.lookup_cons,hx]at h ⊢;exact ih h
     ·rw[if_neg hc]at h;simp only[List.lookup_cons,hx]at h ⊢;exact ih h
theorem lB{env:Env}{x:Str}:∀{names:List (Str×NameKind)},names.lookup x=some .free->
 (names.map fun(n,k)=>if(k==NameKind.free&&env.scope.kind == .function&&env.kindOf n==some .cell) then(n,NameKind.cell) else(n,k)).lookup x=some .cell\/
 (names.map fun(n,k)=>if(k==NameKind.free&&env.scope.kind == .function&&env.kindOf n==some .cell) then(n,NameKind.cell) else(n,k)).lookup x=some .free
 | [],h=>by cases h
 | (n,j)::r,h=>by
   have ih:=@lB env x r;show List.lookup x ((if(j==NameKind.free&&env.scope.kind == .function&&env.kindOf n==some .cell)=true then(n,NameKind.cell) else(n,j))::_)=_\/
    List.lookup x ((if(j==NameKind.free&&env.scope.kind == .function&&env.kindOf n==some .cell)=true then(n,NameKind.cell) else(n,j))::_)=_
   cases hx:x==n with
   | true =>
     simp only[List.lookup_cons,hx]at h;cases h
     by_cases hc:(NameKind.free==NameKind.free&&env.scope.kind == .function&&env.kindOf n==some .cell)=true
     ·rw[if_pos hc];simp only[List.lookup_cons,hx];exact .inl trivial
     ·rw[if_neg hc];simp only[List.lookup_cons,hx];exact .inr trivial
   | false =>
     simp only[List.lookup_cons,hx]at h
     by_cases hc:(j==NameKind.free&&env.scope.kind == .function&&env.kindOf n==some .cell)=true
     ·rw[if_pos hc];simp only[List.lookup_cons,hx];exact ih h
     ·rw[if_neg hc];simp only[List.lookup_cons,hx];exact ih h
def b8(X:Cx)(N:List Str)(scope:Scope)(xe:fD)(C:Addr)(s:Shared)(H:Hp)(fp:List Addr):Cx where
 prog:=X.prog
 w:=X.w
 K:=X.K
 mg:=X.mg
 base:=X.base
 A:=X.A
 N:=N
 s₀:=s
 H₀:=H
 env:=compEnvC scope (b7 X.env.cells scope.names []) C X.env
 outer:=X.stack
 stack:=X.stack
 ex:=fp
 fn:=fun _=>false
 calm:=X.calm
 pn:=[]
 xe:=xe
def eA(σ:St)(js:List Nat):St:=js.map fun j=>(σ[j]?).getD none
structure dm(X:Cx)(scope:Scope)(own fq:List Str)(js:List Nat):Prop where
 kind:scope.kind = .function
 sq:∀ y∈scope.names,y.2≠.cell
 names:∀ y∈scope.names,y.2 = .local->scope.names.lookup y.1=some .local
 free:∀ y∈scope.names,y.2 = .free->X.env.scope.names.lookup y.1=some .cell\/X.env.scope.names.lookup y.1=some .free
 at_:js.map (fun j=>X.N[j]?)=fq.map some
 fr:∀ x∈fq,scope.names.lookup x=some .free
theorem oM{σ:St}{js:List Nat}{i:Nat}{v:V}(h:(eA σ js)[i]?=some (some v)):∃ j,js[i]?=some j/\σ[j]?=some (some v):=by
 unfold eA at h;rw[List.getElem?_map]at h;cases e:js[i]? with
 | none=>rw[e]at h;cases h
 | some j =>
   rw[e]at h;have h' : (σ[j]?).getD none=some v:=Option.some.inj h;refine⟨j,rfl,?_⟩;cases q:σ[j]? with
   | none=>rw[q]at h';cases h'
   | some o=>rw[q]at h';rw[show o=some v from h']
section
variable {X:Cx}
theorem eZ{pq:aQ}{σ:St}{H:Hp}{s:Shared}{scope:Scope}{own fq:List Str}{js:List Nat}(I:Inv X pq σ H s)(T:dm X scope own fq js):
 ∀ n k,(n,k)∈scope.names->(k==NameKind.free)=true->∃ c,X.env.cells.lookup n=some c:=fun n k hm e=>by
 have hk:k=NameKind.free:=eq_of_beq e;exact I.ok.has n (T.free (n,k) hm hk)
theorem AQ{pq:aQ}{σ:St}{H:Hp}{s:Shared}{scope:Scope}{own fq:List Str}{js:List Nat}{fp:List Addr}{D C:Addr}{h1:Heap}{t1:Nat}{m:jk}{xe:fD}
 (I:Inv X pq σ H s) (T:dm X scope own fq js) (hf:∀ b∈fp,kJ X pq H b) (hfo:∀ b∈fp,∃ o,s.heap.get? b=some o) (hD:s.heap.objs.size<=D) (hC:s.heap.objs.size<=C) (hDC:D≠C)
 (old:∀ b o,s.heap.get? b=some o->h1.get? b=some o) (hl:h1.get? D=some { cls:=.type "list",data:=.seq ([]:List Value).toArray 0}) (hn:h1.Ns C m) :
 Inv (b8 X (own++fq) scope xe C s H fp) [] (List.replicate own.length none++eA σ js) (upd H D (.lst [])) { s with heap:=h1,toks:=t1}:=by
 have cells:∀ x c,(b7 X.env.cells scope.names []).lookup x=some c->X.env.cells.lookup x=some c:=fun x c h=>by
  rcases gw h with q|⟨q1,q2⟩
  ·cases q
  ·obtain⟨c',hc'⟩:=eZ I T x .free q1 rfl;rw[hc']at q2;rw[hc'];exact congrArg some q2
 have HE:∀ b o,s.heap.get? b=some o->b<s.heap.objs.size:=fun b o e=>Heap.lt_size e
 have hcl:∀ x c,X.env.cells.lookup x=some c->c<s.heap.objs.size:=fun x c e=>by
  obtain⟨v,q⟩:=I.cell x c e;exact q.lt
 have NZ:∀ b∈frs X.stack,b<s.heap.objs.size:=fun b hb=>by
  obtain⟨_,o,ho,_⟩:=I.stack.mem hb;exact Heap.lt_size ho
 have N1:H D=none:=I.hok.fresh hD;have Fc:H C=none:=I.hok.fresh hC;refine⟨⟨I.ok.mod,T.kind,I.ok.glob,I.ok.blt,hC,fun x y c a b=>I.ok.inj x y c (cells x c a) (cells y c b),fun x hx=>?_,fun x c z _=>(nomatch z),I.ok.hd,I.ok.frames,.inl rfl,fun b hb=>⟨?_,fun x c e z=>?_⟩,
  fun b o e=>I.bs b o e,Nat.le_trans I.ok.Cq I.sz,fun b o e hb=>?_,fun b hb z=>?_,I.stack,I.nN⟩,
  rfl,I.bare,Un.laid old hD N1,⟨m,hn,fun i x v e1 e2 e3=>?_⟩,fun x c e=>?_,?_,fun x c e=>?_,fun p hp=>absurd (show p∈([]:aQ) from hp) (by simp),?_,?_⟩
 ·
  have hx:(relabel scope X.env).names.lookup x=some .cell\/(relabel scope X.env).names.lookup x=some .free:=hx;have N2:(x,NameKind.free)∈scope.names:=by
   rcases hx with hx|hx
   ·obtain⟨k0,q,r⟩:=iC hx;have hm:=PySem.mem_of_lookup q;rcases r with r|⟨r,_⟩
    ·exact absurd r.symm (T.sq _ hm)
    ·rw[r]at hm;exact hm
   ·obtain⟨k0,q,r⟩:=iC hx;have hm:=PySem.mem_of_lookup q;rcases r with r|⟨_,r⟩
    ·rw[<-r]at hm;exact hm
    ·cases r
  exact gf (.inl N2)
 ·
  obtain⟨o,ho⟩:=hfo b hb;exact Nat.ne_of_lt (Nat.lt_of_lt_of_le (HE b o ho) hC)
 ·exact(hf b hb).2.2.2.2.1 x c (cells x c e) z
 ·
  obtain⟨_,_,_,f3,_,_⟩:=hf b hb;rcases f3 with z|z
  ·exact I.ok.yJ b o e z
  ·exact absurd (Nat.lt_of_lt_of_le (Heap.lt_size (I.ok.bs b o e).1) z) (Nat.lt_irrefl _)
 ·
  obtain⟨_,f1,f2,_⟩:=hf b hb;rcases List.mem_cons.mp (I.oz b z) with q|q
  ·exact f1 q
  ·exact f2 q
 ·
  by_cases hi:i<own.length
  ·rw[List.getElem?_append_left (by simpa using hi),List.getElem?_replicate,if_pos hi]at e2
   cases e2
  ·rw[List.getElem?_append_right (by simpa using hi),List.length_replicate]at e2
   replace e1:(own++fq)[i]?=some x:=e1
   rw[List.getElem?_append_right (by lia)]at e1
   obtain⟨j,hj,hσ⟩:=oM e2;have hN:X.N[j]?=some x:=by
    have q:=congrArg (fun l=>l[i-own.length]?) T.at_
    simp only[List.getElem?_map,hj,e1,Option.map_some]at q;exact Option.some.inj q
   have hfx:=T.fr x (vU e1);have hm:=PySem.mem_of_lookup hfx;have hk:=T.free (x,.free) hm rfl;obtain⟨m0,hn0,Fd⟩:=I.loc;obtain⟨u,r,l⟩:=Fd j x v hN hσ (by rcases hk with k|k;exact .inr (.inl k);exact .inr (.inr k))
   refine⟨u,r,.inr ⟨lB hfx,?_⟩⟩;rcases l with⟨kM,_⟩|⟨_,c,hc,hcell⟩
   ·have kM:X.env.scope.names.lookup x=some .local:=kM;rcases hk with k|k<;>(rw[kM]at k;cases k)
   ·obtain⟨c',hc'⟩:=gf (cells:=X.env.cells) (names:=scope.names) (cs:=[]) (x:=x) (.inl hm);have q:=cells x c' hc';rw[hc]at q;cases q;exact⟨c,hc',hcell.keeps old⟩
 ·
  obtain⟨v,q⟩:=I.cell x c (cells x c e);exact⟨v,q.keeps old⟩
 ·
  show upd H D (.lst []) C=none;rw[ao (Ne.symm hDC)];exact Fc
 ·show upd H D (.lst []) c=none;have e:=cells x c e;rw[ao (Nat.ne_of_lt (Nat.lt_of_lt_of_le (hcl x c e) hD))];exact I.dS x c e
 ·exact I.hok.laid old hD ⟨Nat.zero_le _,[],0,.nil,hl⟩
 ·show _=(own++fq).length;have q:=congrArg List.length T.at_;rw[List.length_map,List.length_map]at q;rw[List.length_append,List.length_append,List.length_replicate];unfold eA;rw[List.length_map,q]
theorem kB{pq:aQ}{σ σ' : St}{H H' : Hp}{s s' : Shared}{scope:Scope}{N:List Str}{fp:List Addr}{C:Addr}{h' : Heap}{xe:fD}
 (I:Inv X pq σ H s) (hf:∀ b∈fp,kJ X pq H b) (hC:s.heap.objs.size<=C) (J:Inv (b8 X N scope xe C s H fp) [] σ' H' s') (sb:Heap.SameBut C s'.heap h'):Inv X pq σ H' { s' with heap:=h'}:=by
 have Fc:H' C=none:=J.free;refine I.Ay (ch:=fp) J.os ?_ ?_ J.bare (fun b hb=>?_)
 ·have u:Un (frs X.stack) fp H H' s.heap s'.heap:=J.base;have ne:∀ b o,s.heap.get? b=some o->b≠C:=fun b o e=>Nat.ne_of_lt (Nat.lt_of_lt_of_le (Heap.lt_size e) hC)
  refine⟨fun b o e n hb hx=>(sb.2 b (ne b o e)).trans (u.keep b o e n hb hx),fun b o e n hb hx=>?_,u.free,fun b o e hx=>?_,u.tups,u.jh,u.jl⟩
  ·obtain⟨sl,q⟩:=u.slot b o e n hb hx;exact⟨sl,(sb.2 b (ne b o e)).trans q⟩
  ·obtain⟨o',q⟩:=u.there b o e hx;exact⟨o',(sb.2 b (ne b o e)).trans q⟩
 ·intro b ob e;refine(J.hok b ob e).stay (fun c w' hc q=>(sb.2 c ?_).trans q) (fun _ q=>q) fun _ _ q=>q
  rintro rfl;rcases hc with rfl|hc
  ·rw[Fc]at e;cases e
  ·rw[Fc]at hc;cases hc
 ·obtain⟨_,f1,_,f3,f4,f5⟩:=hf b hb;exact⟨f3,f1,f4,f5⟩
end
section
variable {prog:Program}{w:World}{A:Around}{R:Result->Shared->Prop}{s:Shared}
abbrev x6(ifs:List Expr)(env:Env):Sem Bool:=forIn ifs true fun c r=>if r=true then do let ok←isTrue c env (eval c env);pure (ForInStep.yield ok) else pure (ForInStep.yield r)
theorem sr{elt target iter:Expr}{ifs:List Expr}{scope:Scope}{pos:Pos}{it acc:Value}{env:Env}(I:Nat->Shared->Prop)
 (turn:∀ n s,I n s->wpAny (model prog w) A (pyNext it) (fun r s₁=>match r with
  | none=>R (.ok .next) s₁
  | some v=>wpAny (model prog w) A (letOwnedTupleGo target it v) (fun _ s₀=>wpAny (model prog w) A (assign target env v) (fun _ s₂ =>
   wpAny (model prog w) A (x6 ifs env) (fun ok s₃ =>
    if ok=true then wpAny (model prog w) A (eval elt env) (fun x s₄ =>
     wpAny (model prog w) A (call (.builtin "list.append") [acc,x]) (fun _ s₅=>∃ m,m<n/\I m s₅) (notedBy (model prog w) A env fun e s'=>R (.error e) s') s₄) (notedBy (model prog w) A env fun e s'=>R (.error e) s') s₃
    else ∃ m,m<n/\I m s₃) (notedBy (model prog w) A env fun e s'=>R (.error e) s') s₂) (notedBy (model prog w) A env fun e s'=>R (.error e) s') s₀) (notedBy (model prog w) A env fun e s'=>R (.error e) s') s₁) (notedBy (model prog w) A env fun e s'=>R (.error e) s') s)
 (n:Nat) (h:I n s) :
 codeAny (model prog w) A (.compLoop (.ListComp elt [⟨target,iter,ifs,0⟩] scope pos) 0 it acc env) R s:=by
 refine codeAny_loop rfl I (fun n s hI=>?_) n h
 show wpAny _ A ((compTurn (.ListComp elt [⟨target,iter,ifs,0⟩] scope pos) 0 it acc env).onRaise (fun x=>do noteFrame x env;theTreesLotGoes x)) _ _ s
 refine wpAny_noted ?_;rw[compTurn_list];refine cE (wpAny_standAt (cE (wpAny_mono (turn n s hI) (fun r s₁ h₁=>?_) fun _ _ h'=>h')))
 cases r with
 | none=>exact wpAny_pure h₁
 | some v =>
   refine cE (wpAny_mono h₁ (fun _ s₀ h₀=>?_) fun _ _ h'=>h')
   refine cE (wpAny_mono h₀ (fun _ s₂ h₂=>cE (wpAny_mono h₂ (fun ok s₃ h₃=>?_) fun _ _ h'=>h')) fun _ _ h'=>h')
   cases ok with
   | false=>exact wpAny_pure ⟨rfl,h₃⟩
   | true =>
     exact cE (cE (wpAny_mono h₃ (fun x s₄ h₄=>cE (wpAny_mono h₄ (fun _ s₅ h₅=>wpAny_pure (wpAny_pure ⟨rfl,h₅⟩)) fun _ _ h'=>h')) fun _ _ h'=>h'))
end
def HF(X:Cx)(ifs:List Expr)(t:TT):Prop :=
 ∀(pq:aQ) (s:Shared) (σ:St) (H:Hp) (Q:Bool->Hp->Prop),Inv X pq σ H s->t σ H Q->wpAny (model X.prog X.w) X.A (x6 ifs X.env) (TP X pq σ Q) X.xe s
def HG:TT:=fun _ H Q=>Q true H
theorem cg{X:Cx}:HF X [] HG:=fun _ _ _ H _ I h=>wpAny_tests_nil ⟨H,I,h⟩
theorem fk{X:Cx}{c:Expr}{t:TT}(h:PT X c t):HF X [c] t:=fun pq s σ H Q I q=>wpAny_tests_one (h pq s σ H Q I q)
def hU(J:It)(g:TG)(tt:TT)(te:TE)(n:Nat)(fr:St)(D:Addr)(Q:Hp->Prop)(H1:Hp):Prop :=
 ∃ W:Nat->Nat->List V->Hp->Prop,(∃ m,W 0 m [] H1)/\∀ i m acc H,W i m acc H->H D=some (.lst acc)/\
   ((J.stop i H/\Q H)\/(J.go i H/\acc.length<sizeLine/\∃ N:List V->Hp->Prop,(∀ acc' H',N acc' H'->∃ m',m'<m/\W (i+1) m' acc' H')/\
     ∀ x H',J.D0 i H x H'->g x (List.replicate n none++fr) H' fun σ2 H2=>σ2.drop n=fr/\tt σ2 H2 fun b H3 =>
     if b=true then te σ2 H3 fun v H4=>H4 D=some (.lst acc)/\N (acc++[v]) (upd H4 D (.lst (acc++[v])))
     else N acc H3))
def Ed(wi:TI)(g:TG)(tt:TT)(te:TE)(n:Nat)(js:List Nat):TE:=fun σ H Q=>wi σ H fun J H1=>∀ D,H1 D=none->hU J g tt te n (eA σ js) D (fun H2=>Q (.ref D) H2) (upd H1 D (.lst []))
structure Ef(A:Around)(cm:Bool)(P:Program)(w:World)(K:bw)(tg:Expr)(J:It)(fp:List Addr)(it:Addr)(tn:Nat->Heap->Prop):Prop where
 mem:it∈fp
 obj:∀ i h,tn i h->∀ b∈fp,∃ o,h.get? b=some o/\∀ v,o.data≠.cell v
 keep:∀ i h h',tn i h->(∀ b∈fp,∀ o,h.get? b=some o->h'.get? b=some o)->tn i h'
 item:∀(X:Cx),X.prog=P->X.w=w->X.K=K->X.A=A->X.calm=cm->∀(i:Nat) (pq:aQ) (s:Shared) (σ:St) (H:Hp) (E:fD),Inv X pq σ H s->(∀ b∈fp,kJ X pq H b)->tn i s.heap->J.go i H->
  wpAny (model P w) X.A (pyNext (.ref it)) (fun r s1=>∃ u,r=some u/\
   wpAny (model P w) X.A (letOwnedTupleGo tg (.ref it) u) (fun _ s2=>∃ x H',Inv X pq σ H' s2/\RelV x u/\J.D0 i H x H'/\tn (i+1) s2.heap/\∀ b∈fp,H' b=none) E s1) E s
 done:∀(X:Cx),X.prog=P->X.w=w->X.K=K->X.A=A->X.calm=cm->∀(i:Nat) (pq:aQ) (s:Shared) (σ:St) (H:Hp) (E:fD),Inv X pq σ H s->(∀ b∈fp,kJ X pq H b)->tn i s.heap->J.stop i H->
  wpAny (model P w) X.A (pyNext (.ref it)) (fun r s1=>r=none/\Inv X pq σ H s1) E s
 self:∀(A:Around) (i:Nat) (s:Shared) (Q:fD) (E:fD),tn i s.heap->Q (.ref it) s->wpAny (model P w) A (pyIter (.ref it)) Q E s
theorem Turn.x{A:Around}{cm:Bool}{P:Program}{w:World}{K:bw}{tg:Expr}{J:It}{fp:List Addr}{it:Addr}{tn:Nat->Heap->Prop}(T:Turn P w K tg J fp it tn)(hc:cm=true):Ef A cm P w K tg J fp it tn :=
 ⟨T.mem,T.obj,T.keep,fun X a b c _ d=>T.item X a b c (d.trans hc),fun X a b c _ d=>T.done X a b c (d.trans hc),T.self⟩
section
variable {X:Cx}{elt iter tg:Expr}{ifs:List Expr}{scope:Scope}{pos:Pos}{own fq:List Str}{js:List Nat}{wi:TI}{g:TG}{tt:TT}{te:TE}
theorem oN{pq:aQ}{σ:St}{H2:Hp}{s2:Shared}{it:Addr}{fp:List Addr}{tn:Nat->Heap->Prop}{J:It}{E:fD}{RR:Value->Addr->Result->Shared->Prop}{QQ:Addr->Hp->Prop}
 (T:dm X scope own fq js)
 (hg:∀ C s H fp,PG (b8 X (own++fq) scope (fun _ _=>False) C s H fp) tg g)
 (ht:∀ C s H fp,HF (b8 X (own++fq) scope (fun _ _=>False) C s H fp) ifs tt)
 (he:∀ C s H fp,PE (b8 X (own++fq) scope (fun _ _=>False) C s H fp) elt te)
 (I2:Inv X pq σ H2 s2) (Aq:Ef X.A X.calm X.prog X.w X.K tg J fp it tn) (st2:tn 0 s2.heap) (f2:∀ b∈fp,kJ X pq H2 b)
 (hl:∀ D,H2 D=none->hU J g tt te own.length (eA σ js) D (QQ D) (upd H2 D (.lst [])))
 (hRR:∀ D C σ' H' s',s2.heap.objs.size<=C->Inv (b8 X (own++fq) scope (fun _ _=>False) C s2 H2 fp) [] σ' H' s'->QQ D H'->RR (.ref D) C (.ok .next) s') :
 wpAny (model X.prog X.w) X.A (newList []) (fun acc s₃=>wpAny (model X.prog X.w) X.A (newFunctionEnv scope X.env.globals (b7 X.env.cells scope.names []) [] X.env.qual none .none (some X.env)) (fun cenv s₄ =>
  codeAny (model X.prog X.w) X.A (.compStart (.ListComp elt [⟨tg,iter,ifs,0⟩] scope pos) 0 (.ref it) acc { cenv with scope:=relabel scope X.env}) (RR acc cenv.locals) s₄) E s₃) E s2:=by
 refine wpAny_newObj_type (wpAny_newFunctionEnv T.sq (by intro y hy;simp at hy) (fun h₁ Fe C3=>?_) T.kind)
 dsimp only at Fe C3 ⊢;generalize GG:s2.heap.push { cls:=.type "list",dict:=none,data:=.seq ([]:List Value).toArray}=G2 at Fe C3 ⊢;have hC:G2.objs.size=s2.heap.objs.size+1:=by rw[<-GG,Heap.size_push]
 have hDC:s2.heap.objs.size≠G2.objs.size:=by rw[hC];exact Nat.ne_of_lt (Nat.lt_succ_self _)
 have HH:s2.heap.objs.size<=G2.objs.size:=by rw[hC];exact Nat.le_succ _
 have below:∀ b,b<s2.heap.objs.size->b≠G2.objs.size:=fun b hb=>by rw[hC];exact Nat.ne_of_lt (Nat.lt_succ_of_lt hb)
 have old:∀ b o,s2.heap.get? b=some o->h₁.get? b=some o:=fun b o e=>C3.extBut b o (below b (Heap.lt_size e)) (Heap.get?_push_of_some _ (GG▸Heap.get?_push_of_some _ e))
 have hacc:h₁.get? s2.heap.objs.size=some { cls:=.type "list",data:=.seq ([]:List Value).toArray 0}:=C3.extBut _ _ hDC (Heap.get?_push_of_some _ (GG▸Heap.get?_push_size _ rfl));have KL:∀ b∈fp,∃ o,s2.heap.get? b=some o:=fun b hb=>let⟨o,e,_⟩:=Aq.obj _ _ st2 b hb;⟨o,e⟩
 have st1:tn 0 h₁:=Aq.keep _ _ _ st2 fun b _ o e=>old b o e
 obtain⟨W,⟨m0,w0⟩,turn⟩:=hl s2.heap.objs.size (I2.hok.fresh (Nat.le_refl _));have hfx:∀{H' : Hp},(∀ b∈fp,H' b=none)->∀ b∈fp,kJ (b8 X (own++fq) scope (fun _ _=>False) G2.objs.size s2 H2 fp) [] H' b:=fun {H'} hn b hb=>by
  obtain⟨_,f1,N3,_,f4,_⟩:=f2 b hb;obtain⟨o,ho⟩:=KL b hb;refine⟨hn b hb,below b (Heap.lt_size ho),fun z=>?_,.inl hb,fun x c e=>?_,fun p hp=>absurd (show p∈([]:aQ) from hp) (by simp)⟩
  ·rcases List.mem_cons.mp (I2.oz b z) with q|q
   ·exact f1 q
   ·exact N3 q
  ·rcases gw (show(b7 X.env.cells scope.names []).lookup x=some c from e) with q|⟨q1,q2⟩
   ·cases q
   ·obtain⟨c',hc'⟩:=eZ I2 T x .free q1 rfl;rw[hc']at q2;have q2:c' = c:=q2;rw[<-q2];exact f4 x c' hc'
 have N4:∀ b∈fp,upd H2 s2.heap.objs.size (.lst []) b=none:=fun b hb=>by
  obtain⟨o,ho⟩:=KL b hb;rw[ao (Nat.ne_of_lt (Heap.lt_size ho))];exact(f2 b hb).1
 have back:∀{σ6:St} {p6:aQ} {H6:Hp} {s6:Shared},Inv (b8 X (own++fq) scope (fun _ _=>False) G2.objs.size s2 H2 fp) p6 σ6 H6 s6->σ6.drop own.length=eA σ js->
  Inv (b8 X (own++fq) scope (fun _ _=>False) G2.objs.size s2 H2 fp) [] (List.replicate own.length none++eA σ js) H6 s6:=fun {σ6 p6 H6 s6} I6 hd=>by
  have N5:σ6.length=(own++fq).length:=I6.len;have J6:=I6.fN (nO:=[]) fun p hp=>absurd hp (by simp)
  refine J6.weak ?_ fun i v e=>?_
  ·have q:=congrArg List.length hd;rw[List.length_drop]at q;rw[List.length_append]at N5;rw[List.length_append,List.length_replicate]
   lia
  ·by_cases hi:i<own.length
   ·rw[List.getElem?_append_left (by simpa using hi),List.getElem?_replicate,if_pos hi]at e
    cases e
   ·rw[List.getElem?_append_right (by simpa using hi),List.length_replicate,<-hd,List.getElem?_drop]at e
    rw[show own.length+(i-own.length)=i by lia]at e
    exact e
 have loop:∀ s₃:Shared,s₃={ s2 with heap:=h₁,toks:=s2.toks+([]:List (Str×Value)).length}->
  codeAny (model X.prog X.w) X.A (.compLoop (.ListComp elt [⟨tg,iter,ifs,0⟩] scope pos) 0 (.ref it) (.ref s2.heap.objs.size) (compEnvC scope (b7 X.env.cells scope.names []) G2.objs.size X.env))
   (RR (.ref s2.heap.objs.size) G2.objs.size) s₃:=by
  rintro s₃ rfl;refine sr (fun n s'=>∃ i acc H',Inv (b8 X (own++fq) scope (fun _ _=>False) G2.objs.size s2 H2 fp) [] (List.replicate own.length none++eA σ js) H' s'/\tn i s'.heap/\(∀ b∈fp,H' b=none)/\W i n acc H') ?_ m0
   ⟨0,[],upd H2 s2.heap.objs.size (.lst []),AQ I2 T f2 KL (Nat.le_refl _) HH hDC old hacc Fe,st1,N4,w0⟩
  rintro n s3 ⟨i,acc,H3,I3,st3,D6,w3⟩;obtain⟨yY,HJ⟩:=turn i n acc H3 w3;rcases HJ with⟨stop,qn⟩|⟨go,hz,NN,L7,step⟩
  ·refine wpAny_mono (Aq.done (b8 X (own++fq) scope (fun _ _=>False) G2.objs.size s2 H2 fp) rfl rfl rfl rfl rfl i [] s3 _ H3 (fun _ _=>False) I3 (hfx D6) st3 stop) (fun r s4 ⟨hr,I4⟩=>?_) fun _ _ z=>z.elim
   subst hr;exact hRR _ _ _ H3 s4 HH I4 qn
  ·refine wpAny_mono (Aq.item (b8 X (own++fq) scope (fun _ _=>False) G2.objs.size s2 H2 fp) rfl rfl rfl rfl rfl i [] s3 _ H3 (fun _ _=>False) I3 (hfx D6) st3 go) (fun r s4 ⟨u,hr,h4⟩=>?_) fun _ _ z=>z.elim
   subst hr;refine wpAny_mono h4 (fun _ s5 ⟨x,H5,I5,r5,y5,AH,Hh⟩=>?_) fun _ _ z=>z.elim
   have Hi:=I5.pinned (hfx Hh) (Aq.obj _ _ AH);refine wpAny_mono (hg _ _ _ _ _ s5 _ H5 x u _ Hi r5 (step x H5 y5)) (fun _ s6 ⟨σ6,H6,I6,L8,q6⟩=>?_) fun _ _ z=>z.elim
   refine wpAny_mono (ht _ _ _ _ _ s6 σ6 H6 _ I6 q6) (fun ok s7 ⟨H7,I7,q7⟩=>?_) fun _ _ z=>z.elim
   have again:∀{H8:Hp} {s8:Shared},Inv (b8 X (own++fq) scope (fun _ _=>False) G2.objs.size s2 H2 fp) ([]++lZ fp s5.heap) σ6 H8 s8->tn (i+1) s8.heap/\∀ b∈fp,H8 b=none:=fun {H8 s8} I8=>by
    refine⟨Aq.keep _ _ _ AH fun b hb o e=>(I8.pin (b,o) (lj _ (lj _ (eX hb e)))).1,fun b hb=>?_⟩
    obtain⟨o,e,d⟩:=Aq.obj _ _ AH b hb;exact(I8.pin (b,o) (lj _ (lj _ (eX hb e)))).2.1
   cases ok with
   | false =>
     rw[if_neg Bool.false_ne_true];obtain⟨m',hm,w7⟩:=L7 _ _ q7;obtain⟨t7,n7⟩:=again I7;exact⟨m',hm,i+1,acc,H7,back I7 L8,t7,n7,w7⟩
   | true =>
     rw[if_pos rfl];refine wpAny_mono (he _ _ _ _ _ s7 σ6 H7 _ I7 q7) (fun xv s8 ⟨v,H8,I8,r8,Ff,q8⟩=>?_) fun _ _ z=>z.elim
     obtain⟨m',hm,w8⟩:=L7 _ _ q8;refine wpAny_mono (eY (X:=b8 X (own++fq) scope (fun _ _=>False) G2.objs.size s2 H2 fp) _ s8 σ6 H8 (.ref s2.heap.objs.size) [v] (.ref s2.heap.objs.size) [xv] (fun y H9=>y = .eV/\H9=upd H8 s2.heap.objs.size (.lst (acc++[v]))) I8 rfl (.cons r8 .nil) ⟨_,acc,v,rfl,rfl,Ff,hz,rfl,rfl⟩)
      (fun _ s9 ⟨y,H9,I9,_,_,e9⟩=>?_) fun _ _ z=>z.elim
     subst e9;obtain⟨t9,n9⟩:=again I9;exact⟨m',hm,i+1,acc++[v],_,back I9 L8,t9,n9,w8⟩
 exact codeAny_compStart_list (loop _ rfl) (Aq.self _ 0 _ _ _ st1 (loop _ rfl))
theorem bA(T:dm X scope own fq js)(hc:X.calm=true)(hi:PI X tg iter wi)
 (hg:∀ C s H fp,PG (b8 X (own++fq) scope (fun _ _=>False) C s H fp) tg g)
 (ht:∀ C s H fp,HF (b8 X (own++fq) scope (fun _ _=>False) C s H fp) ifs tt)
 (he:∀ C s H fp,PE (b8 X (own++fq) scope (fun _ _=>False) C s H fp) elt te)
 (hs:∀ x,foldedSetIterable iter X.env x=pure x:=by intro _;rfl) :
 PE X (.ListComp elt [⟨tg,iter,ifs,0⟩] scope pos) (Ed wi g tt te own.length js):=by
 intro pq s σ H Q I h;rw[eval_ListComp];refine wpAny_comprehension_free (use:=none) rfl hs (kL (eZ I T)) T.kind T.names ?_;refine wpAny_mono (hi pq s σ H _ I h) (fun v s1 h1=>wpAny_mono h1 (fun itv s2 h2=>?_) fun _ _ z=>z) fun _ _ z=>z
 obtain⟨it,fp,tn,J,H2,e,I2,Aq,st2,f2,hl⟩:=h2;subst e;refine oN (QQ:=fun D H'=>Q (.ref D) H') T hg ht he I2 (Aq.x hc) st2 f2 hl fun D C σ' H' s' hC J' q=>?_
 obtain⟨m,hn,_⟩:=J'.loc;exact⟨m,hn,fun h' sb=>⟨.ref D,H',kB I2 f2 hC J' sb,rfl,q⟩⟩
def AR(i:Nat)(wi:TI)(g:TG)(tt:TT)(te:TE)(n:Nat)(js:List Nat):TS:=fun D σ H=>Ed wi g tt te n js σ H fun v H1=>D.nx (σ.set i (some v)) H1
theorem nU{i:Nat}{x:Str}{pos' spos:Pos}(hN:X.N.Nodup)(hix:X.N[i]?=some x)(hx:X.env.scope.names.lookup x=some .local)(T:dm X scope own fq js)(hc:X.calm=true)(hi:PI X tg iter wi)
 (hg:∀ C s H fp,PG (b8 X (own++fq) scope (fun _ _=>False) C s H fp) tg g)
 (ht:∀ C s H fp,HF (b8 X (own++fq) scope (fun _ _=>False) C s H fp) ifs tt)
 (he:∀ C s H fp,PE (b8 X (own++fq) scope (fun _ _=>False) C s H fp) elt te)
 (hsw:swapsWith (.ListComp elt [⟨tg,iter,ifs,0⟩] scope pos) (some (.Name x pos')) spos.line X.env=pure true:=by rfl)
 (hs:∀ x,foldedSetIterable iter X.env x=pure x:=by intro _;rfl) :
 PS X (.Assign [.Name x pos'] (.ListComp elt [⟨tg,iter,ifs,0⟩] scope pos) spos) (AR i wi g tt te own.length js):=by
 intro pq s σ H D I h;rw[exec_Assign_Name_used _ _ _ _ hsw];refine cE (wpAny_standAt (cE ?_));show wpAny _ X.A (do let _←comprehension (.ListComp elt [⟨tg,iter,ifs,0⟩] scope pos) scope X.env _ (newList []) false (eval iter X.env) (some (assign (.Name x pos') X.env))) _ _ s
 refine cE (wpAny_mono (wpAny_comprehension_free (use:=some (assign (.Name x pos') X.env)) (Q:=fun _ s'=>SP X pq D .next s') rfl hs (kL (eZ I T)) T.kind T.names ?_) (fun _ s' hq=>wpAny_pure (wpAny_pure hq)) fun _ _ e=>e)
 refine wpAny_mono (hi pq s σ H _ I h) (fun v s1 h1=>wpAny_mono h1 (fun itv s2 h2=>?_) fun _ _ z=>z) fun _ _ z=>z
 obtain⟨it,fp,tn,J,H2,e,I2,Aq,st2,f2,hl⟩:=h2;subst e;refine oN (QQ:=fun D' H'=>D.nx (σ.set i (some (.ref D'))) H') T hg ht he I2 (Aq.x hc) st2 f2 hl fun D' C σ' H' s' hC J' q=>?_
 have I3:Inv X pq σ H' s':=by
  obtain⟨hh,gg,dd,Ry,oo⟩:=s';exact kB I2 f2 hC J' (Heap.SameBut.refl ..)
 obtain⟨m,hn,_⟩:=J'.loc;obtain⟨oC,es,ep,N6,Ma,rest⟩:=id hn;have Fc:H' C=none:=J'.free;have Mb:C≠X.env.locals:=Nat.ne_of_gt (Nat.lt_of_lt_of_le I2.lt hC);have N7:C∉X.fs:=fun z=>by
  obtain⟨_,o,ho,_⟩:=I2.funs.mem z;exact absurd (Nat.lt_of_lt_of_le (Heap.lt_size ho) hC) (Nat.lt_irrefl _)
 have I4:Inv X (pq++[(C,oC)]) σ H' s':=I3.fN fun p hp=>(List.mem_append.mp hp).elim (fun z=>I3.pin p (lj _ z)) fun z=>by
  have e:p=(C,oC):=by simpa using z
  subst e;exact⟨N6,Fc,Mb,N7,fun v z=>by have z' : oC.data = .cell v:=z;rw[Ma]at z';cases z'⟩
 show wpAny _ X.A (assign (.Name x pos') X.env (.ref D')) _ _ _;refine wpAny_assign_Name (jm (v:=.ref D') I4 hN hix (.inl hx) rfl (fun s5 I5=>?_) (.inr hx))
 have e5:s5.heap.get? C=some oC:=(I5.pin (C,oC) (lj _ (lj _ (by simp)))).1
 refine⟨m,⟨oC,es,ep,e5,Ma,rest⟩,fun h' sb=>⟨_,H',?_,q⟩⟩
 have I6:Inv X pq (σ.set i (some (.ref D'))) H' s5:=I5.gb;refine I6.turned (t':=s5.toks) (fun b o hb e=>(sb.2 b hb).trans e) Fc Mb (.inr (Nat.le_trans I2.sz hC)) (fun y c e=>?_) (fun p hp z=>?_)
 ·obtain⟨v,qc⟩:=I2.cell y c e;exact Nat.ne_of_lt (Nat.lt_of_lt_of_le qc.lt hC)
 ·have Mc:=(I2.pin p hp).1;exact absurd (Nat.lt_of_lt_of_le (Heap.lt_size Mc) (by rw[z];exact hC)) (Nat.lt_irrefl _)
end
section
variable {K:bw}{a:Addr}{xs:List V}{g:TG}{tt:TT}{te:TE}{n:Nat}{fr:St}{D:Addr}{Q:Hp->Prop}{H1:Hp}
theorem bD(Pv:Nat->List V->Hp->Prop)(h0:Pv 0 [] H1)(hl:∀ i acc H,i<=xs.length->Pv i acc H->aR K H a xs/\H D=some (.lst acc)/\acc.length<=i)(hz:xs.length<=sizeLine)
 (hs:∀ i x acc H,xs[i]?=some x->Pv i acc H->g x (List.replicate n none++fr) H fun σ2 H2=>σ2.drop n=fr/\tt σ2 H2 fun b H3 =>
  if b=true then te σ2 H3 fun v H4=>H4 D=some (.lst acc)/\Pv (i+1) (acc++[v]) (upd H4 D (.lst (acc++[v]))) else Pv (i+1) acc H3)
 (hd:∀ acc H,Pv xs.length acc H->Q H):hU (CH K a) g tt te n fr D Q H1:=by
 refine⟨fun i m acc H=>m=xs.length-i/\i<=xs.length/\Pv i acc H,⟨xs.length,by simp,Nat.zero_le _,h0⟩,?_⟩
 rintro i m acc H ⟨rfl,hi,p⟩;obtain⟨q,hD,ha⟩:=hl i acc H hi p;refine⟨hD,?_⟩
 by_cases hlt:i<xs.length
 ·refine .inr ⟨⟨xs,xs[i],q,by simp[hlt]⟩,by lia,Pv (i+1),fun acc' H' p'=>⟨xs.length-(i+1),by lia,rfl,hlt,p'⟩,fun x H' y=>?_⟩
  obtain⟨e,y⟩:=y;subst e;exact hs i x acc _ (y xs q) p
 ·have e:i=xs.length:=by lia
  subst e;exact .inl ⟨⟨xs,q,Nat.le_refl _⟩,hd acc H p⟩
theorem cu{lo:Int}{m:Nat}(Pv:Nat->List V->Hp->Prop)(h0:Pv 0 [] H1)(hl:∀ i acc H,i<=m->Pv i acc H->H D=some (.lst acc)/\acc.length<=i)(hz:m<=sizeLine)
 (hs:∀ i acc H,i<m->Pv i acc H->g (.int (lo+i)) (List.replicate n none++fr) H fun σ2 H2=>σ2.drop n=fr/\tt σ2 H2 fun b H3 =>
  if b=true then te σ2 H3 fun v H4=>H4 D=some (.lst acc)/\Pv (i+1) (acc++[v]) (upd H4 D (.lst (acc++[v]))) else Pv (i+1) acc H3)
 (hd:∀ acc H,Pv m acc H->Q H):hU (AG lo m) g tt te n fr D Q H1:=by
 refine⟨fun i k acc H=>k=m-i/\i<=m/\Pv i acc H,⟨m,by simp,Nat.zero_le _,h0⟩,?_⟩
 rintro i k acc H ⟨rfl,hi,p⟩;obtain⟨hD,ha⟩:=hl i acc H hi p;refine⟨hD,?_⟩
 by_cases hlt:i<m
 ·refine .inr ⟨hlt,by lia,Pv (i+1),fun acc' H' p'=>⟨m-(i+1),by lia,rfl,hlt,p'⟩,fun x H' y=>?_⟩
  obtain⟨e,y⟩:=y;subst e y;exact hs i acc _ hlt p
 ·have e:i=m:=by lia
  subst e;exact .inl ⟨Nat.le_refl _,hd acc H p⟩
end
def uv(scope HK:Scope)(N fq:List Str)(js:List Nat):Bool :=
 decide (scope.kind = .function)&&scope.names.all (fun y=>decide (y.2≠.cell))&&scope.names.all (fun y=>decide (y.2 = .local->scope.names.lookup y.1=some .local)) &&
 scope.names.all (fun y=>decide (y.2 = .free->HK.names.lookup y.1=some .cell\/HK.names.lookup y.1=some .free))&&decide (js.map (fun j=>N[j]?)=fq.map some)&&fq.all (fun x=>decide (scope.names.lookup x=some .free))
theorem aF{X:Cx}{scope:Scope}{own fq:List Str}{js:List Nat}(HK:Scope)(N:List Str)(h1:X.env.scope=HK:=by rfl)(h2:X.N=N:=by rfl)(h:uv scope HK N fq js=true:=by decide +kernel):dm X scope own fq js:=by
 unfold uv at h;simp only[Bool.and_eq_true,decide_eq_true_eq,List.all_eq_true]at h;obtain⟨⟨⟨⟨⟨a,b⟩,c⟩,d⟩,e⟩,f⟩:=h;exact⟨a,b,c,by rw[h1];exact d,by rw[h2];exact e,f⟩
mutual
inductive lC(K:bw)(H:Hp):V->PyData->Prop
 | eV:lC K H .eV .none
 | bl (b:Bool):lC K H (.bl b) (.bool b)
 | int (i:Int):lC K H (.int i) (.int i)
 | str (x:Str):lC K H (.str x) (.str x)
 | lst {a:Addr} {xs:List V} {ds:List PyData} (h:aR K H a xs) (r:DatVs K H xs ds):lC K H (.ref a) (.list ds)
 | tup {a:Addr} {xs:List V} {ds:List PyData} (h:bB K H a xs) (r:DatVs K H xs ds):lC K H (.ref a) (.tuple ds)
inductive DatVs(K:bw)(H:Hp):List V->List PyData->Prop
 | nil:DatVs K H [] []
 | cons {x:V} {d:PyData} {xs:List V} {ds:List PyData} (h:lC K H x d) (r:DatVs K H xs ds):DatVs K H (x::xs) (d::ds)
end
section
variable {X:Cx}{pq:aQ}{σ:St}{H:Hp}{s:Shared}
mutual
theorem lC.reads(I:Inv X pq σ H s):∀{v:V} {d:PyData} {u:Value},lC X.K H v d->RelV v u->∃ as,Reads s.heap u d as
 | _,_,u,.eV,r=>by cases(show u=Value.none from r);exact⟨_,.none⟩
 | _,_,u,.bl b,r=>by cases(show u=Value.bool b from r);exact⟨_,.bool b⟩
 | _,_,u,.int i,r=>by obtain⟨t,rfl⟩:=(show ∃ t,u=Value.int i t from r);exact⟨_,.int i t⟩
 | _,_,u,.str x,r=>by obtain⟨t,rfl⟩:=(show ∃ t,u=Value.str x t from r);exact⟨_,.str x t⟩
 | _,_,u,.lst (a:=a) h rs,r=>by
   cases(show u=Value.ref a from r)
   obtain⟨its,rv,⟨o,n,e,c,_,d⟩,_⟩:=I.list h;obtain⟨as,q⟩:=DatVs.reads I rs rv;exact⟨_,.list e c d (by simpa using q)⟩
 | _,_,u,.tup (a:=a) h rs,r=>by
   cases(show u=Value.ref a from r)
   obtain⟨its,rv,⟨o,e,c,n,d⟩,_⟩:=I.tuple h;obtain⟨as,q⟩:=DatVs.reads I rs rv;exact⟨_,.tuple e c d (by simpa using q)⟩
theorem DatVs.reads(I:Inv X pq σ H s):∀{vs:List V} {ds:List PyData} {us:List Value},DatVs X.K H vs ds->Vals vs us->∃ as,ReadsAll s.heap us ds as
 | _,_,_,.nil,.nil=>⟨_,.nil⟩
 | _,_,_,.cons h r,.cons rv rr=>by
   obtain⟨as,q⟩:=lC.reads I h rv;obtain⟨bs,q2⟩:=DatVs.reads I r rr;exact⟨_,.cons q q2⟩
end
end
section
variable {X:Cx}
def HM(K:bw):R2:=fun x y H Q=>∃ d e,lC K H x d/\lC K H y e/\SeqAt.shaped d=true/\SeqAt.shaped e=true/\Q (.bl (PyData.eqv d e)) H
def HN(K:bw):R2:=fun x y H Q=>∃ d e,lC K H x d/\lC K H y e/\SeqAt.shaped d=true/\SeqAt.shaped e=true/\Q (.bl (!PyData.eqv d e)) H
theorem Fg(hu:X.A.units+64<cLine):jV X (compareOp .Eq) (HM X.K):=by
 intro pq s σ H x y v u Q I rx ry h;obtain⟨d,e,h1,h2,s1,s2,q⟩:=h;obtain⟨as,ra⟩:=h1.reads I rx;obtain⟨bs,rb⟩:=h2.reads I ry;exact eq_dataH ra rb s1 s2 hu ⟨.bl _,H,I,rfl,q⟩
theorem Fi(hu:X.A.units+64<cLine):jV X (compareOp .NotEq) (HN X.K):=by
 intro pq s σ H x y v u Q I rx ry h;obtain⟨d,e,h1,h2,s1,s2,q⟩:=h;obtain⟨as,ra⟩:=h1.reads I rx;obtain⟨bs,rb⟩:=h2.reads I ry;exact ne_dataH ra rb s1 s2 hu ⟨.bl _,H,I,rfl,q⟩
def Fj:V->Option Value
 | .ty n=>some (.type n)
 | .ref a=>some (.ref a)
 | _=>none
theorem x8{c:V}{u w:Value}(h:Fj c=some u)(r:RelV c w):w=u:=by
 cases c with
 | ty n=>exact(show w=Value.type n from r).trans (Option.some.inj h)
 | ref a=>exact(show w=Value.ref a from r).trans (Option.some.inj h)
 | _=>cases h
def HP(K:bw):List V->Hp->VK->Prop:=fun xs H Q=>∃ x c t u b,xs=[x,c]/\Fj c=some u/\l7 K H x t/\PySem.W.kitOne K t u=some b/\Q (.bl b) H
theorem AS:eU X (.builtin "isinstance") (HP X.K):=by
 intro pq s σ H xs us Q I r h;obtain⟨x,c,t,u,b,rfl,rc,ty,e,q⟩:=h;cases r with
 | cons r1 r2 =>
   cases r2 with
   | cons r2 r3 =>
     cases r3;cases x8 rc r2;exact yS I r1 ty e fun tk=>⟨.bl b,H,I.tok tk,rfl,q⟩
theorem Fl(K:bw):PySem.W.kitOne K (.type "int") (.type "int")=some true:=by with_unfolding_all rfl
theorem Fo(K:bw):PySem.W.kitOne K (.type "int") (.type "bool")=some false:=by with_unfolding_all rfl
theorem Fp(K:bw):PySem.W.kitOne K (.type "list") (.type "list")=some true:=by with_unfolding_all rfl
theorem C4:KA X "int.bit_length" (fun x xs H Q=>∃ i,x = .int i/\xs=[]/\Q (.int (Builtin.Int.intBits i)) H):=by
 intro pq s σ H x xs v us Q I rx rs h;obtain⟨i,rfl,rfl,q⟩:=h;obtain⟨t,rfl⟩:=rx;cases rs;exact call_int_bit_length ⟨.int _,H,I.tok _,⟨_,rfl⟩,q⟩
theorem C5{x:Str}{v:Int}{pos:Pos}(hg:Gl X x)(h:∃ t,X.mg x=some (.int v t))(hd:(x==("__debug__":Str))=false:=by decide):PE X (.Name x pos) (tC (.int v)):=by
 obtain⟨t,e⟩:=h;exact xK hg e ⟨t,rfl⟩ hd
end
theorem dl{n:Nat}(h:Nat.ble n 1000=true):n<=sizeLine:=Nat.le_of_lt (jX (Nat.le_of_ble_eq_true h))
theorem iD{j:Int}(h:decide (0<j)=true):0<j:=kr h
theorem aq.new{H:Hp}{p:Addr}{o:HO}(h:H p=none):aq H (upd H p o):=fun b u e=>by
 rw[ao (aU e h)];exact e
theorem aq.put{H H2:Hp}{D:Addr}{o:HO}(s:aq H H2)(h:H D=none):aq H (upd H2 D o):=fun b u e=>by
 rw[ao (aU e h)];exact s b u e
def jt(H H' : Hp):Prop:=∀ b xs,H b=some (.tup xs)->H' b=some (.tup xs)
theorem aq.tups{H H' : Hp}(s:aq H H'):jt H H':=fun b xs e=>s b _ e
theorem jt.trans{H H1 H2:Hp}(a:jt H H1)(b:jt H1 H2):jt H H2:=fun c xs e=>b c xs (a c xs e)
theorem jt.put{H:Hp}{D:Addr}{o:HO}{ys:List V}(h:H D=some (.lst ys)):jt H (upd H D o):=fun b xs e=>by
 rw[ao (cB e h (by intro z;cases z))]
 exact e
theorem Paired.uw{α β:Type}{F:α->β->Prop}:∀{l:List α} {r:List β} {i:Nat} {x:α},Paired F l r->l[i]?=some x->∃ y,r[i]?=some y/\F x y
 | _,_,_,_,.nil,e=>by simp at e
 | _,_,0,_,.cons h _,e=>by
   simp at e;subst e;exact⟨_,rfl,h⟩
 | _,_,i+1,x,.cons _ t,e=>by
   obtain⟨y,h1,h2⟩:=Paired.uw (i:=i) (x:=x) t (by simpa using e)
   exact⟨y,by simpa using h1,h2⟩
theorem AU(ns:List Int)(lo hi:Option Int):yU (ns.map V.int) lo hi=((ns.drop (HT.nS ns.length 0 lo)).take (HT.nS ns.length ns.length hi-HT.nS ns.length 0 lo)).map V.int:=by
 unfold yU;rw[List.length_map,<-List.map_drop,<-List.map_take]
section
variable {X:Cx}{l:Expr}{tl:TE}{tg a b o e:Expr}{ta tb to:TE}{es:List Expr}
theorem AV(K:bw)(hu:X.A.units+64<cLine)(h:X.K=K:=by rfl):jV X (compareOp .Eq) (HM K):=by subst h;exact Fg hu
theorem Fq(K:bw)(hu:X.A.units+64<cLine)(h:X.K=K:=by rfl):jV X (compareOp .NotEq) (HN K):=by subst h;exact Fi hu
theorem Ft(K:bw)(h:X.K=K:=by rfl):eU X (.builtin "isinstance") (HP K):=by subst h;exact AS
def HQ(K:bw):List V->Hp->VK->Prop:=fun xs H Q=>∃ p ys,xs=[.ref p]/\(aR K H p ys\/bB K H p ys)/\Q (.int ys.length) H
theorem KN(K:bw)(h:X.K=K:=by rfl):eU X (.builtin "len") (HQ K):=by subst h;exact sj
def HR(K:bw):List V->Hp->VK->Prop:=fun xs H Q=>∃ p ys,xs=[.ref p]/\((aR K H p ys/\∀ l,H l=none->Q (.ref l) (upd H l (.tup ys)))\/(bB K H p ys/\Q (.ref p) H))
theorem Eg(K:bw)(h:X.K=K:=by rfl):eU X (.type "tuple") (HR K):=by subst h;exact qk
theorem k9(K:bw)(h:X.K=K:=by rfl):GF X (Hx K):=by subst h;exact CS
theorem cA(K:bw)(h:X.K=K:=by rfl):GF X (Hy K):=by subst h;exact E6
theorem Me(K:bw)(h:X.K=K:=by rfl):Kz X (HA K):=by subst h;exact CT
theorem v9(K:bw)(h:X.K=K:=by rfl):jV X (compareOp .NotIn) (LZ K true):=by subst h;exact se
theorem q9(K:bw)(hl:PE X l tl)(h:X.K=K:=by rfl):PI X tg l (D5 K tl):=by subst h;exact CI hl
theorem JA(K:bw){k:Nat}{t:DZ}{n:Nat}{pos:Pos}(hc:X.calm=true)(hp:G3 X es t)(hn:(assignEach es X.env).length=n:=by rfl)(hst:(assignEach es X.env).findIdx? (·.1)=none:=by rfl)(h:X.K=K:=by rfl):
 PG X (.Tuple es k pos) (G6 K n t):=by subst h;exact EU hc hp hn hst
theorem x9{x:Str}{T:String}{pos:Pos}(hg:Gl X x)(hm:X.mg x=none)(hv:bootBuiltins x=some (.type T))(hn:x≠"__name__":=by decide)(hd:(x==("__debug__":Str))=false:=by decide):PE X (.Name x pos) (tC (.ty T)) :=
 CD hg hm hv rfl hn hd
end
def ql(od:Option Addr)(c:Value)(e:Addr)(h:Heap):Prop:=∃ oe vs,h.get? e=some oe/\oe.data = .fields vs/\vs[2]?=some c/\oe.dict=od
theorem AW(o:Obj)(f):(o.mapFields f).dict=o.dict:=by
 obtain⟨c,d,dt,sl⟩:=o;cases dt<;>rfl
section
variable {M:Model}{A:Around}{E:fD}{s:Shared}{B:Heap}{env:Env}{outer l:List Env}{L e:Addr}{cls a0:Value}{Q:Unit->Shared->Prop}{od:Option Addr}{c:Value}
theorem su{h:Heap}{T:Addr}{oT:Obj}{ts:Array Value}(f:Obj->Obj)(hT:h.get? T=some oT)(hd:oT.data = .fields ts):h.UpToSlots (h.update T f):=fun b o hb hn=>by
 have ne:T≠b:=fun z=>by
  rw[<-z,hT]at hb;cases hb;exact hn ts hd
 exact⟨o.slots,(Heap.get?_update_other h f ne).trans hb⟩
theorem l8{h:Heap}{T:Addr}(f:Obj->Obj)(k:B.StaysIn h)(n:B.get? T=none):B.StaysIn (h.update T f):=fun b o hb=>by
 have ne:T≠b:=fun z=>by
  rw[<-z,n]at hb;cases hb
 exact(Heap.get?_update_other h f ne).trans (k b o hb)
theorem iE{h h' : Heap}(x:h.FunFrames B l)(u:h.UpToSlots h'):h'.FunFrames B l:=x.of_keeps fun b o hb hn =>
 let⟨_,q⟩:=u b o hb hn
 ⟨_,q,rfl⟩
theorem ya{fl:Value}(hk:B.StaysIn s.heap)(hn:B.get? e=none)(hl:s.heap.FunFrames B l)(ht:s.heap.TracedAtW B e cls a0 fl)(h2:ql od c e s.heap)
 (q:∀ h',Heap.FlyingW B l e cls a0 h'->ql od c e h'->s.heap.UpToSlots h'->Q () { s with heap:=h'}):wpAny M A (setFlight (.ref e) none) Q E s:=by
 obtain⟨oe,vs,T,oT,ts,ge,hc,de,f1,nT,Te,gT,dT,f3⟩:=ht;have z3:3<ts.size:=(Array.getElem?_eq_some_iff.mp f3).1;rw[setFlight];refine cE (wpAny_field ge de f1 ?_);rw[if_pos (by simp)]
 refine wpAny_setField gT dT z3 ?_;have up:=su (Obj.mapFields (·.setIfInBounds 3 ((none:Option Addr).elim Value.none fun f=>rawInt f))) gT dT
 have JB:=(Heap.get?_update_other s.heap (Obj.mapFields (·.setIfInBounds 3 ((none:Option Addr).elim Value.none fun f=>rawInt f))) Te).trans ge
 have Mf:=Obj.data_mapFields dT (·.setIfInBounds 3 ((none:Option Addr).elim Value.none fun f=>rawInt f))
 refine q _ ⟨l8 _ hk nT,hn,iE hl up,oe,vs,T,_,_,JB,hc,de,f1,nT,Te,Heap.get?_update_self _ gT (Obj.isFreed_of_fields Mf),Mf,by simp[z3]⟩ ?_ up
 obtain⟨o2,v2,g2,d2,k2,z2⟩:=h2;rw[ge]at g2;cases g2;exact⟨oe,v2,JB,d2,k2,z2⟩
theorem AX{oe:Obj}{vs:Array Value}{head:Value}{hadNext:Bool}(hfr:A.frames=some (env::outer))(hl:s.heap.FunFrames B (env::outer))(hf:env.frame=some L)(ge:s.heap.get? e=some oe)(hk:B.StaysIn s.heap)(hn:B.get? e=none)
 (de:oe.data = .fields vs) (hz:1<vs.size) (h0:vs[0]?=some a0) (h2:vs[2]?=some c) (hz2:oe.dict=od)
 (q:∀ h',Heap.HeldW B (env::outer) e oe.cls a0 L h'->ql od c e h'->s.heap.UpToSlots h'->Q () { s with heap:=h'}) :
 wpAny M A (do let a←frameOf env;let pl←entryPlaceOf L hadNext;let b←EntryCells.newEntry head a .none (rawInt L) .none pl;setField (.ref e) 1 b) Q E s:=by
 have KO:e∉(env::outer).filterMap (·.frame):=fun z=>by
  obtain⟨_,o,ho,nf⟩:=hl.mem z;rw[ge]at ho;cases ho;exact nf vs de
 refine cE (wpAny_frameOf_fun hfr hl hf fun h1 so=>cE (wpAny_entryPlaceOf fun pl ip=>?_))
 rw[EntryCells.newEntry,newFields];refine cE (wpAny_newObj_type ?_ (ip.sizeOk5 _ _ _ _ _));generalize hnw:({ cls:=.type "traceback",dict:=none,data:=.fields ([head,.ref L,.none,rawInt L,.none]++(if pl.isEmpty then List.replicate 6 Value.none else pl)).toArray}:Obj)=nw
 have dn:nw.data = .fields ([head,.ref L,.none,rawInt L,.none]++(if pl.isEmpty then List.replicate 6 Value.none else pl)).toArray:=by rw[<-hnw]
 have ge1:h1.get? e=some oe:=(so.2.1 e KO).trans ge;have KP:=Heap.get?_push_of_some (h:=h1) nw ge1;have Te:h1.objs.size≠e:=Nat.ne_of_gt (Heap.lt_size ge1);refine wpAny_setField KP de hz ?_;have KQ:=Obj.data_mapFields de (·.setIfInBounds 1 (Value.ref h1.objs.size));have Mg:=Heap.get?_update_self (Obj.mapFields (·.setIfInBounds 1 (Value.ref h1.objs.size))) KP (Obj.isFreed_of_fields KQ);have N8:=(Heap.get?_update_other (h1.push nw) (Obj.mapFields (·.setIfInBounds 1 (Value.ref h1.objs.size))) (Ne.symm Te)).trans (Heap.get?_push_size h1 (by rw[<-hnw];rfl))
 have up:s.heap.UpToSlots ((h1.push nw).update e (Obj.mapFields (·.setIfInBounds 1 (Value.ref h1.objs.size)))):=by
  have u1:s.heap.UpToSlots h1:=fun b o hb _=>so.2.2 b o hb
  exact(u1.trans (.of_keeps fun b o hb=>Heap.get?_push_of_some nw hb)).trans (su _ KP de)
 have k1:B.StaysIn h1:=fun b o hb=>(so.2.1 b fun z=>by rw[(hl.mem z).1]at hb;cases hb).trans (hk b o hb)
 have k2:B.StaysIn (h1.push nw):=fun b o hb=>Heap.get?_push_of_some nw (k1 b o hb)
 refine q _ ⟨l8 _ k2 hn,hn,iE hl up,_,_,h1.objs.size,nw,_,Mg,⟨Obj.cls_mapFields _ _,by rw[Array.getElem?_setIfInBounds_ne (by decide)];exact h0⟩,KQ,by simp[hz],k1.fresh,Te,N8,dn,?_⟩ ?_ up
 ·first | (simp;done) | (rcases ip with rfl | ⟨_,_,_,_,_,_,_,rfl⟩<;>simp)
 ·exact⟨_,_,Mg,KQ,by rw[Array.getElem?_setIfInBounds_ne (by decide)];exact h2,(AW _ _).trans hz2⟩
theorem Eh(hfr:A.frames=some (env::outer))(hf:env.frame=some L)(fl:Heap.FlyingW B (env::outer) e cls a0 s.heap)(h2:ql od c e s.heap)
 (q:∀ h',Heap.HeldW B (env::outer) e cls a0 L h'->ql od c e h'->s.heap.UpToSlots h'->Q () { s with heap:=h'}):wpAny M A (noteFrame (.ref e) env) Q E s:=by
 obtain⟨hk,hn,hl,oe,vs,T,oT,ts,ge,⟨hc,h0⟩,de,f1,nT,Te,gT,dT,f3⟩:=fl;obtain⟨o2,v2,g2,d2,k2,z2⟩:=h2;rw[ge]at g2;cases g2;rw[de]at d2;cases d2;cases hc;rw[noteFrame];simp only[hf];refine cE (wpAny_field ge de f1 ?_);rw[if_pos (by simp)]
 refine cE (wpAny_field gT dT f3 ?_);rw[if_neg (by simp[rawInt])]
 refine cE (wpAny_setField gT dT (Array.getElem?_eq_some_iff.mp f3).1 ?_);have up:=su (Obj.mapFields (·.setIfInBounds 3 Value.none)) gT dT;have JB:=(Heap.get?_update_other s.heap (Obj.mapFields (·.setIfInBounds 3 Value.none)) Te).trans ge;exact AX (s:={ s with heap:=s.heap.update T (Obj.mapFields (·.setIfInBounds 3 Value.none))}) hfr (iE hl up) hf JB (l8 _ hk nT) hn de (Array.getElem?_eq_some_iff.mp f1).1 h0 k2 z2 fun h' x1 x2 x3=>q h' x1 x2 (up.trans x3)
theorem HS(x:Heap.FlyingW B (env::outer) e cls a0 s.heap):Heap.FlyingW B outer e cls a0 s.heap :=
 let⟨k1,k2,⟨_,_,k3⟩,k4⟩:=x
 ⟨k1,k2,k3,k4⟩
theorem leave_on2(hfr:A.frames=some (env::outer))(hf:env.frame=some L)(fl:Heap.FlyingW B (env::outer) e cls a0 s.heap)(h2:ql od c e s.heap)
 (q:∀ h',Heap.FlyingW B outer e cls a0 h'->ql od c e h'->s.heap.UpToSlots h'->Q () { s with heap:=h'}):wpAny M A (leaving env (.ref e)) Q E s:=by
 rw[leaving];refine cE (Eh hfr hf fl h2 fun h' x1 x2 x3=>?_)
 obtain⟨y1,y2,y3,y4⟩:=x1;exact ya (s:={ s with heap:=h'}) y1 y2 y3 y4 x2 fun h'' z1 z2 z3=>q h'' (HS (s:={ s with heap:=h''}) z1) z2 (x3.trans z3)
theorem leave_new{oe:Obj}{vs:Array Value}(hfr:A.frames=some (env::outer))(hf:env.frame=some L)(hk:B.StaysIn s.heap)(hn:B.get? e=none)(hl:s.heap.FunFrames B (env::outer))(ge:s.heap.get? e=some oe)(de:oe.data = .fields vs)
 (h0:vs[0]?=some a0) (h1:vs[1]?=some .none) (h2:vs[2]?=some c) (hz2:oe.dict=od)
 (q:∀ h',Heap.FlyingW B outer e oe.cls a0 h'->ql od c e h'->s.heap.UpToSlots h'->Q () { s with heap:=h'}):wpAny M A (leaving env (.ref e)) Q E s:=by
 rw[leaving,noteFrame];simp only[hf];refine cE (cE (wpAny_field ge de h1 ?_));rw[if_neg (by decide)]
 refine AX (a0:=a0) hfr hl hf ge hk hn de (Array.getElem?_eq_some_iff.mp h1).1 h0 h2 hz2 fun h' x1 x2 x3=>?_
 obtain⟨y1,y2,y3,y4⟩:=x1;exact ya (s:={ s with heap:=h'}) y1 y2 y3 y4 x2 fun h'' z1 z2 z3=>q h'' (HS (s:={ s with heap:=h''}) z1) z2 (x3.trans z3)
end
section
variable {P:Program}{w:World}{H H0 H1:Hp}{h h0 h1 h2:Heap}{a:Addr}{o:HO}{fs:List Addr}{B:Heap}
theorem bu.thing(x:bu P w H h a o):∃ ob,h.get? a=some ob:=by
 cases o with
 | lst xs=>obtain⟨_,_,_,_,e⟩:=x;exact⟨_,e⟩
 | tup xs=>obtain⟨_,_,_,ob,e,_⟩:=x;exact⟨ob,e⟩
 | dK kvs=>obtain⟨_,_,_,_,ob,_,_,e,_⟩:=x;exact⟨ob,e⟩
 | dT kvs=>obtain⟨_,_,_,_,ob,_,_,e,_⟩:=x;exact⟨ob,e⟩
 | set S n=>obtain⟨ob,_,_,_,e,_⟩:=x;exact⟨ob,e⟩
 | ins C dx fs=>obtain⟨_,_,_,e,_⟩:=x;exact⟨_,e⟩
 | own y=>exact x
 | xd fs=>obtain⟨_,⟨ob,_,_,e,_⟩,_⟩:=x;exact⟨ob,e⟩
 | yH lo hi=>obtain⟨_,_,_,e⟩:=x;exact⟨_,e⟩
 | m9 ob u=>obtain⟨e,_⟩:=x;exact⟨_,e⟩
 | jU ps=>obtain⟨_,e,_⟩:=x;exact⟨_,e⟩
 | met f y=>exact⟨_,(show h.get? a=some _ from x)⟩
 | ext φ=>obtain⟨_,e,_⟩:=x;exact e
def C6(B:Heap)(fs:List Addr)(h0:Heap)(H:Hp)(h:Heap):Prop:=∀ b o,h.get? b=some o->(H b≠none\/∃ o',h0.get? b=some o')->b∉fs->B.get? b=some o
theorem ux(un:Un fs [] H0 H1 h0 h1)(hok:lq P w H1 h1)(KR:∀ b∈fs,H1 b=none)(fr:∀ b∈fs,∀ ob,h1.get? b=some ob->∀ vs,ob.data≠.fields vs)(yZ:C6 B fs h0 H1 h1)
 (hB:B.StaysIn h2) (up:h1.UpToSlots h2):Un fs [] H0 H1 h0 h2/\lq P w H1 h2/\C6 B fs h0 H1 h2:=by
 have KS:∀ b ob,h1.get? b=some ob->(H1 b≠none\/∃ o',h0.get? b=some o')->b∉fs->h2.get? b=some ob:=fun b ob e c n=>hB b ob (yZ b ob e c n)
 have GB:∀ b u,H1 b=some u->b∉fs:=fun b u e z=>by
  rw[KR b z]at e;cases e
 refine⟨⟨fun b ob e n hb hx=>KS b ob (un.keep b ob e n hb hx) (.inr ⟨ob,e⟩) hb,fun b ob e n hb hx=>?_,un.free,fun b ob e hx=>?_,un.tups,un.jh,un.jl⟩,fun b u e=>?_,fun b ob e c n=>?_⟩
 ·obtain⟨sl,q⟩:=un.slot b ob e n hb hx;obtain⟨Jw,q'⟩:=up b _ q (fr b hb _ q);exact⟨Jw,q'⟩
 ·obtain⟨o',q⟩:=un.there b ob e hx
  by_cases hb:b∈fs
  ·obtain⟨Jw,q'⟩:=up b _ q (fr b hb _ q);exact⟨_,q'⟩
  ·exact⟨o',KS b o' q (.inr ⟨ob,e⟩) hb⟩
 ·refine(hok b u e).stay (fun c v hc q=>?_) (fun _ q=>q) fun _ _ q=>q
  have hct:∃ z,H1 c=some z:=by
   rcases hc with hc|hc
   ·rw[hc];exact⟨u,e⟩
   ·exact⟨_,hc⟩
  obtain⟨z,hz⟩:=hct;exact KS c v q (.inl (by rw[hz];simp)) (GB c z hz)
 ·have ht:∃ o1,h1.get? b=some o1:=by
   rcases c with c|⟨o',c⟩
   ·cases hz:H1 b with
    | none=>exact absurd hz c
    | some z=>exact(hok b z hz).thing
   ·exact un.there b o' c (by simp)
  obtain⟨o1,q⟩:=ht;have q2:=yZ b o1 q c n;have q3:=hB b o1 q2;rw[e]at q3;rw[Option.some.inj q3];exact q2
end
def qm(ea:Addr)(cls:Value):HO:=.ext fun h=>∃ oe vs,h.get? ea=some oe/\oe.cls=cls/\oe.data = .fields vs/\vs[2]?=some .none
theorem C7{P:Program}{w:World}{H:Hp}{h:Heap}{ea:Addr}{cls:Value}(q:∃ oe vs,h.get? ea=some oe/\oe.cls=cls/\oe.data = .fields vs/\vs[2]?=some .none):bu P w H h ea (qm ea cls) :=
 ⟨q,let⟨oe,_,e,_⟩:=q;⟨oe,e⟩,fun h1 h2 ⟨oe,vs,e,c,d,z⟩ k=>⟨oe,vs,k oe e,c,d,z⟩⟩
def Fv(E:XK)(cls:Value)(od:Option Addr)(c:Value)(H:Hp):Prop:=(c = .none/\(∃ C0:Addr,cls = .ref C0)/\E cls od H)\/∃ C e' C',cls = .ref C/\od=none/\c = .ref e'/\H e' = some (qm e' C')/\E (.int (C:Int) e') none H
def vQ(P:Program)(w:World):Ao:=fun outer H s E e s'=>∃(ea:Addr) (cls a0:Value) (od:Option Addr) (c:Value) (H' : Hp) (B:Heap),e = .ref ea/\s'.os=s.os/\AllBare s'.gens/\Un (frs outer) [] H H' s.heap s'.heap/\lq P w H' s'.heap/\H' ea=none/\
 C6 B (frs outer) s.heap H' s'.heap/\Heap.FlyingW B outer ea cls a0 s'.heap/\ql od c ea s'.heap/\Fv E cls od c H'
structure Out(X:Cx)(E:XK):Prop where
 Cp:X.stack=X.env::X.outer
 fr:X.env.frame=some X.env.locals
 ex:X.ex=[]
 xe:∀ e s',wpAny (model X.prog X.w) X.A (leaving X.env e) (fun _ s''=>vQ X.prog X.w X.outer X.H₀ X.s₀ E e s'') (fun e' s''=>vQ X.prog X.w X.outer X.H₀ X.s₀ E e' s'') s'->X.xe e s'
def Mh(X:Cx)(E:XK):Prop:=∀(pq:aQ) (σ:St) (H:Hp) (s:Shared) (h1:Heap) (ea C0:Addr) (vs:List Value),Inv X pq σ H s->Heap.MadeExcOf s.heap h1 ea (.ref C0) vs->E (.ref C0) none H->X.xe (.ref ea) { s with heap:=h1}
section
variable {X:Cx}{E:XK}{pq:aQ}{σ:St}{H:Hp}{s:Shared}
theorem Inv.Fw(I:Inv X pq σ H s):∀ b∈X.fs,∀ ob,s.heap.get? b=some ob->∀ vs,ob.data≠.fields vs:=fun b hb ob e=>by
 obtain⟨_,o,ho,hnf⟩:=I.funs.mem hb;rw[e]at ho;cases ho;exact hnf
theorem Inv.Fx(I:Inv X pq σ H s)(hx:X.ex=[]):∀ b∈X.fs,H b=none:=fun b hb=>by
 obtain⟨_,o,ho,_⟩:=I.ok.funs.mem hb;exact I.base.free b o ho (I.ok.DY b hb) (by rw[hx];simp)
theorem C6.outer{B h0:Heap}{h:Heap}(I:Inv X pq σ H s)(yZ:C6 B (frs X.stack) h0 H h)(k:∀ b o,X.s₀.heap.get? b=some o->∃ o',h0.get? b=some o'):C6 B X.fs X.s₀.heap H h:=fun b o e c n=>by
 refine yZ b o e (c.imp id fun⟨o',q⟩=>k b o' q) fun z=>?_
 rcases List.mem_cons.mp (I.oz b z) with q|q
 ·subst q;rcases c with c|⟨o',c⟩
  ·exact c I.free
  ·exact absurd (Nat.lt_of_lt_of_le (Heap.lt_size c) I.ok.above) (Nat.lt_irrefl _)
 ·exact n q
theorem yb(O:Out X E)(I:Inv X pq σ H s){B:Heap}{ea:Addr}{cls a0:Value}{od:Option Addr}{c:Value}{h2:Heap}(yZ:C6 B X.fs X.s₀.heap H s.heap)(fl:Heap.FlyingW B X.outer ea cls a0 h2)(sc:ql od c ea h2)(up:s.heap.UpToSlots h2)(hn:H ea=none)(q:Fv E cls od c H):
 vQ X.prog X.w X.outer X.H₀ X.s₀ E (.ref ea) { s with heap:=h2}:=by
 have un:Un X.fs [] X.H₀ H X.s₀.heap s.heap:=by
  have u:=I.base;rw[O.ex]at u;exact u
 obtain⟨u2,KU,c2⟩:=ux un I.hok (I.Fx O.ex) I.Fw yZ fl.1 up;exact⟨ea,cls,a0,od,c,H,B,rfl,I.os,I.bare,u2,KU,hn,c2,fl,sc,q⟩
theorem Out.KW(O:Out X E){ea:Addr}{oe:Obj}{vs:Array Value}{a0 c:Value}(I:Inv X pq σ H s)(ge:s.heap.get? ea=some oe)(de:oe.data = .fields vs)(h0:vs[0]?=some a0)(h1:vs[1]?=some .none)(h2:vs[2]?=some c)
 (hn:H ea=none) (new:X.s₀.heap.get? ea=none) (q:Fv E oe.cls oe.dict c H):X.xe (.ref ea) s:=by
 refine O.xe _ _ ?_;have hfr:X.A.frames=some (X.env::X.outer):=by rw[I.ok.frames,O.Cp]
 have hl:s.heap.FunFrames (PySem.W.hideAll s.heap (ea::frs X.stack)) (X.env::X.outer):=by
  have z:=PySem.W.funFrames_hide (as:=ea::frs X.stack) I.stack fun env he b hb=>qi _ (List.mem_filterMap.mpr ⟨env,he,hb⟩)
  rw[O.Cp]at z ⊢;exact z
 refine leave_new hfr O.fr (fun b o e=>PySem.W.of_hideAll _ e) (PySem.W.hideAll_none _ (List.mem_cons_self ..)) hl ge de h0 h1 h2 rfl fun h3 fl sc up=>?_
 refine yb O I (C6.outer I (h0:=X.s₀.heap) (fun b o e c n=>?_) fun b o e=>⟨o,e⟩) fl sc up hn q
 refine PySem.W.hideAll_get _ e fun z=>?_
 rcases List.mem_cons.mp z with z|z
 ·subst z;rcases c with c|⟨o',c⟩
  ·exact c hn
  ·rw[new]at c;cases c
 ·exact n z
theorem Out.KY(O:Out X E){ea:Addr}{oe:Obj}{vs:Array Value}{a0:Value}(I:Inv X pq σ H s)(ge:s.heap.get? ea=some oe)(de:oe.data = .fields vs)(h0:vs[0]?=some a0)(h1:vs[1]?=some .none)(h2:vs[2]?=some .none)
 (hn:H ea=none) (new:X.s₀.heap.get? ea=none) (hcl:∃ C0:Addr,oe.cls = .ref C0) (q:E oe.cls oe.dict H):X.xe (.ref ea) s:=O.KW I ge de h0 h1 h2 hn new (.inl ⟨rfl,hcl,q⟩)
theorem Out.KZ(O:Out X E):Mh X E:=by
 intro pq σ H s h1 ea C0 vs I mk q;have I1:Inv X pq σ H { s with heap:=h1}:=I.kept (t':=s.toks) mk.keeps
 have hn:H ea=none:=by
  cases hz:H ea with
  | none=>rfl
  | some z =>
    obtain⟨ob,e⟩:=(I.hok ea z hz).thing;rw[mk.new]at e;cases e
 obtain⟨t,ge,_,_⟩:=mk.there;refine O.KY I1 (a0:=.ref t) ge rfl rfl rfl rfl hn ?_ ⟨_,rfl⟩ q;cases hz:X.s₀.heap.get? ea with
 | none=>rfl
 | some o =>
   obtain⟨o',e⟩:=I.base.there ea o hz (by rw[O.ex];simp)
   rw[mk.new]at e;cases e
theorem Inv.AY{H' : Hp}{s' : Shared}(I:Inv X pq σ H s)(os:s'.os=s.os)(bare:AllBare s'.gens)(un:Un (frs X.stack) [] H H' s.heap s'.heap)(hok:lq X.prog X.w H' s'.heap):Inv X pq σ H' s' :=
 I.Ay (ch:=[]) os un hok bare fun b z=>absurd z (by simp)
theorem Out.passes(O:Out X E):Passes (vQ X.prog X.w) X E:=by
 intro pq σ H s e s' I q;obtain⟨ea,cls,a0,od,c,H',B,rfl,os,bare,un,hok,hn,yZ,fl,sc,qE⟩:=q;have I1:=I.AY os bare un hok;refine O.xe _ _ ?_;have hfr:X.A.frames=some (X.env::X.outer):=by rw[I.ok.frames,O.Cp]
 rw[O.Cp]at fl;refine leave_on2 hfr O.fr fl sc fun h2 N9 JC up=>?_
 exact yb O I1 (C6.outer I1 yZ fun b o e=>I.base.there b o e (by rw[O.ex];simp)) N9 JC up hn qE
end
theorem c7{P:Program}{w:World}{K:bw}{mg:jk}{base:Heap}{N:List Str}{qual:Str}{scope:Scope}{f:Addr}{cd:Value}{A:Around}{outer:List Env}{s:Shared}{H:Hp}{E:XK}:
 Out (nk (vQ P w) P w K mg base N qual scope f cd A outer s H E) E:=⟨rfl,rfl,rfl,fun _ _ h=>h⟩
theorem C1.vR{P:Program}{w:World}{K:bw}{mg:jk}{base:Heap}{x qual:Str}{st:Stmt}{f:Addr}{fd:FuncData}{N ps:List Str}{k:Nat}{sp:Sp}(F:C1 K x qual st f fd)(S:aA N ps (ai st))
 (len:∀ vs H Q E,sp vs H Q E->vs.length=ps.length)
 (hbody:∀(cdv:Value) (A:Around) (outer:List Env) (s:Shared) (H:Hp) (vs:List V) (Q:VK) (E:XK),eT k (A.deeper (envOfC qual (ai st) s.heap.objs.size f cdv))->sp vs H Q E->
  ∃ t,qg (nk (vQ P w) P w K mg base N qual (ai st) f cdv A outer s H E) (bC st) t/\t { nx:=fun _ H'=>Q .eV H',rt:=Q} (start N vs) H):jq P w K mg base (vQ P w) (k+1) f fd ps sp:=by
 obtain⟨oc,od,kV,doc,pm,an,cdv,ct,osl,rfl,lk,hcd⟩:=F.ex;exact AL lk hcd S len fun A outer s H vs Q E hr vP=>hbody cdv A outer s H vs Q E hr vP
section
variable {X:Cx}{E:XK}
def Fy(C:Addr)(E:XK)(t:TA):TS:=fun _ σ H=>t σ H fun vs H1=>vs.length<=sizeLine/\E (.ref C) none H1
theorem oO{x:Str}{C:Addr}{bm:List Value}{B newId initId:String}{e:Expr}{es:List Expr}{ta:TA}{np cpos pos:Pos}(th:Mh X E)(hc:X.calm=true)(hg:Gl X x)(O:∀ h,X.K.In h->h.Ns mainGlobals X.mg->OwnCls x C bm newId X.mg h)
 (FB:ExcBaseFacts B newId initId bm) (ha:PA X (e::es) ta) (he:starEach (e::es) X.env=(false,eval e X.env)::starEach es X.env:=by rfl) (hpl:(backTo cpos (starEach es X.env)).any (·.1)=false:=by rfl)
 (hd:(x==("__debug__":Str))=false:=by decide):PS X (.Raise (some (.Call (.Name x np) (e::es) [] cpos)) none pos) (Fy C E ta):=by
 intro pq s σ H D I h;have OC:=O _ I.mod.Jt I.mod.glob;obtain⟨tl,N,nm,q,bs,hdct,sn,sub,ab,col,dd,k0,k1,k2,k3,k5,mN,hC,hN,hni,T⟩:=OC.obj;refine wpAny_Raise_call_subT (C:=C) (nm:=nm) (q:=q) (N:=N) (bs:=bs) (bm:=tl) (hdct:=hdct) (sn:=sn) (sub:=sub) (ab:=ab) (col:=col) (dd:=dd) (k0:=k0) (k1:=k1) (k2:=k2) (k3:=k3) (k5:=k5)
  FB (mN:=mN) (T.hasType FB.hasBase) (I.ok.hd hc) (by rw[he];show(false || (backTo cpos (starEach es X.env)).any (·.1))=false;rw[hpl];rfl) hni (nQ I hg OC.bound ⟨rfl,?_⟩ hd)
 have hA:=ha cpos pq s σ H _ I h;rw[he]at hA ⊢;refine Calls.evalArgs_plain (wpAny_mono hA (fun us s1 ⟨vs,H1,I1,r1,z,q1⟩=>?_) fun _ _ y=>y)
 exact⟨rfl,by rw[<-r1.length];exact z,I1.bk _ _ hC,hN.keeps I1.bk,T.keeps I1.bk,fun h' ea hm=>th pq σ H1 s1 h' ea _ us I1 hm q1⟩
end
theorem Fz(K:bw)(i:Int)(n:Nat)(v:Value):PySem.W.exmOne K (.int i n) v≠some true:=by
 unfold PySem.W.exmOne
 split
 ·unfold PySem.W.kitCls
  split
  ·split<;>simp[PySem.W.subIn]
  ·split<;>simp[PySem.W.subIn]
  ·simp
 ·simp
section
variable {X:Cx}{pq:aQ}{σ:St}{H:Hp}{s:Shared}
theorem Inv.HU{ea:Addr}{o:HO}(I:Inv X pq σ H s)(hn:H ea=none)(h0:X.s₀.heap.get? ea=none)(hL:ea≠X.env.locals)(hC:∀ x c,X.env.cells.lookup x=some c->c≠ea)(hp:∀ p∈X.pn++pq,p.1≠ea)
 (ok:bu X.prog X.w (upd H ea o) s.heap ea o):Inv X pq σ (upd H ea o) s:=by
 have ne:∀ b u,H b=some u->b≠ea:=fun b u e z=>by rw[z,hn]at e;cases e
 refine⟨I.ok,I.os,I.bare,⟨I.base.keep,I.base.slot,fun b ob e n hx=>?_,I.base.there,fun b xs e=>?_,fun b ob u e=>?_,fun b ps e=>?_⟩,I.loc,I.cell,?_,fun x c e=>?_,fun p hpp=>?_,fun b u e=>?_,I.len⟩
 ·rw[ao (fun z=>by rw[z,h0]at e;cases e)]
  exact I.base.free b ob e n hx
 ·have q:=I.base.tups b xs e;rw[ao (ne b _ q)];exact q
 ·have q:=I.base.jh b ob u e;rw[ao (ne b _ q)];exact q
 ·obtain⟨more,q⟩:=I.base.jl b ps e;exact⟨more,by rw[ao (ne b _ q)];exact q⟩
 ·rw[ao (Ne.symm hL)];exact I.free
 ·rw[ao (hC x c e)];exact I.dS x c e
 ·obtain⟨a1,a2,a3⟩:=I.pin p hpp;exact⟨a1,by rw[ao (hp p hpp)];exact a2,a3⟩
 ·by_cases hb:b=ea
  ·subst hb;rw[af]at e;cases e;exact ok
  ·rw[ao hb]at e;exact(I.hok b u e).stay (fun _ _ _ q=>q) (fun c q=>by rw[ao (ne c _ q)];exact q) fun c xs q=>by rw[ao (ne c _ q)];exact q
theorem Inv.wc{A' : Around}{GH nO:aQ}{cm:Bool}{FA:fD}(I:Inv X pq σ H s)(hA:A'.frames=X.A.frames)(K0:cm=true->A'.handled=none)(hp:∀ p∈GH++nO,p∈X.pn++pq):
 Inv { X with A:=A',calm:=cm,pn:=GH,xe:=FA} nO σ H s :=
 ⟨⟨I.ok.mod,I.ok.kind,I.ok.glob,I.ok.blt,I.ok.above,I.ok.inj,I.ok.has,I.ok.GC,K0,hA.trans I.ok.frames,I.ok.Cp,I.ok.Ka,I.ok.bs,I.ok.Cq,I.ok.yJ,I.ok.Ax,I.ok.funs,I.ok.DY⟩,
   I.os,I.bare,I.base,I.loc,I.cell,I.free,I.dS,fun p z=>I.pin p (hp p z),I.hok,I.len⟩
theorem y9{M:Model}{A:Around}{E:fD}{i:Nat}{x:Str}{pos:Pos}{Q:Unit->Shared->Prop}(I:Inv X pq σ H s)(hN:X.N.Nodup)(hi:X.N[i]?=some x)(hx:X.env.scope.names.lookup x=some .local)
 (h:∀ s',Inv X pq (σ.set i none) H s'->Q () s'):wpAny M A (do bindName X.env x .none;unbindBehindTheSuite X.env x pos) Q E s:=by
 obtain⟨m,hn,hl⟩:=id I.loc;have hcls:(X.env.scope.kind == .class || (X.env.scope.kind == .module&&X.env.locals != X.env.globals))=false:=by rw[I.ok.kind];rfl
 refine wpAny_nameGoes_keeps hx hn hcls fun h' v hn' hs=>?_
 have below:∀ b ob,X.s₀.heap.get? b=some ob->b≠X.env.locals:=fun b ob e=>Nat.ne_of_lt (Nat.lt_of_lt_of_le (Heap.lt_size e) I.ok.above)
 refine h _ ⟨I.ok,I.os,I.bare,⟨fun b ob e n hb hx=>(hs.2 b (below b ob e)).trans (I.base.keep b ob e n hb hx),fun b ob e n hb hx=>?_,I.base.free,fun b ob e hx=>?_,I.base.tups,I.base.jh,I.base.jl⟩,
  ⟨_,hn',fun j y v' e1 e2 e3=>?_⟩,fun y c e=>?_,I.free,I.dS,fun p hp=>?_,fun b ob e=>?_,by rw[List.length_set];exact I.len⟩
 ·obtain⟨sl,e1⟩:=I.base.slot b ob e n hb hx;exact⟨sl,(hs.2 b (below b ob e)).trans e1⟩
 ·obtain⟨o',e1⟩:=I.base.there b ob e hx;exact⟨o',(hs.2 b (below b ob e)).trans e1⟩
 ·by_cases hj:j=i
  ·subst hj;have hlt:j<σ.length:=by rw[I.len];exact(vM.mp hi).1
   rw[List.getElem?_set_self hlt]at e2;cases e2
  ·rw[List.getElem?_set_ne (Ne.symm hj)]at e2;obtain⟨u',r',q⟩:=hl j y v' e1 e2 e3;refine⟨u',r',?_⟩;rcases q with⟨k,e⟩|⟨k,c,e,z⟩
   ·have hyx:y≠x:=fun e'=>hj (oA hN e1 (e'▸hi))
    exact .inl ⟨k,by simp[hyx,e]⟩
   ·exact .inr ⟨k,c,e,z.sameBut hs (I.CC y c e)⟩
 ·obtain⟨w',z⟩:=I.cell y c e;exact⟨w',z.sameBut hs (I.CC y c e)⟩
 ·obtain⟨e,n,ne,nf,d⟩:=I.pin p hp;exact⟨(hs.2 p.1 ne).trans e,n,ne,nf,d⟩
 ·refine(I.hok b ob e).stay (fun c v hc q=>(hs.2 c ?_).trans q) (fun _ q=>q) fun _ _ q=>q
  intro z;subst z;have hf:H X.env.locals=none:=I.free;rcases hc with hc|hc
  ·rw[<-hc,hf]at e;cases e
  ·rw[hf]at hc;cases hc
end
def Ei(o:Addr->Value->Option Addr->HO)(K:bw)(C i k:Nat)(tb:XK->TS)(th:Addr->TS):TS:=fun D σ H=>∃ E:XK,tb E D σ H/\∀ cls od H',E cls od H'->PySem.W.exmOne K cls (.ref C)=some true/\
 ∀ ea,H' ea=none->th ea { nx:=fun σ2 H2=>D.nx (σ2.set i none) H2,rt:=fun _ _=>False} ((List.replicate k none).set i (some (.ref ea))) (upd H' ea (o ea cls od))
abbrev K1:=Ei fun ea cls _=>qm ea cls
section
variable {X:Cx}
theorem Dd(oo:Addr->Value->Option Addr->HO)(Oa:∀{H:Hp} {h:Heap} {ea:Addr} {cls:Value} {od:Option Addr},(∃ oe vs,h.get? ea=some oe/\oe.cls=cls/\oe.data = .fields vs/\vs[2]?=some .none/\oe.dict=od)->bu X.prog X.w H h ea (oo ea cls od))
 {x n:Str} {i:Nat} {C:Addr} {body rest:List Stmt} {b0:Stmt} {np hpos pos:Pos} {tb:XK->TS} {th:Addr->TS} (K:bw) (hst:X.stack=X.env::X.outer) (hf:X.env.frame=some X.env.locals) (FD:X.ex=[]) (hN:X.N.Nodup) (hi:X.N[i]?=some n)
 (hx:X.env.scope.names.lookup n=some .local) (hg:Gl X x) (hm:X.mg x=some (.ref C))
 (hb:∀ E pn xe,Passes (vQ X.prog X.w) { X with pn:=pn,xe:=xe} E->qg { X with pn:=pn,xe:=xe} body (tb E))
 (hh:∀ ea pn,qg { X with A:=X.A.mark (some (.ref ea)),calm:=false,pn:=pn,xe:=fun _ _=>False} (b0::rest) (th ea)) (hK:X.K=K:=by rfl) (hdb:(x==("__debug__":Str))=false:=by decide) :
 PS X (.Try body [.ExceptHandler (some (.Name x np)) (some n) (b0::rest) hpos] [] [] pos) (Ei oo K C i X.N.length tb th):=by
 subst hK;intro pq s σ H D I h;obtain⟨E,htb,hE⟩:=h;refine wpAny_Try_except ?_;have hfr:X.A.frames=some (X.env::X.outer):=by rw[I.ok.frames,hst]
 have I' : Inv { X with pn:=X.pn++pq,xe:=fun e s1=>∃ nO σ' H0 s0,Inv { X with pn:=X.pn++pq} nO σ' H0 s0/\vQ X.prog X.w X.stack H0 s0 E e s1} [] σ H s :=
  I.wc (A':=X.A) (cm:=X.calm) rfl I.ok.hd fun p hp=>by simpa using hp
 have hpass:Passes (vQ X.prog X.w) { X with pn:=X.pn++pq,xe:=fun e s1=>∃ nO σ' H0 s0,Inv { X with pn:=X.pn++pq} nO σ' H0 s0/\vQ X.prog X.w X.stack H0 s0 E e s1} E:=by
  intro nO σ' H0 s0 e s1 J q;exact⟨nO,σ',H0,s0,J.wc (A':=X.A) (cm:=X.calm) (GH:=X.pn++pq) rfl J.ok.hd fun p hp=>hp,q⟩
 have Ob:∀{nO σ' H' s'},Inv { X with pn:=X.pn++pq} nO σ' H' s'->Inv X pq σ' H' s':=fun {nO σ' H' s'} J=>by
  have z:=J.wc (A':=X.A) (cm:=X.calm) (GH:=X.pn) (nO:=pq) (FA:=X.xe) rfl J.ok.hd fun p hp=>EH _ hp
  exact z
 have De:∀{nO σ' H' s'} {FA:fD},Inv { X with pn:=X.pn++pq,xe:=FA} nO σ' H' s'->Inv X pq σ' H' s':=fun {nO σ' H' s' FA} J=>by
  have z:=J.wc (A':=X.A) (cm:=X.calm) (GH:=X.pn) (nO:=pq) (FA:=X.xe) rfl J.ok.hd fun p hp=>EH _ hp
  exact z
 refine wpAny_mono (hb E _ _ hpass [] s σ H D I' htb) (fun f s1 q=>?_) fun e s1 q=>?_
 ·cases f with
  | next =>
    obtain⟨σ',H',J,q⟩:=q;exact wpAny_execs_nil ⟨σ',H',De J,q⟩
  | brk =>
    obtain⟨σ',H',J,q⟩:=q;exact⟨σ',H',De J,q⟩
  | cont =>
    obtain⟨σ',H',J,q⟩:=q;exact⟨σ',H',De J,q⟩
  | ret u =>
    obtain⟨v,σ',H',J,r,q⟩:=q;exact⟨v,σ',H',De J,r,q⟩
 ·obtain⟨nO,σ',H0,s0,I0,ea,cls,a0,od,c,H1,B,rfl,os,bare,un,hok,hn,yZ,fl,sc,qE⟩:=q;rcases qE with⟨rfl,_,qE⟩|⟨C9,e9,C8,rfl,rfl,rfl,_,qE⟩
  case inr=>exact absurd (hE _ _ _ qE).1 (Fz _ _ _ _)
  obtain⟨hex,Oc⟩:=hE cls od H1 qE;have J1:Inv { X with pn:=X.pn++pq} nO σ' H1 s1:=I0.AY os bare un hok
  have KR:∀ b∈frs X.stack,H1 b=none:=J1.nN;have Mi:∀{h' : Heap},s1.heap.UpToSlots h'->∀ b∈frs X.stack,∀ ob,h'.get? b=some ob->∀ vs,ob.data≠.fields vs:=fun {h'} up b hb ob e vs z=>by
   obtain⟨_,o,ho,hnf⟩:=J1.stack.mem hb;obtain⟨sl,q⟩:=up b o ho hnf;rw[e]at q;cases q;exact hnf vs z
  have at_:∀{h' : Heap},B.StaysIn h'->s1.heap.UpToSlots h'->Inv X pq σ' H1 { s1 with heap:=h'}:=fun {h'} hB up=>by
   obtain⟨u2,KU,_⟩:=ux un hok KR (Mi (Heap.UpToSlots.refl _)) yZ hB up;exact Ob (I0.AY (s':={ s1 with heap:=h'}) os bare u2 KU)
  have Od:ea∉frs X.stack:=fun z=>by
   obtain⟨oe,vs,e,_,d,_⟩:=fl.first;exact Mi (Heap.UpToSlots.refl _) ea z oe e vs d
  have HV:s0.heap.get? ea=none:=by
   cases hz:s0.heap.get? ea with
   | none=>rfl
   | some o =>
     obtain⟨oe,vs,e,_⟩:=fl.first;have q:=yZ ea oe e (.inr ⟨o,hz⟩) Od;rw[fl.2.1]at q;cases q
  have Oe:Heap.FlyingW B (X.env::X.outer) ea cls a0 s1.heap:=by
   rw[hst]at fl;exact fl
  refine Eh hfr hf Oe sc fun h4 HW Of Og=>?_
  obtain⟨g1,g2,g3,g4⟩:=HW;refine ya (s:={ s1 with heap:=h4}) g1 g2 g3 g4 Of fun h5 K2 Oh Oi=>?_
  have HX:=Og.trans Oi;have J5:=at_ K2.1 HX;have hfm:(X.A.mark (some (.ref ea))).frames=X.A.frames:=rfl;have Oj:Inv { X with A:=X.A.mark (some (.ref ea)),calm:=false,pn:=X.pn,xe:=fun _ _=>False} pq σ' H1 { s1 with heap:=h5}:=J5.wc hfm (fun z=>nomatch z) fun p hp=>hp
  refine wpAny_handleBy_cons (codeAny_handlers_test (nQ Oj hg hm ?_ hdb)) (by intro q;cases q)
  obtain⟨ob,hob,K3⟩:=K2.there;have LT:PySem.W.Looks (model X.prog X.w) h5 (typeOf (.ref ea)) cls:=K3▸(PySem.W.Looks.ld hob).andThen .now;refine PySem.W.Looks.here (s:={ s1 with heap:=h5}) (PySem.W.exm_one (K:=X.K) J5.qS LT hex) ?_
  refine codeAny_handlers_suite_as ?_;obtain⟨k1,k2,k3,k4⟩:=K2;refine ya (s:={ s1 with heap:=h5}) k1 k2 k3 k4.at Oh fun h6 Mj Ol Om=>?_
  have K4:=HX.trans Om;have J6:=at_ Mj.1 K4;obtain⟨oe,vs,e6,c6,d6,_⟩:=Mj.first;have z6:vs[2]?=some .none/\oe.dict=od:=by
   obtain⟨o2,v2,g2,d2,z2,y2⟩:=Ol;rw[e6]at g2;cases g2;rw[d6]at d2;cases d2;exact⟨z2,y2⟩
  have Oo:ea≠X.env.locals:=fun z=>by
   obtain⟨m,⟨o,_,_,ho,hd,_⟩,_⟩:=J6.loc;rw[<-z]at ho;rw[e6]at ho;cases ho;rw[d6]at hd;cases hd
  have J7:Inv X pq σ' (upd H1 ea (oo ea cls od)) { s1 with heap:=h6}:=by
   refine J6.HU hn ?_ Oo (fun y c e z=>?_) (fun p hp z=>?_) (Oa ⟨oe,vs,e6,c6,d6,z6.1,z6.2⟩)
   ·cases hz:X.s₀.heap.get? ea with
    | none=>rfl
    | some o =>
      obtain⟨o',q⟩:=I0.base.there ea o hz (show ea∉X.ex by rw[FD];simp)
      rw[HV]at q;cases q
   ·obtain⟨v,o,ho,hd⟩:=J6.cell y c e;rw[z,e6]at ho;cases ho;rw[d6]at hd;cases hd
   ·have q:=(I0.pin p (EH _ hp)).1;rw[z,HV]at q;cases q
  have J8:Inv { X with A:=X.A.mark (some (.ref ea)),calm:=false,pn:=X.pn,xe:=fun _ _=>False} pq (List.replicate X.N.length none) (upd H1 ea (oo ea cls od)) { s1 with heap:=h6}:=by
   have z:Inv X pq (List.replicate X.N.length none) (upd H1 ea (oo ea cls od)) { s1 with heap:=h6}:=J7.weak (by rw[List.length_replicate,J7.len]) fun j v e=>by
    rw[List.getElem?_replicate]at e
    split at e<;>cases e
   exact z.wc hfm (fun z=>nomatch z) fun p hp=>hp
  refine jm (X:={ X with A:=X.A.mark (some (.ref ea)),calm:=false,pn:=X.pn,xe:=fun _ _=>False}) (v:=.ref ea) J8 hN hi (.inl hx) rfl (fun s9 J9=>?_) (.inr hx)
  refine wpAny_mono (hh _ _ pq s9 _ _ _ J9 (Oc ea hn)) (fun f Ej q=>?_) fun _ _ z=>z.elim
  cases f with
  | next =>
    obtain⟨σ2,H2,Oq,q⟩:=q;have Ot:Inv X pq σ2 H2 Ej:=by
     have z:=Oq.wc (A':=X.A) (cm:=X.calm) (GH:=X.pn) (nO:=pq) (FA:=X.xe) hfm.symm I.ok.hd fun p hp=>hp
     exact z
    exact y9 Ot hN hi hx fun s12 Ou=>⟨_,H2,Ou,q⟩
  | brk=>obtain⟨_,_,_,q⟩:=q;exact q.elim
  | cont=>obtain⟨_,_,_,q⟩:=q;exact q.elim
  | ret u=>obtain⟨_,_,_,_,_,q⟩:=q;exact q.elim
theorem FE{x n:Str}{i:Nat}{C:Addr}{body rest:List Stmt}{b0:Stmt}{np hpos pos:Pos}{tb:XK->TS}{th:Addr->TS}(K:bw)(hst:X.stack=X.env::X.outer)(hf:X.env.frame=some X.env.locals)(FD:X.ex=[])(hN:X.N.Nodup)(hi:X.N[i]?=some n)
 (hx:X.env.scope.names.lookup n=some .local) (hg:Gl X x) (hm:X.mg x=some (.ref C))
 (hb:∀ E pn xe,Passes (vQ X.prog X.w) { X with pn:=pn,xe:=xe} E->qg { X with pn:=pn,xe:=xe} body (tb E))
 (hh:∀ ea pn,qg { X with A:=X.A.mark (some (.ref ea)),calm:=false,pn:=pn,xe:=fun _ _=>False} (b0::rest) (th ea)) (hK:X.K=K:=by rfl) (hdb:(x==("__debug__":Str))=false:=by decide) :
 PS X (.Try body [.ExceptHandler (some (.Name x np)) (some n) (b0::rest) hpos] [] [] pos) (K1 K C i X.N.length tb th):=Dd (fun ea cls _=>qm ea cls) (fun⟨oe,vs,e,c,d,z,_⟩=>C7 ⟨oe,vs,e,c,d,z⟩) K hst hf FD hN hi hx hg hm hb hh hK hdb
end
open PySem PySem.Spec PySem.Calls PyProof.Rows PySem.W PySem.Builtin PySem.Builtin.ObjectAttr PySem.Builtin.Getset_descriptor
structure sy(K:Frag)(D:Addr):Prop where
 ga:findIn K (.ref D) "__getattribute__"=some (some (.builtin "BaseException.__getattribute__"))
 gh:findIn K (.ref D) "__getattr__"=some none
 cl:findIn K (.ref D) "__class__"=some (some (.builtin "object.__class__"))
 gt:specialIn K (.builtin "object.__class__") "__get__"=some (some (.builtin "getset_descriptor.__get__"))
 tk:takesIn K (.builtin "object.__class__")=some true
 mr:mroIn K D (.type "object")=some true
 mb:mroIn K D (.type "BaseException")=some true
 Mk:(clsIn K D).isSome=true
def ExcAt(x:Addr)(D:Value)(h:Heap):Prop:=∃ ox,h.get? x=some ox/\ox.cls=D
section
variable {K:Frag}{x D:Addr}
theorem ExcAt.ty{M:Model}{h:Heap}{V:Value}(q:ExcAt x V h):Looks M h (typeOf (.ref x)) V:=by
 obtain⟨ox,e,c⟩:=q;exact c▸(Looks.ld e).andThen .now
theorem wd{M:Model}{h:Heap}{C:Addr}{name:Str}{at_ g:Value}(X:K.In h)(ha:findIn K (.ref C) name=some (some at_))(hg:specialIn K at_ "__get__"=some (some g))(hd:takesIn K at_=some true):
 Looks M h (find (.ref x) (.ref C) name) (.bind g at_):=by
 refine(looks_findIn X ha).andThen (Looks.andThen (show Looks M h (getOf (some at_)) (some g) from looks_specialIn X hg) ?_)
 have L3:=looks_takesIn (M:=M) X hd;have L4:Looks M h (dataDescriptor? (some at_) (some g)) (some (g,at_)):=L3.andThen .now;exact L4.andThen (Looks.tag .now)
section
variable {prog:Program}{w:World}{A:Around}{E:fD}{s:Shared}
theorem we{M:Model}{nameV:Value}{Q:Unit->Shared->Prop}{hh:Heap}{gg:Array GenState}{dd:Drawn}{tt:Nat}{oo:OsState}(S:Looks M hh (isInstance (.ref x) (.type "BaseException")) true)(hq:Q () ⟨hh,gg,dd,tt,oo⟩):
 wpAny M A (checkBuiltinCall "BaseException.__getattribute__" ⟨[.ref x,nameV],[]⟩) Q E ⟨hh,gg,dd,tt,oo⟩:=by
 have hk:builtinKind "BaseException.__getattribute__"=some .slot:=by decide +kernel
 have hsplit:splitId "BaseException.__getattribute__"=some ("BaseException","__getattribute__"):=by decide +kernel
 have ha:=F.args_bexc_ga (.ref x) nameV;simp only[checkBuiltinCall,hk,hsplit];refine cE (S.at ?_)
 repeat (first | wp_step)
 exact hq
theorem za{Q:Option Value->Shared->Prop}(C:sy K D)(X:K.In s.heap)(q:ExcAt x (.ref D) s.heap)(h:Q (some (.ref D)) { s with toks:=s.toks+1}):wpAny (model prog w) A (getAttr? (.ref x) "__class__") Q E s:=by
 obtain⟨hh,gg,dd,tt,oo⟩:=s;have L0:=q.ty (M:=model prog w);have L1:=looks_findIn (M:=model prog w) X C.ga;have L2:=wd (M:=model prog w) (x:=x) X C.cl C.gt C.tk;have L3:=looks_findIn (M:=model prog w) X C.gh;have L4:=looks_mroIn (M:=model prog w) X C.mr;have L5:=looks_mroIn (M:=model prog w) X C.mb;have S5:Looks (model prog w) hh (isInstance (.ref x) (.type "BaseException")) true:=L0.andThen L5;unfold getAttr? getAttrBy? getAttrBy;refine cE (wpAny_mkText (cE (wpAny_attempt (wpAny_holding (cE (L0.at (cE (L1.at ?_))))))));show wpAny _ _ (getAttrByItsOwn (.ref x) (.str "__class__" tt) (.ref D) (.builtin "BaseException.__getattribute__") false false) _ _ _;unfold getAttrByItsOwn;refine cE (Looks.at (show Looks (model prog w) hh (hookBefore (.ref D)) none from L3) ?_)
 refine cE (wpAny_attempt (wpAny_holding ?_));show wpAny _ _ (boundAndCalled _ _ _) _ _ _;unfold boundAndCalled;rw[F.attrBase_ValueError.ga.bind (.ref x)];refine cE (wpAny_pure ?_);show wpAny _ _ (call (.builtin "BaseException.__getattribute__") [.ref x,.str "__class__" tt]) _ _ _;refine wpAny_call (codeAny_call_builtin F.attrBase_ValueError.ga.plain F.entry_bexc_ga ?_);refine we S5 ?_;refine cE (wpAny_pure (cE (wpAny_pure (cE (L0.at (cE (L2.at ?_)))))));show wpAny _ _ (holding [_] (call (.builtin "getset_descriptor.__get__") [.builtin "object.__class__",.ref x,.ref D]) >>= ret) _ _ _;refine cE (wpAny_holding (wpAny_call ?_));refine codeAny_call_builtin KF.slot_gs.plain KF.entry_gs (KF.slot_gs.check _ _ _ _ _ _ _ _ KF.type_class (KF.args_gs _ _ _) ?_)
 (unfold Builtin.«getset_descriptor.__get__» descrGet;rw[dga_obj])
 refine cE (wpAny_pure ?_)
 (unfold descrGetter descrCheckInstance descrNameAndClass isInstance;simp only[KF.owner_class])
 repeat lk
 refine⟨Code.quiet_builtin _ (by decide +kernel),codeAny_builtin KF.entry_class ?_⟩
 (unfold Builtin.«object.__class__» shownTypeOf)
 repeat lk
 exact h
end
theorem AZ(C:sy K D):KitX K (.ref x) (.ref D) (ExcAt x (.ref D)) where
 ty:=fun _ _ _ q=>q.ty
 it:=fun M h X _=>by
  have z:=C.Mk;unfold clsIn at z
  split at z
  ·rename_i ho
   intro A1 Q1 E1 s1 k q
   (unfold isType;unfold loadHead)
   exact cE (wpAny_loadPart (k _ _ (X _ _ ho)) (wpAny_pure q))
  ·cases z
 ne:=fun h tp dd its n sl X htp=>by
  have z:=C.Mk;refine Bool.eq_false_iff.mpr fun q=>?_
  cases Value.ref.inj (beq_iff_eq.mp q);unfold clsIn at z
  split at z
  ·rename_i ho
   cases(X _ _ ho).symm.trans htp
  ·cases z
 ca:=fun X q k=>za C X q k
end
def HY(K:Frag):List V->Hp->VK->Prop:=fun xs H Q=>∃ x c D u b,xs=[.ref x,c]/\Fj c=some u/\H x=some (qm x (.ref D))/\sy K D/\kitOne K (.ref D) u=some b/\Q (.bl b) H
theorem Df{X:Cx}(K:Frag)(hK:X.K=K:=by rfl):eU X (.builtin "isinstance") (HY K):=by
 subst hK;intro pq s σ H xs us Q I r h;obtain⟨x,c,D,u,b,rfl,rc,ty,C,e,q⟩:=h;cases r with
 | cons r1 r2 =>
   cases r2 with
   | cons r2 r3 =>
     cases r3;cases x8 rc r2;cases(show _=Value.ref x from r1)
     obtain⟨⟨oe,vs,e1,e2,_⟩,_⟩:=(show bu X.prog X.w H s.heap x (qm x (.ref D)) from I.hok x _ ty)
     exact kia_one (AZ C) I.qS ⟨oe,e1,e2⟩ e (fun z=>nomatch z) fun tk=>⟨.bl b,H,I.tok tk,rfl,q⟩
section
variable {X:Cx}
def HZ(K:bw):V->V->Hp->VK->Prop:=fun o i H Q=>∃ p xs j v,o = .ref p/\i = .int ((j:Nat):Int)/\aR K H p xs/\xs[j]?=some v/\Q v H
theorem getL(K:bw)(hK:X.K=K:=by rfl):G9 X (HZ K):=by
 subst hK;intro pq s σ H o i ov iv Q I ro ri h;obtain⟨p,xs,j,v,rfl,rfl,hq,e,q⟩:=h;cases ro;obtain⟨t,rfl⟩:=ri;obtain⟨its,r,pl,hz⟩:=I.list hq;obtain⟨u,eu,ru⟩:=r.get e;have hj:j<xs.length:=(vM.mp e).1;have hn:=oF;exact wpAny_getItem_list pl.isList (by lia) (by lia) (by simpa using eu) ⟨v,H,I,ru,q⟩
def Ia(K:bw):R2:=fun x y H Q=>∃ l b xs zs,x = .ref l/\y = .ref b/\aR K H l xs/\aR K H b zs/\xs.length+zs.length<=sizeLine/\∀ p,H p=none->Q (.ref p) (upd H p (.lst (xs++zs)))
theorem K5(K:bw)(hK:X.K=K:=by rfl):jV X (binaryOp .Add) (Ia K):=by
 subst hK;intro pq s σ H x y v u Q I rx ry h;obtain⟨l,b,xs,zs,rfl,rfl,hH,hB,hz,q⟩:=h;cases rx;cases ry;obtain⟨its,r,pl,_⟩:=I.list hH;obtain⟨its2,r2,JD,_⟩:=I.list hB;obtain⟨⟨cls,dd,data,sl⟩,n,e,hc,_,hd⟩:=pl;obtain⟨⟨Ht,dd2,data2,sl2⟩,n2,e2,hc2,_,hd2⟩:=JD;simp only at hc hd hc2 hd2;subst hc hd hc2 hd2;have l1:=r.length;have l2:=r2.length;have ea:its.toArray++its2.toArray=(its++its2).toArray:=by simp
 refine concat_meets ⟨_,e,rfl⟩ ⟨_,e2,rfl⟩ noFill_list_add seq_list_add PySem.F.slot_list_add PySem.F.entry_list_add (PySem.F.args_list_add_2 _ _)
  (list_addW l b its.toArray its2.toArray n n2 dd dd2 sl sl2 (by rw[List.size_toArray,List.size_toArray];lia)) ⟨e,e2,?_⟩
 rw[ea];exact⟨.ref _,_,I.HC (t':=s.toks) (r.append r2) (by rw[List.length_append];lia),rfl,q _ I.fresh⟩
end
section
variable {X:Cx}{tg:Expr}
theorem nV{iter:Expr}{body:List Stmt}{wi:TI}{g:TG}{tb:TS}{pos:Pos}(hc:X.calm=true)(hi:PI X tg iter wi)(hg:PG X.vO tg g)(hb:qg X.vO body tb)(hs:∀ x,foldedSetIterable iter X.env x=pure x:=by intro _;rfl):
 PS X (.For tg iter body [] pos) (fO wi g tb):=by
 intro pq s σ H D I h;refine wpAny_For (dP (hi pq s σ H _ I h) fun v s1 h1=>dP h1 fun itv s2 h2=>?_) hs
 obtain⟨it,fp,tn,J,H2,e,I2,T,st2,f2,W,⟨m0,w0⟩,turn⟩:=h2;subst e;have vW:∀{H' : Hp},(∀ b∈fp,H' b=none)->∀ b∈fp,kJ X.vO pq H' b:=fun hn b hb=>⟨hn b hb,(f2 b hb).2⟩
 refine codeAny_forLoop_any (fun n s'=>∃ i σ' H',Inv X.vO pq σ' H' s'/\tn i s'.heap/\(∀ b∈fp,H' b=none)/\W i n σ' H') ?_ m0 ⟨0,σ,H2,I2.oB _,st2,fun b hb=>(f2 b hb).1,w0⟩
 rintro n s3 ⟨i,σ3,H3,I3,st3,D6,w3⟩;rcases turn i n σ3 H3 w3 with⟨stop,qn⟩|⟨go,N,hN,step⟩
 ·refine wpAny_mono (T.done X.vO rfl rfl rfl hc i pq s3 σ3 H3 (fun _ _=>False) I3 (vW D6) st3 stop) (fun r s4 ⟨hr,I4⟩=>?_) fun _ _ z=>z.elim
  subst hr;exact wpAny_execs_nil ⟨σ3,H3,I4.fZ,qn⟩
 ·refine wpAny_mono (T.item X.vO rfl rfl rfl hc i pq s3 σ3 H3 (fun _ _=>False) I3 (vW D6) st3 go) (fun r s4 ⟨u,hr,h4⟩=>?_) fun _ _ z=>z.elim
  subst hr;refine wpAny_mono h4 (fun _ s5 ⟨x,H5,I5,r5,y5,AH,Hh⟩=>?_) fun _ _ z=>z.elim
  have Hi:=I5.pinned (vW Hh) (T.obj _ _ AH);refine wpAny_mono (hg _ s5 σ3 H5 x u _ Hi r5 (step x H5 y5)) (fun _ s6 ⟨σ6,H6,I6,q6⟩=>?_) fun _ _ z=>z.elim
  refine wpAny_mono (hb _ s6 σ6 H6 _ I6 q6) (fun f s7 q7=>?_) fun _ _ z=>z.elim
  have again:∀{σ7:St} {H7:Hp},Inv X.vO (pq++lZ fp s5.heap) σ7 H7 s7->N σ7 H7->∃ m,m<n/\∃ i σ' H',Inv X.vO pq σ' H' s7/\tn i s7.heap/\(∀ b∈fp,H' b=none)/\W i m σ' H':=fun {σ7 H7} I7 n7=>by
   obtain⟨m',hm,w7⟩:=hN σ7 H7 n7;refine⟨m',hm,i+1,σ7,H7,I7.gb,T.keep _ _ _ AH fun b hb o e=>(I7.pin (b,o) (lj _ (lj _ (eX hb e)))).1,fun b hb=>?_,w7⟩
   obtain⟨o,e,d⟩:=T.obj _ _ AH b hb;exact(I7.pin (b,o) (lj _ (lj _ (eX hb e)))).2.1
  cases f with
  | next=>obtain⟨σ7,H7,I7,n7⟩:=q7;exact again I7 n7
  | cont=>obtain⟨σ7,H7,I7,n7⟩:=q7;exact again I7 n7
  | brk=>obtain⟨σ7,H7,I7,q7⟩:=q7;exact⟨σ7,H7,I7.gb.fZ,q7⟩
  | ret v=>obtain⟨x7,σ7,H7,I7,r7,q7⟩:=q7;exact⟨x7,σ7,H7,I7.gb.fZ,r7,q7⟩
theorem rf{P:Program}{w:World}{X:Cx}:Passes (vQ P w) X (fun _ _ _=>False):=by
 intro pq σ H s e s' I q;obtain⟨_,_,_,_,_,_,_,_,_,_,_,_,_,_,_,_,z⟩:=q;rcases z with⟨_,_,z⟩|⟨_,_,_,_,_,_,_,z⟩
 ·exact z.elim
 ·exact z.elim
end
theorem wg{X:Cx}{x:Str}{C:Addr}{pos:Pos}(hg:Gl X x)(hm:X.mg x=some (.ref C))(hd:(x==("__debug__":Str))=false:=by decide):PE X (.Name x pos) (tC (.ref C)):=xK hg hm rfl hd
theorem wj{K:bw}{h:Heap}{mg:jk}{x:Str}{C:Addr}{bmB:List Value}{newId:String}(X:K.In h)(G:h.Ns mainGlobals mg)(e:PySem.W.nsIn K mainGlobals x=some (some (.ref C)))(q:PySem.W.excIn K C bmB newId=true):
 OwnCls x C bmB newId mg h:=by
 refine⟨PySem.W.mg_of X G e,?_⟩;unfold PySem.W.excIn at q
 split at q
 ·rename_i od cd sl look
  split at q
  ·rename_i Cx bm j0 j1 j2 j3 nw j5 hmro hsl
   simp only[Bool.and_eq_true,beq_iff_eq,Bool.not_eq_true']at q;obtain⟨⟨⟨⟨⟨rfl,rfl⟩,Ib⟩,ht⟩,hok⟩,hni⟩:=q;obtain⟨nm,bs,mro,ns,qn,hd,sn,sub,ab,col,del⟩:=cd
   (dsimp only at hmro Ib hok hni;subst hmro Ib)
   have hs2:sl = #[j0,j1,j2,j3,some (.builtin nw),j5]:=by
    obtain⟨l⟩:=sl;simp only at hsl;rw[hsl]
   subst hs2;exact⟨bm,ns,nm,qn,bs,hd,sn,sub,ab,col,od,j0,j1,j2,j3,j5,_,X _ _ look,.of_isNs (PySem.W.isNs_of_in X hok),PySem.W.nsMap_none_of_in X hok hni,PySem.W.tail_of_in X ht⟩
  ·cases q
 ·cases q
theorem FF{K:bw}{C:PySem.Addr}(h:PySem.W.hasDictIn K C=true):(PySem.W.clsIn K C).isSome=true:=by
 obtain⟨cd,e,_⟩:=PySem.W.any_some h;rw[e];rfl
theorem K6{α:Type}:∀ us:List α,us.length=1->∃ a,us=[a]
 | [_],_=>⟨_,rfl⟩
theorem K7{α:Type}:∀ us:List α,us.length=2->∃ a b,us=[a,b]
 | [_,_],_=>⟨_,_,rfl⟩
theorem K8{α:Type}:∀ us:List α,us.length=3->∃ a b c,us=[a,b,c]
 | [_,_,_],_=>⟨_,_,_,rfl⟩
theorem K9{α:Type}:∀ us:List α,us.length=4->∃ a b c d,us=[a,b,c,d]
 | [_,_,_,_],_=>⟨_,_,_,_,rfl⟩
section
variable {X:Cx}{pq:aQ}{σ:St}{H:Hp}{s:Shared}{h' : Heap}
theorem Inv.yields{t' : Nat}{wr:List Addr}{T:Addr}{o:HO}(I:Inv X pq σ H s)(k:∀ b u,b∉wr->s.heap.get? b=some u->h'.get? b=some u)(hf:∀ b∈wr,kJ X pq H b)(hT:s.heap.objs.size<=T)
 (new:bu X.prog X.w (upd H T o) h' T o):Inv X pq σ (upd H T o) { s with heap:=h',toks:=t'}:=by
 have Ml:H T=none:=I.hok.fresh hT;have nT:∀ b u,H b=some u->b≠T:=fun b u e=>aU e Ml
 have nw:∀ b u,H b=some u->b∉wr:=fun b u e hb=>by rw[(hf b hb).1]at e;cases e
 refine I.step (g':=s.gens) (d':=s.drawn) (ch:=wr) (fun b hb=>?_) (fun b o _ _ hc e _=>k b o hc e) (fun b o _ _ hc e _=>⟨o.slots,k b o hc e⟩) (fun b u hc e n=>?_)
  (fun b o hc e=>⟨o,k b o hc e⟩) (fun b xs e=>?_) (fun b ob xs e=>?_) (fun b ps e=>⟨#[],?_⟩) (fun m hm=>?_) (fun b u e=>?_) I.bare
 ·obtain⟨_,f1,_,f3,f4,f5⟩:=hf b hb;exact⟨f3,f1,f4,f5⟩
 ·rw[ao (Nat.ne_of_lt (Nat.lt_of_lt_of_le (Heap.lt_size e) hT))];exact n
 ·rw[ao (nT b _ e)];exact e
 ·rw[ao (nT b _ e)];exact e
 ·rw[ao (nT b _ e),e];simp
 ·obtain⟨o,es,ep,ho,r⟩:=hm;exact⟨o,es,ep,k _ o (fun hb=>(hf _ hb).2.1 rfl) ho,r⟩
 ·by_cases hb:b=T
  ·subst hb;rw[af]at e;cases e;exact new
  ·rw[ao hb]at e;refine(I.hok b u e).stay (fun c v hc q=>k c v ?_ q) (fun c q=>by rw[ao (nT c _ q)];exact q) fun c xs q=>by rw[ao (nT c _ q)];exact q
   rcases hc with z|z
   ·rw[z];exact nw b u e
   ·exact nw c _ z
theorem Inv.Dg{t' : Nat}{wr:List Addr}(I:Inv X pq σ H s)(k:∀ b u,b∉wr->s.heap.get? b=some u->h'.get? b=some u)(hf:∀ b∈wr,kJ X pq H b):Inv X pq σ H { s with heap:=h',toks:=t'}:=by
 have nw:∀ b u,H b=some u->b∉wr:=fun b u e hb=>by rw[(hf b hb).1]at e;cases e
 refine I.step (g':=s.gens) (d':=s.drawn) (ch:=wr) (fun b hb=>?_) (fun b o _ _ hc e _=>k b o hc e) (fun b o _ _ hc e _=>⟨o.slots,k b o hc e⟩) (fun _ _ _ _ n=>n)
  (fun b o hc e=>⟨o,k b o hc e⟩) (fun _ _ e=>e) (fun _ _ _ e=>e) (fun b ps e=>⟨#[],by rw[e];simp⟩) (fun m hm=>?_) (fun b u e=>?_) I.bare
 ·obtain⟨_,f1,_,f3,f4,f5⟩:=hf b hb;exact⟨f3,f1,f4,f5⟩
 ·obtain⟨o,es,ep,ho,r⟩:=hm;exact⟨o,es,ep,k _ o (fun hb=>(hf _ hb).2.1 rfl) ho,r⟩
 ·refine(I.hok b u e).stay (fun c v hc q=>k c v ?_ q) (fun _ q=>q) fun _ _ q=>q
  rcases hc with z|z
  ·rw[z];exact nw b u e
  ·exact nw c _ z
end
def La(K:bw)(a:Addr):It :=
 ⟨fun i H=>∃ xs x,aR K H a xs/\xs[i]?=some x,fun i H v H'=>∃ T x,v = .ref T/\H T=none/\H' = upd H T (.tup [.int (i:Int),x])/\∀ xs,aR K H a xs->xs[i]?=some x,fun i H=>∃ xs,aR K H a xs/\xs.length<=i⟩
theorem zb{P:Program}{w:World}{K:bw}{elts:List Expr}{k:Nat}{pos:Pos}(a e it:Addr)(hne:e≠it):
 Turn P w K (.Tuple elts k pos) (La K a) [e,it] e (fun i h=>(∃ old,IsEnum h e it (i:Int) old)/\h.IsListIter it a i) where
 mem:=by simp
 obj:=fun i h st b hb=>by
  obtain⟨⟨old,he⟩,o,ho,c,d⟩:=st;have hb' : b=e\/b=it:=by simpa using hb
  rcases hb' with rfl|rfl
  ·exact⟨_,he,fun v z=>by cases z⟩
  ·exact⟨o,ho,fun v z=>by rw[d]at z;cases z⟩
 keep:=fun i h h' st k=>by
  obtain⟨⟨old,he⟩,hit⟩:=st;exact⟨⟨old,k e (by simp) _ he⟩,hit.at fun o x=>k it (by simp) o x⟩
 item:=by
  intro X hP hw hK hc i pq s σ H E I hf st hg;subst hP hw hK;obtain⟨xs,x,hq,hx⟩:=hg;obtain⟨its,rv,p,hz⟩:=I.list hq;obtain⟨u,hu,ru⟩:=rv.get hx;obtain⟨⟨old,he⟩,hit⟩:=st;refine wpAny_pyNext_enum_item he hit p.isList (x:=u) (by simpa using hu) hne fun h1 ho Lb hT hsz hk=>?_
  refine⟨_,rfl,wpAny_letOwnedTupleGo_enum ho fun h2 FG hs2=>?_⟩
  have Mm:s.heap.objs.size≠e:=Nat.ne_of_gt (Heap.lt_size he);have hT2:h2.get? s.heap.objs.size=some { cls:=.type "tuple",data:=.seq #[.int i s.toks,u]}:=(hs2.2 _ Mm).trans hT;refine⟨.ref s.heap.objs.size,upd H s.heap.objs.size (.tup [.int (i:Int),x]),I.yields (wr:=[e,it]) (t':=s.toks+1) (fun b o hb q=>?_) hf (Nat.le_refl _) ?_,rfl,⟨_,x,rfl,I.fresh,rfl,fun ys hy=>by rw[I.ly hy hq];exact hx⟩,⟨⟨u,by simpa using FG⟩,?_⟩,fun b hb=>?_⟩
  ·have Ek:b≠e:=fun z=>hb (by simp[z])
   have Ic:b≠it:=fun z=>hb (by simp[z])
   exact(hs2.2 b Ek).trans (hk b o Ek Ic q)
  ·exact⟨dl rfl,[.int i s.toks,u],.cons ⟨_,rfl⟩ (.cons ru .nil),⟨_,hT2,rfl,_,rfl⟩⟩
  ·exact Lb.at fun o q=>(hs2.2 it (Ne.symm hne)).trans q
  ·rw[ao]
   ·exact(hf b hb).1
   ·have hb' : b=e\/b=it:=by simpa using hb
    rcases hb' with rfl|rfl
    ·exact Ne.symm Mm
    ·obtain⟨o,q,_⟩:=hit;exact Nat.ne_of_lt (Heap.lt_size q)
 done:=by
  intro X hP hw hK hc i pq s σ H E I hf st hg;subst hP hw hK;obtain⟨xs,hq,hx⟩:=hg;obtain⟨its,rv,p,hz⟩:=I.list hq;obtain⟨⟨old,he⟩,hit⟩:=st;obtain⟨f0,f1,f2,f3,f4,f5⟩:=hf it (by simp)
  have hl:=rv.length;exact wpAny_pyNext_enum_end (I.ok.hd hc) he hit p.isList (by simp;lia) fun h' eb=>⟨rfl,I.turned (t':=s.toks) (fun b o hb e=>eb b o hb e) f0 f1 f3 f4 f5⟩
 self:=fun _ _ _ _ _ st h=>by
  obtain⟨⟨old,he⟩,_⟩:=st;exact wpAny_pyIter_enum he h
def Lc(K:bw)(a b:Addr):It :=
 ⟨fun i H=>∃ xs ys x y,aR K H a xs/\aR K H b ys/\xs[i]?=some x/\ys[i]?=some y,
  fun i H v H'=>∃ T x y,v = .ref T/\H T=none/\H' = upd H T (.tup [x,y])/\(∀ xs,aR K H a xs->xs[i]?=some x)/\∀ ys,aR K H b ys->ys[i]?=some y,
  fun i H=>∃ xs ys,aR K H a xs/\aR K H b ys/\(xs.length<=i\/ys.length<=i)⟩
theorem A2{P:Program}{w:World}{K:bw}{elts:List Expr}{k:Nat}{pos:Pos}(a b z TI TO i1 i2:Addr)(D:ZipApart z TI TO i1 i2 a b):
 Turn P w K (.Tuple elts k pos) (Lc K a b) [z,TI,TO,i1,i2] z (fun i h=>IsZip h z TI TO .none/\IsPair h TI (.ref i1) (.ref i2)/\(∃ u v,IsPair h TO u v)/\h.IsListIter i1 a i/\h.IsListIter i2 b i) where
 mem:=by simp
 obj:=fun i h st c hc=>by
  obtain⟨hz,hI,⟨u,v,hO⟩,⟨o1,Cr,_,d1⟩,o2,ho2,_,d2⟩:=st;have hc' : c=z\/c=TI\/c=TO\/c=i1\/c=i2:=by simpa using hc
  rcases hc' with rfl|rfl|rfl|rfl|rfl
  ·exact⟨_,hz,fun v z=>by cases z⟩
  ·exact⟨_,hI,fun v z=>by cases z⟩
  ·exact⟨_,hO,fun v z=>by cases z⟩
  ·exact⟨o1,Cr,fun v z=>by rw[d1]at z;cases z⟩
  ·exact⟨o2,ho2,fun v z=>by rw[d2]at z;cases z⟩
 keep:=fun i h h' st k=>by
  obtain⟨hz,hI,⟨u,v,hO⟩,h1,h2⟩:=st;exact⟨k z (by simp) _ hz,k TI (by simp) _ hI,⟨u,v,k TO (by simp) _ hO⟩,h1.at fun o e=>k i1 (by simp) o e,h2.at fun o e=>k i2 (by simp) o e⟩
 item:=by
  intro X hP hw hK hc i pq s σ H E I hf st hg;subst hP hw hK;obtain⟨xs,ys,x,y,hq,hq2,hx,hy⟩:=hg;obtain⟨its,rv,p,Ov⟩:=I.list hq;obtain⟨its2,JE,p2,Ld⟩:=I.list hq2;obtain⟨u,hu,ru⟩:=rv.get hx;obtain⟨u2,Ow,Ox⟩:=JE.get hy;obtain⟨hz,hI,⟨v1,v2,hO⟩,h1,h2⟩:=st;refine wpAny_pyNext_zip_item D hz hI hO h1 h2 p.isList p2.isList (x:=u) (y:=u2) (by simpa using hu) (by simpa using Ow) fun h3 Oz OA OB OD hT hsz hk=>?_
  refine⟨_,rfl,wpAny_letOwnedTupleGo_zip Oz fun h4 OE GI=>?_⟩
  have lt:∀{c o},s.heap.get? c=some o->s.heap.objs.size≠c:=fun e=>Nat.ne_of_gt (Heap.lt_size e)
  have OF:h4.get? s.heap.objs.size=some { cls:=.type "tuple",data:=.seq #[u,u2]}:=(GI.2 _ (lt hz)).trans hT;have kk:∀ c o,c∉[z,TO,i1,i2]->s.heap.get? c=some o->h4.get? c=some o:=fun c o hc q=>by
   have c1:c≠z:=fun e=>hc (by simp[e])
   exact(GI.2 c c1).trans (hk c o c1 (fun e=>hc (by simp[e])) (fun e=>hc (by simp[e])) (fun e=>hc (by simp[e])) q)
  have hsub:∀ c∈[z,TO,i1,i2],c∈[z,TI,TO,i1,i2]:=fun c hc=>by
   have hc' : c=z\/c=TO\/c=i1\/c=i2:=by simpa using hc
   rcases hc' with rfl|rfl|rfl|rfl<;>simp
  refine⟨.ref s.heap.objs.size,upd H s.heap.objs.size (.tup [x,y]),I.yields (wr:=[z,TO,i1,i2]) (t':=s.toks) kk (fun c hc=>hf c (hsub c hc)) (Nat.le_refl _) ?_,rfl,
   ⟨_,x,y,rfl,I.fresh,rfl,fun zs hy=>by rw[I.ly hy hq];exact hx,fun zs hz=>by rw[I.ly hz hq2];exact hy⟩,⟨OE,(GI.2 _ D.TIz).trans (hk _ _ D.TIz D.TITO D.TIi1 D.TIi2 hI),⟨u,u2,(GI.2 _ D.TOz).trans OA⟩,?_,?_⟩,fun c hc=>?_⟩
  ·exact⟨dl rfl,[u,u2],.cons ru (.cons Ox .nil),⟨_,OF,rfl,_,rfl⟩⟩
  ·exact OB.at fun o q=>(GI.2 _ D.i1z).trans q
  ·exact OD.at fun o q=>(GI.2 _ D.i2z).trans q
  ·rw[ao]
   ·exact(hf c hc).1
   ·have hc' : c=z\/c=TI\/c=TO\/c=i1\/c=i2:=by simpa using hc
    rcases hc' with rfl|rfl|rfl|rfl|rfl
    ·exact Ne.symm (lt hz)
    ·exact Ne.symm (lt hI)
    ·exact Ne.symm (lt hO)
    ·obtain⟨o,q,_⟩:=h1;exact Ne.symm (lt q)
    ·obtain⟨o,q,_⟩:=h2;exact Ne.symm (lt q)
 done:=by
  intro X hP hw hK hc i pq s σ H E I hf st hg;subst hP hw hK;obtain⟨xs,ys,hq,hq2,hx⟩:=hg;obtain⟨its,rv,p,Ov⟩:=I.list hq;obtain⟨its2,JE,p2,Ld⟩:=I.list hq2;obtain⟨hz,hI,⟨v1,v2,hO⟩,h1,h2⟩:=st;have hl:=rv.length;have hl2:=JE.length;have hsub:∀ c∈[z,TO,i1,i2],c∈[z,TI,TO,i1,i2]:=fun c hc=>by
   have hc' : c=z\/c=TO\/c=i1\/c=i2:=by simpa using hc
   rcases hc' with rfl|rfl|rfl|rfl<;>simp
  refine wpAny_pyNext_zip_end (I.ok.hd hc) D hz hI hO h1 h2 p.isList p2.isList (hx.imp (fun q=>by simp;lia) fun q=>by simp;lia) fun h' kk=>⟨rfl,I.Dg (wr:=[z,TO,i1,i2]) (t':=s.toks) (fun c o hc q=>?_) fun c hc=>hf c (hsub c hc)⟩
  exact kk c o (fun e=>hc (by simp[e])) (fun e=>hc (by simp[e])) (fun e=>hc (by simp[e])) (fun e=>hc (by simp[e])) q
 self:=fun _ _ _ _ _ st h=>wpAny_pyIter_zip st.1 h
theorem zc{n a b:Nat}(la:a<n)(lb:b<n):ZipApart (n+4) (n+2) (n+3) n (n+1) a b:=by
 have k:∀{x y:Nat},x<y\/y<x->x≠y:=fun h=>by lia
 constructor<;>exact k (by lia)
section
variable {X:Cx}{elts:List Expr}{n:Nat}{tp:Pos}
def Ie(K:bw)(ta:TA):TI:=fun σ H R=>ta σ H fun vs H1=>∃ a,vs=[.ref a]/\(∃ xs,aR K H1 a xs)/\R (La K a) H1
def Le(K:bw)(ta:TA):TI:=fun σ H R=>ta σ H fun vs H1=>∃ a b,vs=[.ref a,.ref b]/\(∃ xs,aR K H1 a xs)/\(∃ ys,aR K H1 b ys)/\R (Lc K a b) H1
theorem Dh(K:bw){a:Expr}{ta:TA}{p pos:Pos}(hg:Gl X "enumerate")(hm:X.mg "enumerate"=none)(ha:PA X [a] ta)(hs:starEach [a] X.env=[(false,eval a X.env)]:=by rfl)(hK:X.K=K:=by rfl):
 PI X (.Tuple elts n tp) (.Call (.Name "enumerate" p) [a] [] pos) (Ie K ta):=by
 subst hK;intro pq s σ H R I h;refine Call_ (jn I hg hm boot_enumerate (PyProof.Rows.callWith_type1 (dP (ha pos pq s σ H _ I h) fun us s1 ⟨vs,H1,I1,r1,q1⟩=>?_) hs rfl))
 obtain⟨a,e,⟨xs,hq⟩,q⟩:=q1;subst e;cases r1 with
 | cons r rr =>
   cases rr;cases r;obtain⟨its,rv,pl,hz⟩:=I1.list hq;refine call_enumerate_list pl.isList fun h' he hit hsz hk=>?_
   have I2:Inv X pq σ H1 { s1 with heap:=h'}:=I1.kept (t':=s1.toks) hk
   refine wpAny_pyIter_enum he ⟨_,[s1.heap.objs.size+1,s1.heap.objs.size],_,_,H1,rfl,I2,zb a _ _ (Nat.succ_ne_self _),⟨⟨_,he⟩,hit⟩,fun b hb=>?_,q⟩
   have hb' : b=s1.heap.objs.size+1\/b=s1.heap.objs.size:=by simpa using hb
   have Mn:s1.heap.objs.size<=b:=by
    rcases hb' with rfl|rfl
    ·exact Nat.le_succ _
    ·exact Nat.le_refl _
   exact I1.AF Mn (I1.hok.fresh Mn)
theorem FH(K:bw){a b:Expr}{ta:TA}{p pos:Pos}(hg:Gl X "zip")(hm:X.mg "zip"=none)(ha:PA X [a,b] ta)(hs:starEach [a,b] X.env=[(false,eval a X.env),(false,eval b X.env)]:=by rfl)(hs2:starEach [b] X.env=[(false,eval b X.env)]:=by rfl)(hK:X.K=K:=by rfl):
 PI X (.Tuple elts n tp) (.Call (.Name "zip" p) [a,b] [] pos) (Le K ta):=by
 subst hK;intro pq s σ H R I h;refine Call_ (jn I hg hm boot_zip (PyProof.Rows.callWith_type1 (dP (ha pos pq s σ H _ I h) fun us s1 ⟨vs,H1,I1,r1,q1⟩=>?_) (by rw[hs,hs2]) (by rw[hs2];rfl)))
 obtain⟨a,b,e,⟨xs,hq⟩,⟨ys,hq2⟩,q⟩:=q1;subst e;cases r1 with
 | cons r rr =>
   cases rr with
   | cons r' rr =>
     cases rr;cases r;cases r';obtain⟨its,rv,pl,hz⟩:=I1.list hq;obtain⟨its2,JE,JD,hz2⟩:=I1.list hq2;refine call_zip_2 pl.isList JD.isList fun h' Mp hI hO h1 h2 hsz hk=>?_
     have I2:Inv X pq σ H1 { s1 with heap:=h'}:=I1.kept (t':=s1.toks) hk
     have la:a<s1.heap.objs.size:=by obtain⟨_,q,_⟩:=pl.isList;exact Heap.lt_size q
     have lb:b<s1.heap.objs.size:=by obtain⟨_,q,_⟩:=JD.isList;exact Heap.lt_size q
     refine wpAny_pyIter_zip Mp ⟨_,[s1.heap.objs.size+4,s1.heap.objs.size+2,s1.heap.objs.size+3,s1.heap.objs.size,s1.heap.objs.size+1],_,_,H1,rfl,I2,
      A2 a b _ _ _ _ _ (zc la lb),⟨Mp,hI,⟨_,_,hO⟩,h1,h2⟩,fun c hc=>?_,q⟩
     have hc' : c=s1.heap.objs.size+4\/c=s1.heap.objs.size+2\/c=s1.heap.objs.size+3\/c=s1.heap.objs.size\/c=s1.heap.objs.size+1:=by simpa using hc
     have hcs:s1.heap.objs.size<=c:=by
      rcases hc' with rfl|rfl|rfl|rfl|rfl
      ·exact Nat.le_add_right _ _
      ·exact Nat.le_add_right _ _
      ·exact Nat.le_add_right _ _
      ·exact Nat.le_refl _
      ·exact Nat.le_add_right _ _
     exact I1.AF hcs (I1.hok.fresh hcs)
end
section
variable {K:bw}{a b:Addr}{xs ys:List V}{g:TG}{tt:TT}{te:TE}{n:Nat}{fr:St}{D:Addr}{Q:Hp->Prop}{H1:Hp}
theorem A3(hxy:xs.length=ys.length)(Pv:Nat->List V->Hp->Prop)(h0:Pv 0 [] H1)(hl:∀ i acc H,i<=xs.length->Pv i acc H->aR K H a xs/\aR K H b ys/\H D=some (.lst acc)/\acc.length<=i)(hz:xs.length<=sizeLine)
 (hs:∀ i x y T acc H,xs[i]?=some x->ys[i]?=some y->Pv i acc H->H T=none->g (.ref T) (List.replicate n none++fr) (upd H T (.tup [x,y])) fun σ2 H2=>σ2.drop n=fr/\tt σ2 H2 fun b H3 =>
  if b=true then te σ2 H3 fun v H4=>H4 D=some (.lst acc)/\Pv (i+1) (acc++[v]) (upd H4 D (.lst (acc++[v]))) else Pv (i+1) acc H3)
 (hd:∀ acc H,Pv xs.length acc H->Q H):hU (Lc K a b) g tt te n fr D Q H1:=by
 refine⟨fun i m acc H=>m=xs.length-i/\i<=xs.length/\Pv i acc H,⟨xs.length,by simp,Nat.zero_le _,h0⟩,?_⟩
 rintro i m acc H ⟨rfl,hi,p⟩;obtain⟨q,q2,hD,ha⟩:=hl i acc H hi p;refine⟨hD,?_⟩
 by_cases hlt:i<xs.length
 ·have Lf:i<ys.length:=by lia
  refine .inr ⟨⟨xs,ys,xs[i],ys[i],q,q2,by simp[hlt],by simp[Lf]⟩,by lia,Pv (i+1),fun acc' H' p'=>⟨xs.length-(i+1),by lia,rfl,hlt,p'⟩,fun v H' y=>?_⟩
  obtain⟨T,x,z,rfl,hT,rfl,y1,y2⟩:=y;exact hs i x z T acc _ (y1 xs q) (y2 ys q2) p hT
 ·have e:i=xs.length:=by lia
  subst e;exact .inl ⟨⟨xs,ys,q,q2,.inl (Nat.le_refl _)⟩,hd acc H p⟩
end
section
variable {X:Cx}
theorem uy:eU X (.type "range") (fun xs H Q=>∃ j:Int,xs=[.int j]/\∀ p,H p=none->Q (.ref p) (upd H p (.yH 0 j))):=by
 intro pq s σ H xs us Q I r h;obtain⟨j,rfl,q⟩:=h;obtain⟨u,rfl,t,rfl⟩:=vals1 r;refine call_range_1 ⟨.ref s.heap.objs.size,_,I.laid (t':=s.toks+1+1) (fun b o e=>Heap.get?_push_of_some _ e) (Nat.le_refl _) ?_,rfl,q _ I.fresh⟩
 exact⟨_,_,_,Heap.get?_push_size _ rfl⟩
def qo(n:Nat):List V:=(List.range n).map fun i=>V.int ((i:Nat):Int)
theorem El(hc:X.calm=true):eU X (.type "list") (fun xs H Q=>∃ p,∃ n:Nat,xs=[.ref p]/\H p=some (.yH 0 (n:Int))/\n<=900/\∀ l,H l=none->Q (.ref l) (upd H l (.lst (qo n)))):=by
 intro pq s σ H xs us Q I r h;obtain⟨p,n,rfl,hp,hn,q⟩:=h;obtain⟨u,rfl,rx⟩:=vals1 r;cases rx;obtain⟨t,u,v,e⟩:=(show bu X.prog X.w H s.heap p (.yH 0 (n:Int)) from I.hok p _ hp)
 have hsz:Builtin.Range.rangeSize 0 (n:Int) 1=(n:Int):=by rw[rangeSize_one];split<;>lia
 refine call_list_range (I.ok.hd hc) e (small_one (by lia) (by lia) (by lia) (by lia)) hsz (Nat.le_trans hn (by decide)) fun h' tk acc c kp e' hacc=>?_
 refine⟨.ref s.heap.objs.size,_,I.laid (t':=tk) kp (Nat.le_refl _) ?_,rfl,q _ I.fresh⟩;have hl:acc.toList.length=n:=by rw[Array.length_toList];exact hacc.1
 have hz:(qo n).length<=sizeLine:=by
  unfold qo;rw[List.length_map,List.length_range];exact Nat.le_of_lt (jX (by lia))
 refine⟨hz,acc.toList,c,?_,by simpa using e'⟩
 have key:∀(ys:List Value) (k:Nat),(∀ j v,ys[j]?=some v->∃ t,v=Value.int (((k+j:Nat)):Int) t)->Vals ((List.range' k ys.length).map fun i=>V.int ((i:Nat):Int)) ys:=by
  intro ys
  induction ys with
  | nil=>intro k _;exact .nil
  | cons y r ih =>
    intro k hy;obtain⟨t,ht⟩:=hy 0 y rfl;refine .cons ⟨t,by simpa using ht⟩ (ih (k+1) fun j v hv=>?_)
    obtain⟨t',ht'⟩:=hy (j+1) v (by simpa using hv)
    exact⟨t',by rw[ht'];congr 2;lia⟩
 have z:=key acc.toList 0 fun j v hv=>by
  obtain⟨t,ht⟩:=hacc.2 j v (by simpa using hv)
  exact⟨t,by rw[ht];congr 1;lia⟩
 rw[hl]at z;unfold qo;rw[List.range_eq_range'];exact z
theorem sumK(K:bw)(hc:X.calm=true)(hK:X.K=K:=by rfl):eU X (.builtin "sum") (fun xs H Q=>∃(p:Addr) (ns:List Int),xs=[.ref p]/\aR K H p (ns.map V.int)/\Q (.int ns.sum) H):=by
 subst hK;intro pq s σ H xs us Q I r h;obtain⟨p,ns,rfl,hq,q⟩:=h;obtain⟨u,rfl,rx⟩:=vals1 r;cases rx;obtain⟨its,rv,pl,hz⟩:=I.list hq;have hi:∀{ns:List Int} {its:List Value},Vals (ns.map V.int) its->∃ xs:Array (Int×Tok),its.toArray=intItems xs/\xs.toList.map (·.1)=ns:=by
  intro ns
  induction ns with
  | nil=>intro its r;cases r;exact⟨#[],by simp[intItems],rfl⟩
  | cons a l ih =>
    intro its r;cases r with
    | cons r1 r2 =>
      obtain⟨t,rfl⟩:=r1;obtain⟨xs,h1,h2⟩:=ih r2;refine⟨#[(a,t)]++xs,?_,by simp[h2]⟩
      have Ek:=congrArg Array.toList h1;simp only[intItems,Array.toList_map,List.toList_toArray]at Ek;simp[intItems,Ek,Array.map_append]
 obtain⟨ar,e1,e2⟩:=hi rv;have hl:s.heap.IsList p (intItems ar):=e1▸pl.isList;refine sum_intListG (I.ok.hd hc) hl fun h' tk t' hk=>?_
 have e3:preSum (numAt ar) ar.size=ns.sum:=by rw[preSum_eq,List.take_of_length_le (by simp),e2]
 rw[e3];exact⟨.int ns.sum,H,I.kept hk,⟨t',rfl⟩,q⟩
theorem Lg(K:bw)(hc:X.calm=true)(hK:X.K=K:=by rfl):eU X (.type "set") (fun xs H Q=>∃(p:Addr) (ns:List Int),xs=[.ref p]/\aR K H p (ns.map V.int)/\ns.length<=900/\
 ∀(l:Addr) (S:Int->Bool),H l=none->Q (.ref l) (upd H l (.set S (firstMet (fun i=>ns.getD i 0) ns.length).length))):=by
 subst hK;intro pq s σ H xs us Q I r h;obtain⟨p,ns,rfl,hq,hn,q⟩:=h;obtain⟨u,rfl,rx⟩:=vals1 r;cases rx;obtain⟨its,rv,pl,hz⟩:=I.list hq;have hl:=rv.length;rw[List.length_map]at hl;have hsz:its.toArray.size=ns.length:=by rw[List.size_toArray];lia
 refine PySem.call_set_list (I.ok.hd hc) pl.isList (ns:=ns) (by simpa using intsAre_of rv) (by rw[hsz];show ns.length+1<4096;lia) fun h' tk hS hk=>?_
 rw[hsz]at hS;exact⟨.ref s.heap.objs.size,_,I.laid (t':=tk) (o:=.set (fun k'=>(firstMet (fun i=>ns.getD i 0) ns.length).any fun x=>x==k') (firstMet (fun i=>ns.getD i 0) ns.length).length) (fun b o e=>hk b o (Heap.lt_size e) e) (Nat.le_refl _) hS,rfl,q _ _ I.fresh⟩
theorem FI:eU X (.builtin "len") (fun xs H Q=>∃(p:Addr) (S:Int->Bool) (n:Nat),xs=[.ref p]/\H p=some (.set S n)/\Q (.int (n:Int)) H):=by
 intro pq s σ H xs us Q I r h;obtain⟨p,S,n,rfl,hp,q⟩:=h;obtain⟨u,rfl,rx⟩:=vals1 r;cases rx;obtain⟨o,es,ep,t,ho,hex,hd,_,_,hb,hf,rfl⟩:=(show bu X.prog X.w H s.heap p (.set S n) from I.hok p _ hp)
 refine call_len_set ho hex hd hf (by have:es.size<4096:=hb;lia) ⟨.int _,H,I.tok _,⟨_,rfl⟩,q⟩
end
end L2
namespace Ring
open PySem
abbrev cJ:=Int×Int×Int
def bit(S:Int)(k:Nat):Bool:=decide (S/2^k%2=1)
def bG(S:Int):List Nat:=(List.range (Builtin.Int.intBits S)).filter (bit S)
def bump(e:List Int)(i:Int):List Int:=e.set i.toNat (e.getD i.toNat 0+1)
def step(ts:List cJ)(e:List Int)(k:Nat):List Int:=match ts[k]? with
 | some t=>bump (bump e t.1) t.2.1
 | none=>e
def gQ(p:Nat)(ts:List cJ)(S:Int):List Int:=(bG S).foldl (step ts) (List.replicate p 0)
def oQ(p:Nat)(ts:List cJ)(S:Int):List Nat:=(List.range p).filter fun i=>decide ((gQ p ts S).getD i 0%2=1)
def Cs(ts:List cJ)(k i:Nat):Int:=match ts[k]? with
 | some t=>(if t.1=(i:Int) then 1 else 0)+(if t.2.1=(i:Int) then 1 else 0)
 | none=>0
theorem ia(e:List Int)(i:Int):(bump e i).length=e.length:=by unfold bump;rw[List.length_set]
theorem A4(ts:List cJ)(e:List Int)(k:Nat):(step ts e k).length=e.length:=by
 unfold step
 split
 ·rw[ia,ia]
 ·rfl
theorem uz(e:List Int)(j:Int)(i:Nat)(h0:0<=j)(h1:j<e.length):(bump e j).getD i 0=e.getD i 0+if j=(i:Int) then 1 else 0:=by
 unfold bump;rw[List.getD_eq_getElem?_getD,List.getD_eq_getElem?_getD,List.getD_eq_getElem?_getD]
 by_cases h:j=(i:Int)
 ·have hi:j.toNat=i:=by lia
  rw[if_pos h,hi,List.getElem?_set_self (by lia)]
  rfl
 ·have hi:j.toNat≠i:=by lia
  rw[if_neg h,List.getElem?_set_ne hi]
  lia
structure yc(p:Nat)(ts:List cJ):Prop where
 ends:∀ t∈ts,0<=t.1/\t.1<(p:Int)/\0<=t.2.1/\t.2.1<(p:Int)
theorem step_get{p:Nat}{ts:List cJ}(W:yc p ts)(e:List Int)(k i:Nat)(he:e.length=p):(step ts e k).getD i 0=e.getD i 0+Cs ts k i:=by
 unfold step Cs;cases h:ts[k]? with
 | none=>simp
 | some t =>
   obtain⟨a0,a1,b0,b1⟩:=W.ends t (vU h);dsimp only;rw[uz _ _ _ b0 (by rw[ia,he];exact b1),uz _ _ _ a0 (by rw[he];exact a1)]
   lia
def mh(ts:List cJ)(ks:List Nat)(i:Nat):Int:=(ks.map fun k=>Cs ts k i).sum
theorem uA{p:Nat}{ts:List cJ}(W:yc p ts)(i:Nat):∀(ks:List Nat) (e:List Int),e.length=p->(ks.foldl (step ts) e).getD i 0=e.getD i 0+mh ts ks i
 | [],e,_=>by simp[mh]
 | k::r,e,he=>by
   rw[List.foldl_cons,uA W i r _ (by rw[A4,he]),step_get W e k i he]
   unfold mh;rw[List.map_cons,List.sum_cons]
   lia
theorem A5{p:Nat}{ts:List cJ}(W:yc p ts)(S:Int)(i:Nat):(gQ p ts S).getD i 0=mh ts (bG S) i:=by
 unfold gQ;rw[uA W i _ _ (by simp)]
 have e:(List.replicate p (0:Int)).getD i 0=0:=by
  rw[List.getD_eq_getElem?_getD,List.getElem?_replicate]
  split<;>rfl
 rw[e]
 lia
theorem lD(m k:Nat):bit (m:Int) k=m.testBit k:=by
 unfold bit;rw[Nat.testBit_eq_decide_div_mod_eq];have e:((m:Int)/2^k%2=1)↔(m/2^k%2=1):=by
  have h2:((2:Int)^k)=((2^k:Nat):Int):=by simp
  rw[h2,<-Int.natCast_ediv]
  lia
 simp only[e]
theorem uB(m:Nat):Builtin.Int.intBits (m:Int)=if m=0 then 0 else m.log2+1:=by
 unfold Builtin.Int.intBits
 by_cases h:m=0
 ·simp[h]
 ·simp[h]
theorem bits_le{m n:Nat}(h:m<2^n):Builtin.Int.intBits (m:Int)<=n:=by
 rw[uB]
 split
 ·exact Nat.zero_le _
 ·rename_i h0
  exact(Nat.log2_lt h0).mpr h
theorem A6{m k:Nat}(h:Builtin.Int.intBits (m:Int)<=k):bit (m:Int) k=false:=by
 rw[lD];rw[uB]at h
 by_cases h0:m=0
 ·simp[h0]
 ·rw[if_neg h0]at h;exact Nat.testBit_lt_two_pow (Nat.lt_of_lt_of_le Nat.lt_log2_self (Nat.pow_le_pow_right (by decide) h))
theorem lE(f:Nat->Bool)(a:Nat):∀ d,(∀ k,a<=k->f k=false)->(List.range (a+d)).filter f=(List.range a).filter f
 | 0,_=>rfl
 | d+1,h=>by
   rw[<-Nat.add_assoc,List.range_succ,List.filter_append,lE f a d h];have e:[a+d].filter f=[]:=by rw[List.filter_cons,if_neg (by rw[h _ (by lia)];simp)];rfl
   rw[e,List.append_nil]
theorem gi{m n:Nat}(h:m<2^n):bG (m:Int)=(List.range n).filter fun k=>m.testBit k:=by
 unfold bG;have hb:=bits_le h;obtain⟨d,hd⟩:=Nat.exists_eq_add_of_le hb;have e:(fun k=>m.testBit k)=bit (m:Int):=funext fun k=>(lD m k).symm
 rw[e]
 conv=>rhs;rw[hd]
 exact(lE _ _ d fun k hk=>A6 hk).symm
theorem nW{m n:Nat}(h:m<2^n){k:Nat}(hk:k∈bG (m:Int)):k<n:=by
 rw[gi h]at hk;exact List.mem_range.mp (List.mem_filter.mp hk).1
theorem sum_filter(ts:List cJ)(i:Nat)(f:Nat->Bool):∀ ks:List Nat,mh ts (ks.filter f) i=(ks.map fun k=>if f k=true then Cs ts k i else 0).sum
 | []=>rfl
 | k::r=>by
   have ih:=sum_filter ts i f r;rw[List.map_cons,List.sum_cons,<-ih];cases h:f k with
   | true =>
     rw[List.filter_cons,if_pos h];unfold mh;rw[List.map_cons,List.sum_cons];simp
   | false =>
     rw[List.filter_cons,if_neg (by rw[h];simp)]
     simp
theorem A7{a b x y:Nat}(q:x/2+2*(y/2)=a/2+b/2)(h:x%2+2*(y%2)=a%2+b%2):x+2*y=a+b:=by lia
theorem mod_one{u v:Nat}(hu:u=0\/u=1)(hv:v=0\/v=1):(u^^^v)+2*(u&&&v)=u+v:=by
 rcases hu with rfl|rfl<;>rcases hv with rfl|rfl<;>rfl
theorem Di:∀ a b:Nat,(a^^^b)+2*(a&&&b)=a+b:=by
 intro a
 induction a using Nat.strongRecOn with
 | ind a ih =>
   intro b
   by_cases h:a=0
   ·subst h;simp
   ·have q:=ih (a/2) (by lia) (b/2)
    rw[<-Nat.xor_div_two,<-Nat.and_div_two]at q;refine A7 q ?_;have e1:(a^^^b)%2=a%2^^^b%2:=Nat.xor_mod_two_pow (n:=1);have e2:(a&&&b)%2=a%2&&&b%2:=Nat.and_mod_two_pow (n:=1);rw[e1,e2];exact mod_one (Nat.mod_two_eq_zero_or_one a) (Nat.mod_two_eq_zero_or_one b)
theorem xor_int(a b:Nat):Builtin.bitXor (a:Int) (b:Int)=((a^^^b:Nat):Int):=by
 have h:(a:Int)+b-2*((a&&&b:Nat):Int)=((a^^^b:Nat):Int):=by
  have q:=Di a b
  lia
 have e:=PyProof.Rows.bitXor_and (a:Int) (b:Int);rw[e,PyProof.Rows.bitAnd_pp (by lia) (by lia)]
 simpa using h
open PySem L2
def Dj(t:cJ):List V:=[.int t.1,.int t.2.1,.int t.2.2]
def TupAt(H:Hp)(x:V)(t:cJ):Prop:=∃ b,x = .ref b/\H b=some (.tup (Dj t))
structure bg(H:Hp)(w:Addr)(p:Nat)(ts:List cJ):Prop where
 ex:∃ b xs,H w=some (.tup [.int (p:Int),.ref b])/\H b=some (.tup xs)/\Paired (TupAt H) xs ts
structure Em(p:Nat)(ts:List cJ):Prop where
 Mq:yc p ts
 len:ts.length<=24
 Mr:p<=10
theorem TupAt.tups{H H' : Hp}(s:jt H H'){x:V}{t:cJ}(h:TupAt H x t):TupAt H' x t:=by
 obtain⟨b,e,h⟩:=h;exact⟨b,e,s _ _ h⟩
theorem bg.tups{H H' : Hp}{w:Addr}{p:Nat}{ts:List cJ}(s:jt H H')(h:bg H w p ts):bg H' w p ts:=by
 obtain⟨b,xs,h1,h2,h3⟩:=h.ex;exact⟨b,xs,s _ _ h1,s _ _ h2,Paired.imp' (fun _ _ z=>z.tups s) h3⟩
theorem bg.same{H H' : Hp}{w:Addr}{p:Nat}{ts:List cJ}(s:aq H H')(h:bg H w p ts):bg H' w p ts:=h.tups s.tups
def aJ(l:List Nat):List V:=l.map fun k=>V.int ((k:Nat):Int)
theorem dR(l:List Nat)(k:Nat):aJ (l++[k])=aJ l++[.int (k:Int)]:=by unfold aJ;rw[List.map_append];rfl
theorem aN(l:List Nat):(aJ l).length=l.length:=by unfold aJ;rw[List.length_map]
theorem fW{l:List Nat}{i:Nat}{x:V}(h:(aJ l)[i]?=some x):∃ k,l[i]?=some k/\x = .int (k:Int):=by
 unfold aJ at h;rw[List.getElem?_map]at h;obtain⟨k,e,q⟩:=DW.mp h;exact⟨k,e,q.symm⟩
theorem aK(f:Nat->Bool)(i:Nat):(List.range (i+1)).filter f=(List.range i).filter f++(if f i=true then[i] else[]):=by
 rw[List.range_succ,List.filter_append]
 congr 1
 cases h:f i with
 | true=>rw[List.filter_cons,if_pos h,if_pos rfl];rfl
 | false=>rw[List.filter_cons,if_neg (by rw[h];simp),if_neg (by simp)];rfl
def lF(f:Nat->Bool)(H:Hp)(D:Addr)(i:Nat)(acc:List V)(H2:Hp):Prop:=aq H H2/\H2 D=some (.lst acc)/\acc=aJ ((List.range i).filter f)
section
variable {f:Nat->Bool}{H H2 H3:Hp}{D:Addr}{i:Nat}{acc:List V}
theorem lF.start(hD:H D=none):lF f H D 0 [] (upd H D (.lst [])):=⟨aq.new hD,af,rfl⟩
theorem lF.len(p:lF f H D i acc H2):H2 D=some (.lst acc)/\acc.length<=i:=by
 refine⟨p.2.1,?_⟩;rw[p.2.2,aN];exact Nat.le_trans (List.length_filter_le _ _) (by rw[List.length_range];exact Nat.le_refl _)
theorem lF.yes(p:lF f H D i acc H2)(hD:H D=none)(s:aq H2 H3)(hf:f i=true):H3 D=some (.lst acc)/\lF f H D (i+1) (acc++[.int (i:Int)]) (upd H3 D (.lst (acc++[.int (i:Int)]))):=by
 refine⟨s _ _ p.2.1,(p.1.trans s).put hD,af,?_⟩;rw[aK,if_pos hf,dR,<-p.2.2]
theorem lF.no(p:lF f H D i acc H2)(s:aq H2 H3)(hf:f i=false):lF f H D (i+1) acc H3:=by
 refine⟨p.1.trans s,s _ _ p.2.1,?_⟩;rw[aK,if_neg (by rw[hf];simp),List.append_nil]
 exact p.2.2
end
def bz(ts:List cJ)(k:Nat):cJ:=ts.getD k (0,0,0)
def stepT(e:List Int)(t:cJ):List Int:=bump (bump e t.1) t.2.1
theorem rh{ts:List cJ}:∀(ks:List Nat) (e:List Int),(∀ k∈ks,k<ts.length)->(ks.map (bz ts)).foldl stepT e=ks.foldl (step ts) e
 | [],_,_=>rfl
 | k::r,e,h=>by
   rw[List.map_cons,List.foldl_cons,List.foldl_cons,rh r _ fun j hj=>h j (qi _ hj)]
   have hk:=h k List.mem_cons_self;have e1:ts[k]?=some (bz ts k):=by
    unfold bz;rw[List.getD_eq_getElem?_getD];simp[hk]
   have e2:step ts e k=stepT e (bz ts k):=by
    unfold step stepT;rw[e1]
   rw[e2]
theorem rj{p:Nat}{ts:List cJ}{m:Nat}(h:m<2^ts.length):gQ p ts (m:Int)=((bG (m:Int)).map (bz ts)).foldl stepT (List.replicate p 0):=by
 unfold gQ;rw[rh _ _ fun k hk=>nW h hk]
theorem zd(e:List Int)(t:cJ):(stepT e t).length=e.length:=by unfold stepT;rw[ia,ia]
theorem mj:∀(l:List cJ) (e:List Int),(l.foldl stepT e).length=e.length
 | [],_=>rfl
 | t::r,e=>by rw[List.foldl_cons,mj r,zd]
def ju(l:List Int):List V:=l.map V.int
theorem mq{l:List Int}{i:Nat}(h:i<l.length):(ju l)[i]?=some (.int (l.getD i 0)):=by
 unfold ju;rw[List.getElem?_map,List.getD_eq_getElem?_getD];simp[h]
theorem oR(l:List Int)(i:Nat):(ju l).set i (.int (l.getD i 0+1))=ju (bump l (i:Int)):=by
 unfold ju bump;rw[Int.toNat_natCast,List.map_set]
theorem A8(p:Nat):(List.replicate p [V.int 0]).flatten=ju (List.replicate p 0):=by
 induction p with
 | zero=>rfl
 | succ p ih=>rw[List.replicate_succ,List.flatten_cons,ih,List.replicate_succ];rfl
theorem nX{n j:Nat}(h:j<n):CQ n (j:Int)=some j:=by
 unfold CQ;rw[if_pos (by lia),if_pos (by lia),Int.toNat_natCast]
def sA(k:Nat):PyData:=.int (k:Int)
theorem uC{K:bw}{H:Hp}:∀ l:List Nat,DatVs K H (aJ l) (l.map sA)
 | []=>.nil
 | _::r=>.cons (.int _) (uC r)
theorem uD:∀ l:List Nat,PyData.canLayAll0 (l.map sA)=true
 | []=>rfl
 | _::r=>by
   have ih:=uD r;simp only[List.map_cons,PyData.canLayAll0,ih,Bool.and_true];rfl
theorem rm:∀ l:List Nat,PyData.depthAll (l.map sA)=0
 | []=>rfl
 | _::r=>by
   have ih:=rm r;show max (PyData.depth (PyData.int _)) (PyData.depthAll (r.map _))=0;rw[ih];rfl
theorem uE(l:List Nat):SeqAt.shaped (.list (l.map sA))=true:=by
 unfold SeqAt.shaped;have e:(PyData.list (l.map sA)).canLay0=PyData.canLayAll0 (l.map sA):=by simp[PyData.canLay0]
 rw[e,uD,Bool.true_and];refine cN ?_;have e2:PyData.depth (PyData.list (l.map sA))=PyData.depthAll (l.map sA)+1:=by simp[PyData.depth]
 rw[e2,rm]
 decide
theorem Dl(l:List Nat):PyData.eqv (.list (l.map sA)) (.list [])=decide (l=[]):=by
 cases l with
 | nil=>rfl
 | cons a r=>rfl
theorem FJ(S:Int)(k:Nat):decide (V.int (Builtin.bitAnd (S/2^k) 1)=V.int 1)=bit S k:=by
 unfold bit;rw[PyProof.Rows.bitAnd_m1];rw[Bool.eq_iff_iff];simp
theorem wk(S:Int)(k:Nat):decide (V.int (S/2^k%2)=V.int 1)=bit S k:=by
 unfold bit;rw[Bool.eq_iff_iff];simp
theorem Dm(x:Int):decide (V.int x=V.int 1)=decide (x=1):=by
 rw[Bool.eq_iff_iff];simp
structure jY(p:Int)(t:cJ):Prop where
 a0:0<=t.1
 a1:t.1<p
 b0:0<=t.2.1
 b1:t.2.1<p
 ne:t.1≠t.2.1
 l0:1<=t.2.2
 l1:t.2.2<=1000000000000000000000000000000
structure aB(p:Nat)(ts:List cJ):Prop where
 p1:1<=p
 p2:p<=10
 len:ts.length<=24
 ze:∀ t∈ts,jY (p:Int) t
theorem aB.GJ{p:Nat}{ts:List cJ}(g:aB p ts):Em p ts:=⟨⟨fun t ht=>let z:=g.ze t ht;⟨z.a0,z.a1,z.b0,z.b1⟩⟩,g.len,g.p2⟩
def nu(p:Int)(H:Hp)(D:Addr)(n:Nat)(H2:Hp):Prop:=aq H H2/\∃ acc ts,H2 D=some (.lst acc)/\Paired (TupAt H2) acc ts/\acc.length=n/\∀ t∈ts,jY p t
section
variable {p:Int}{H H2 H3:Hp}{D b:Addr}{n:Nat}{t:cJ}
theorem nu.start(hD:H D=none):nu p H D 0 (upd H D (.lst [])):=⟨aq.new hD,[],[],af,.nil,rfl,fun t ht=>nomatch ht⟩
theorem nu.push(h:nu p H D n H2)(hD:H D=none)(s:aq H2 H3)(g:jY p t)(hb:H3 b=some (.tup (Dj t))):
 ∃ acc,H3 D=some (.lst acc)/\acc.length=n/\nu p H D (n+1) (upd H3 D (.lst (acc++[.ref b]))):=by
 obtain⟨s2,acc,ts,hd,pr,hn,gt⟩:=h;have Ig:H3 D=some (.lst acc):=s _ _ hd;refine⟨acc,Ig,hn,(s2.trans s).put hD,acc++[.ref b],ts++[t],af,?_,by rw[List.length_append,List.length_singleton,hn],fun u hu=>?_⟩
 ·exact Paired.snoc (Paired.imp' (fun _ _ z=>z.tups (s.tups.trans (jt.put Ig))) pr) ⟨b,rfl,jt.put Ig _ _ hb⟩
 ·rcases List.mem_append.mp hu with hu|hu
  ·exact gt u hu
  ·cases List.mem_singleton.mp hu;exact g
theorem nu.fin{q:Nat}(h:nu (q:Int) H D n H2):∃ acc ts,H2 D=some (.lst acc)/\ts.length=n/\(∀ t∈ts,jY (q:Int) t)/\∀ l,H2 l=none->∀ w,upd H2 l (.tup acc) w=none->
 aq H (upd (upd H2 l (.tup acc)) w (.tup [.int (q:Int),.ref l]))/\bg (upd (upd H2 l (.tup acc)) w (.tup [.int (q:Int),.ref l])) w q ts:=by
 obtain⟨s2,acc,ts,hd,pr,hn,gt⟩:=h;refine⟨acc,ts,hd,by rw[<-pr.length,hn],gt,fun l hl w hw=>?_⟩
 have n1:aq H2 (upd H2 l (.tup acc)):=aq.new hl;have n2:=n1.trans (aq.new (o:=.tup [.int (q:Int),.ref l]) hw);refine⟨s2.trans n2,l,acc,af,?_,Paired.imp' (fun _ _ z=>z.tups n2.tups) pr⟩
 rw[ao (aU af hw),af]
end
theorem A9{p o r:Int}(h:0<=o)(h1:o<p)(r0:0<=r)(r1:r<p-1):0<=(o+1+r)%p/\(o+1+r)%p<p/\o≠(o+1+r)%p:=by
 have hp:0<p:=by lia
 refine⟨Int.emod_nonneg _ (by lia),Int.emod_lt_of_pos _ hp,?_⟩
 by_cases hlt:o+1+r<p
 ·rw[Int.emod_eq_of_lt (by lia) hlt]
  lia
 ·have e:(o+1+r)%p=o+1+r-p:=by
   rw[<-Int.sub_emod_right,Int.emod_eq_of_lt (by lia) (by lia)]
  rw[e]
  lia
theorem eB{n:Nat}(h:n<=24):n<=sizeLine:=Nat.le_of_lt (jX (by lia))
theorem e7{n:Nat}(h:n<=900):n<sizeLine:=jX (by lia)
theorem Dp{ns:List Int}{k:Nat}(h:k<ns.length):(ns.map V.int)[k]?=some (.int (ns.getD k 0)):=by
 rw[List.getElem?_map,List.getD_eq_getElem?_getD];simp[h]
theorem kC(x m:Int)(h:0<m):0<=x%m/\x%m<m:=⟨Int.emod_nonneg _ (by lia),Int.emod_lt_of_pos _ h⟩
end Ring
namespace RM
def bV(f:Nat->Bool):Nat->Bool
 | 0=>false
 | n+1=>bV f n^^f n
theorem cO{f g:Nat->Bool}:∀{n:Nat},(∀ k,k<n->f k=g k)->bV f n=bV g n
 | 0,_=>rfl
 | n+1,h=>by
   unfold bV;rw[cO fun k hk=>h k (by lia),h n (by lia)]
theorem jv(f g:Nat->Bool):∀ n,bV (fun k=>f k^^g k) n=(bV f n^^bV g n)
 | 0=>rfl
 | n+1=>by
   unfold bV;rw[jv f g n];cases bV f n<;>cases bV g n<;>cases f n<;>cases g n<;>rfl
theorem kN:∀ n,bV (fun _=>false) n=false
 | 0=>rfl
 | n+1=>by unfold bV;rw[kN n];rfl
theorem lG(c:Bool)(f:Nat->Bool):∀ n,bV (fun k=>c&&f k) n=(c&&bV f n)
 | 0=>by cases c<;>rfl
 | n+1=>by
   unfold bV;rw[lG c f n];cases c<;>simp
theorem rq(f:Nat->Nat->Bool)(n:Nat):∀ m,bV (fun x=>bV (fun k=>f x k) n) m=bV (fun k=>bV (fun x=>f x k) m) n
 | 0=>by
   show false=_;rw[<-kN n];rfl
 | m+1=>by
   show(bV (fun x=>bV (fun k=>f x k) n) m^^bV (fun k=>f m k) n)=_
   rw[rq f n m,<-jv];rfl
theorem mw{f:Nat->Bool}{n:Nat}(h:∀ k,k<n->f k=false):bV f n=false:=by
 rw[cO (g:=fun _=>false) h,kN]
theorem oS{f:Nat->Bool}{a:Nat}:∀{n:Nat},a<n->(∀ k,k<n->k≠a->f k=false)->bV f n=f a
 | 0,h,_=>absurd h (Nat.not_lt_zero _)
 | n+1,h,z=>by
   unfold bV
   by_cases e:a=n
   ·subst e;rw[mw fun k hk=>z k (by lia) (by lia)]
    simp
   ·rw[oS (a:=a) (by lia) fun k hk hn=>z k (by lia) hn,z n (by lia) (fun q=>e q.symm)]
    simp
theorem iF(C:Nat->Bool){a m:Nat}(h:a<m):bV (fun x=>C x&&decide (a=x)) m=C a:=by
 rw[oS h fun k _ hk=>by simp[Ne.symm hk]]
 simp
structure Net where
 p:Nat
 n:Nat
 a:Nat->Nat
 b:Nat->Nat
 al:∀ k,k<n->a k<p
 bl:∀ k,k<n->b k<p
 ne:∀ k,k<n->a k≠b k
variable (N:Net)
def Net.inc(k x:Nat):Bool:=decide (N.a k=x)^^decide (N.b k=x)
def Net.bd(m x:Nat):Bool:=bV (fun k=>m.testBit k&&N.inc k x) N.n
def Net.cP(m:Nat):Prop:=∀ x,x<N.p->N.bd m x=false
variable {N}
theorem e8(m q x:Nat):N.bd (m^^^q) x=(N.bd m x^^N.bd q x):=by
 unfold Net.bd;rw[<-jv];refine cO fun k _=>?_
 rw[Nat.testBit_xor];cases m.testBit k<;>cases q.testBit k<;>cases N.inc k x<;>rfl
theorem sC(x:Nat):N.bd 0 x=false:=by
 unfold Net.bd;exact mw fun k _=>by simp
theorem fE{k:Nat}(h:k<N.n)(x:Nat):N.bd (2^k) x=N.inc k x:=by
 unfold Net.bd;rw[oS h fun j _ hj=>by simp[Nat.testBit_two_pow,Ne.symm hj]]
 simp[Nat.testBit_two_pow]
theorem cP.xor{m q:Nat}(h:N.cP m)(h' : N.cP q):N.cP (m^^^q):=fun x hx=>by rw[e8,h x hx,h' x hx];rfl
theorem cP.zero:N.cP 0:=fun x _=>sC x
theorem Ba{m:Nat}(C:Nat->Bool)(h:∀ k,k<N.n->m.testBit k=true->C (N.a k)=C (N.b k)):bV (fun x=>C x&&N.bd m x) N.p=false:=by
 have e:bV (fun x=>C x&&N.bd m x) N.p=bV (fun x=>bV (fun k=>C x&&(m.testBit k&&N.inc k x)) N.n) N.p :=
  cO fun x _=>(lG (C x) _ N.n).symm
 rw[e,rq];refine mw fun k hk=>?_
 have e2:bV (fun x=>C x&&(m.testBit k&&N.inc k x)) N.p=(m.testBit k&&(C (N.a k)^^C (N.b k))):=by
  rw[<-iF C (N.al k hk),<-iF C (N.bl k hk),<-jv,<-lG];refine cO fun x _=>?_
  unfold Net.inc;cases C x<;>cases m.testBit k<;>cases decide (N.a k=x)<;>cases decide (N.b k=x)<;>rfl
 rw[e2];cases hb:m.testBit k with
 | false=>rfl
 | true=>rw[h k hk hb];simp
def join(L:Nat->Nat)(u v:Nat):Nat->Nat:=fun x=>if L x=max (L u) (L v) then min (L u) (L v) else L x
theorem join_eq{L:Nat->Nat}{u v x y:Nat}(h:L x=L y):join L u v x=join L u v y:=by unfold join;rw[h]
theorem rz(L:Nat->Nat)(u v:Nat):join L u v u=join L u v v:=by
 unfold join
 split<;>split<;>lia
theorem rA{L:Nat->Nat}{u v:Nat}(h:L u=L v):join L u v=L:=by
 funext x
 unfold join;rw[h]
 split<;>lia
theorem oU{L:Nat->Nat}{u v x y:Nat}(h:join L u v x=join L u v y):L x=L y\/(L x=L u/\L y=L v)\/(L x=L v/\L y=L u):=by
 unfold join at h;have mm:(max (L u) (L v)=L u/\min (L u) (L v)=L v)\/(max (L u) (L v)=L v/\min (L u) (L v)=L u):=by
  rcases Nat.le_total (L u) (L v) with q|q
  ·exact .inr ⟨Nat.max_eq_right q,Nat.min_eq_left q⟩
  ·exact .inl ⟨Nat.max_eq_left q,Nat.min_eq_right q⟩
 rcases mm with⟨e1,e2⟩|⟨e1,e2⟩
 ·rw[e1,e2]at h
  split at h
  ·rename_i hx
   split at h
   ·rename_i hy
    exact .inl (hx.trans hy.symm)
   ·exact .inr (.inl ⟨hx,h.symm⟩)
  ·split at h
   ·rename_i hy
    exact .inr (.inr ⟨h,hy⟩)
   ·exact .inl h
 ·rw[e1,e2]at h
  split at h
  ·rename_i hx
   split at h
   ·rename_i hy
    exact .inl (hx.trans hy.symm)
   ·exact .inr (.inr ⟨hx,h.symm⟩)
  ·split at h
   ·rename_i hy
    exact .inr (.inl ⟨h,hy⟩)
   ·exact .inl h
theorem join_le{L:Nat->Nat}{u v x:Nat}(h:L x<=x):join L u v x<=x:=by
 unfold join
 split<;>lia
theorem zf{L:Nat->Nat}{u v:Nat}(h:∀ x,L (L x)=L x)(x:Nat):join L u v (join L u v x)=join L u v x:=by
 have hu:=h u;have hv:=h v;have hx:=h x;have hlo:L (min (L u) (L v))=min (L u) (L v):=by
  rcases Nat.le_total (L u) (L v) with q|q
  ·rw[Nat.min_eq_left q];exact hu
  ·rw[Nat.min_eq_right q];exact hv
 unfold join
 split
 ·rw[hlo]
  split<;>lia
 ·rw[hx]
  split<;>lia
def Net.aC(N:Net)(S:Nat->Bool):Nat->Nat->Nat
 | 0=>fun x=>x
 | k+1=>if S k=true then join (Net.aC N S k) (N.a k) (N.b k) else Net.aC N S k
variable {S:Nat->Bool}
theorem jZ:∀(k x:Nat),N.aC S k x<=x
 | 0,_=>Nat.le_refl _
 | k+1,x=>by
   unfold Net.aC
   split
   ·exact join_le (jZ k x)
   ·exact jZ k x
theorem bx:∀(k x:Nat),N.aC S k (N.aC S k x)=N.aC S k x
 | 0,_=>rfl
 | k+1,x=>by
   by_cases hs:S k=true
   ·have e:N.aC S (k+1)=join (N.aC S k) (N.a k) (N.b k):=by
     conv=>lhs;unfold Net.aC
     rw[if_pos hs]
    rw[e];exact zf (bx k) x
   ·have e:N.aC S (k+1)=N.aC S k:=by
     conv=>lhs;unfold Net.aC
     rw[if_neg hs]
    rw[e];exact bx k x
theorem rB{x y k:Nat}(h:N.aC S k x=N.aC S k y):∀ d,N.aC S (k+d) x=N.aC S (k+d) y
 | 0=>h
 | d+1=>by
   have ih:=rB h d;show N.aC S (k+d+1) x=N.aC S (k+d+1) y;unfold Net.aC
   split
   ·exact join_eq ih
   ·exact ih
theorem fC{j k:Nat}(h:j<k)(hs:S j=true):N.aC S k (N.a j)=N.aC S k (N.b j):=by
 obtain⟨d,rfl⟩:=Nat.exists_eq_add_of_le (Nat.succ_le_of_lt h);refine rB ?_ d;show N.aC S (j+1) (N.a j)=N.aC S (j+1) (N.b j);unfold Net.aC;rw[if_pos hs];exact rz _ _ _
inductive Net.ji(N:Net)(S:Nat->Bool)(k u:Nat):Nat->Prop
 | refl:Net.ji N S k u u
 | fwd {j:Nat} (h:Net.ji N S k u (N.a j)) (hj:j<k) (hs:S j=true):Net.ji N S k u (N.b j)
 | bwd {j:Nat} (h:Net.ji N S k u (N.b j)) (hj:j<k) (hs:S j=true):Net.ji N S k u (N.a j)
theorem Net.ji.trans{k u v w:Nat}(h:N.ji S k u v)(h' : N.ji S k v w):N.ji S k u w:=by
 induction h' with
 | refl=>exact h
 | fwd _ hj hs ih=>exact .fwd ih hj hs
 | bwd _ hj hs ih=>exact .bwd ih hj hs
theorem Net.ji.mono{k l u v:Nat}(h:N.ji S k u v)(kM:k<=l):N.ji S l u v:=by
 induction h with
 | refl=>exact .refl
 | fwd _ hj hs ih=>exact .fwd ih (by lia) hs
 | bwd _ hj hs ih=>exact .bwd ih (by lia) hs
theorem aX:∀(k u v:Nat),N.aC S k u=N.aC S k v->N.ji S k u v
 | 0,u,v,h=>by
   have e:u=v:=h;subst e;exact .refl
 | k+1,u,v,h=>by
   unfold Net.aC at h
   split at h
   ·rename_i hs
    rcases oU h with q|⟨q1,q2⟩|⟨q1,q2⟩
    ·exact(aX k u v q).mono (by lia)
    ·have c1:=(aX k u _ q1).mono (Nat.le_succ k);have c2:=(aX k _ v q2.symm).mono (Nat.le_succ k);exact Net.ji.trans (.fwd c1 (by lia) hs) c2
    ·have c1:=(aX k u _ q1).mono (Nat.le_succ k);have c2:=(aX k _ v q2.symm).mono (Nat.le_succ k);exact Net.ji.trans (.bwd c1 (by lia) hs) c2
   ·exact(aX k u v h).mono (by lia)
def Net.cM(N:Net)(k:Nat):Nat->Nat:=N.aC (fun _=>true) k
def Net.jj(N:Net)(k:Nat):Bool:=!decide (N.cM k (N.a k)=N.cM k (N.b k))
theorem uF(k:Nat):N.cM (k+1)=if N.jj k=true then join (N.cM k) (N.a k) (N.b k) else N.cM k:=by
 show N.aC (fun _=>true) (k+1)=_
 unfold Net.aC;rw[if_pos rfl];unfold Net.jj
 by_cases h:N.cM k (N.a k)=N.cM k (N.b k)
 ·rw[if_neg (by simp[h])]
  exact rA h
 ·rw[if_pos (by simp[h])]
  rfl
theorem iG{m:Nat}(hf:∀ k,m.testBit k=true->k<N.n/\N.jj k=true)(he:N.cP m):m=0:=by
 by_cases h0:m=0
 ·exact h0
 exfalso
 have hK:m.testBit m.log2=true:=Nat.testBit_log2 h0;obtain⟨JF,JG⟩:=hf _ hK;generalize OG:m.log2=K at hK JF JG;have hlt:m<2^(K+1):=by rw[<-OG];exact Nat.lt_log2_self
 have hcl:=Ba (N:=N) (m:=m^^^2^K) (fun x=>decide (N.cM K x=N.cM K (N.a K))) fun k hk hb=>by
  have OH:k<K:=by
   rw[Nat.testBit_xor,Nat.testBit_two_pow]at hb
   by_cases e:K=k
   ·subst e;simp[hK]at hb
   ·have hb' : m.testBit k=true:=by simpa[e]using hb
    have:k<K+1:=by
     by_cases q:k<K+1
     ·exact q
     ·have z:=Nat.testBit_lt_two_pow (Nat.lt_of_lt_of_le hlt (Nat.pow_le_pow_right (by decide) (show K+1<=k by lia)))
      rw[hb']at z;cases z
    lia
  have e:N.cM K (N.a k)=N.cM K (N.b k):=fC (S:=fun _=>true) OH rfl
  show decide (N.cM K (N.a k)=_)=decide (N.cM K (N.b k)=_);rw[e]
 have e:bV (fun x=>decide (N.cM K x=N.cM K (N.a K))&&N.bd (m^^^2^K) x) N.p=bV (fun x=>decide (N.cM K x=N.cM K (N.a K))&&N.inc K x) N.p :=
  cO fun x hx=>by rw[e8,he x hx,fE JF];simp
 rw[e]at hcl;have e2:bV (fun x=>decide (N.cM K x=N.cM K (N.a K))&&N.inc K x) N.p=(decide (N.cM K (N.a K)=N.cM K (N.a K))^^decide (N.cM K (N.b K)=N.cM K (N.a K))):=by
  rw[<-iF (fun x=>decide (N.cM K x=N.cM K (N.a K))) (N.al K JF),<-iF (fun x=>decide (N.cM K x=N.cM K (N.a K))) (N.bl K JF),<-jv]
  refine cO fun x _=>?_
  unfold Net.inc;cases decide (N.cM K x=N.cM K (N.a K))<;>cases decide (N.a K=x)<;>cases decide (N.b K=x)<;>rfl
 rw[e2]at hcl;unfold Net.jj at JG;have hne : ¬ N.cM K (N.b K)=N.cM K (N.a K):=fun q=>by rw[q]at JG;simp at JG
 simp[hne]at hcl
def Net.trail(N:Net):Nat->Nat->Nat
 | 0=>fun _=>0
 | k+1=>if N.jj k=true then fun v=>if N.cM k v=max (N.cM k (N.a k)) (N.cM k (N.b k)) then Net.trail N k v^^^(Net.trail N k (N.a k)^^^Net.trail N k (N.b k)^^^2^k) else Net.trail N k v
   else Net.trail N k
theorem cD:∀(k v j:Nat),(N.trail k v).testBit j=true->j<k/\N.jj j=true
 | 0,v,j,h=>by simp[Net.trail]at h
 | k+1,v,j,h=>by
   have ih:=cD k;unfold Net.trail at h
   split at h
   ·rename_i hf
    dsimp only at h
    split at h
    ·rw[Nat.testBit_xor,Nat.testBit_xor,Nat.testBit_xor,Nat.testBit_two_pow]at h
     by_cases e:k=j
     ·subst e;exact⟨by lia,hf⟩
     ·have z : ¬((N.trail k v).testBit j=false/\(N.trail k (N.a k)).testBit j=false/\(N.trail k (N.b k)).testBit j=false):=by
       rintro⟨z1,z2,z3⟩;simp[z1,z2,z3,e]at h
      cases h1:(N.trail k v).testBit j with
      | true=>obtain⟨q,r⟩:=ih v j h1;exact⟨by lia,r⟩
      | false=>cases h2:(N.trail k (N.a k)).testBit j with
        | true=>obtain⟨q,r⟩:=ih _ j h2;exact⟨by lia,r⟩
        | false=>cases h3:(N.trail k (N.b k)).testBit j with
          | true=>obtain⟨q,r⟩:=ih _ j h3;exact⟨by lia,r⟩
          | false=>exact absurd ⟨h1,h2,h3⟩ z
    ·obtain⟨q,r⟩:=ih v j h;exact⟨by lia,r⟩
   ·obtain⟨q,r⟩:=ih v j h;exact⟨by lia,r⟩
theorem Bb(a b c d e f g h:Bool)(OI:(d^^f)=(g^^h)):((a^^g)^^(((c^^d)^^(e^^f))^^(c^^e)))=(a^^h):=by
 have e1:(((c^^d)^^(e^^f))^^(c^^e))=(d^^f):=by cases c<;>cases d<;>cases e<;>cases f<;>rfl
 rw[e1,OI];cases a<;>cases g<;>cases h<;>rfl
theorem jw:∀(k:Nat),k<=N.n->∀ v x,N.bd (N.trail k v) x=(decide (v=x)^^decide (N.cM k v=x))
 | 0,_,v,x=>by
   show N.bd 0 x=(decide (v=x)^^decide (v=x));rw[sC];simp
 | k+1,hk,v,x=>by
   have ih:=jw k (by lia)
   rw[uF];unfold Net.trail
   by_cases hf:N.jj k=true
   ·rw[if_pos hf,if_pos hf]
    by_cases hm:N.cM k v=max (N.cM k (N.a k)) (N.cM k (N.b k))
    ·have e:join (N.cM k) (N.a k) (N.b k) v=min (N.cM k (N.a k)) (N.cM k (N.b k)):=by unfold join;rw[if_pos hm]
     show N.bd (if N.cM k v=_ then _ else _) x=_
     rw[if_pos hm,e,e8,e8,e8,fE (by lia),ih,ih,ih]
     unfold Net.inc;refine Bb _ false _ _ _ _ _ _ ?_;rw[hm];rcases Nat.le_total (N.cM k (N.a k)) (N.cM k (N.b k)) with q|q
     ·rw[Nat.max_eq_right q,Nat.min_eq_left q,Bool.xor_comm]
     ·rw[Nat.max_eq_left q,Nat.min_eq_right q]
    ·have e:join (N.cM k) (N.a k) (N.b k) v=N.cM k v:=by unfold join;rw[if_neg hm]
     show N.bd (if N.cM k v=_ then _ else _) x=_
     rw[if_neg hm,e,ih]
   ·rw[if_neg hf,if_neg hf];exact ih v x
def Net.ring(N:Net)(c:Nat):Nat:=N.trail N.n (N.a c)^^^N.trail N.n (N.b c)^^^2^c
theorem Bc{c:Nat}(h:c<N.n):N.cM N.n (N.a c)=N.cM N.n (N.b c):=fC (S:=fun _=>true) h rfl
theorem ic{c:Nat}(h:c<N.n):N.cP (N.ring c):=fun x _=>by
 unfold Net.ring;rw[e8,e8,fE h,jw _ (Nat.le_refl _),jw _ (Nat.le_refl _),Bc h];unfold Net.inc;cases decide (N.a c=x)<;>cases decide (N.b c=x)<;>cases decide (N.cM N.n (N.b c)=x)<;>rfl
theorem jx{c j:Nat}(h:(N.ring c).testBit j=true):j=c\/(j<N.n/\N.jj j=true):=by
 unfold Net.ring at h;rw[Nat.testBit_xor,Nat.testBit_xor,Nat.testBit_two_pow]at h
 by_cases e:c=j
 ·exact .inl e.symm
 ·right
  cases h1:(N.trail N.n (N.a c)).testBit j with
  | true=>exact cD _ _ _ h1
  | false=>cases h2:(N.trail N.n (N.b c)).testBit j with
    | true=>exact cD _ _ _ h2
    | false=>simp[h1,h2,e]at h
theorem oV{c:Nat}(hf:N.jj c=false):(N.ring c).testBit c=true:=by
 unfold Net.ring;rw[Nat.testBit_xor,Nat.testBit_xor,Nat.testBit_two_pow];cases h1:(N.trail N.n (N.a c)).testBit c with
 | true=>obtain⟨_,q⟩:=cD _ _ _ h1;rw[hf]at q;cases q
 | false=>cases h2:(N.trail N.n (N.b c)).testBit c with
   | true=>obtain⟨_,q⟩:=cD _ _ _ h2;rw[hf]at q;cases q
   | false=>simp
theorem zg{j:Nat}(h:j<N.n)(hf:N.jj j=true):(N.trail N.n (N.a j)).testBit j=true\/(N.trail N.n (N.b j)).testBit j=true:=by
 have z:N.ring j=0:=iG (fun k hk=>by
  rcases jx hk with rfl|q
  ·exact⟨h,hf⟩
  ·exact q) (ic h)
 have b:(N.ring j).testBit j=false:=by rw[z];simp
 unfold Net.ring at b;rw[Nat.testBit_xor,Nat.testBit_xor,Nat.testBit_two_pow]at b;cases h1:(N.trail N.n (N.a j)).testBit j with
 | true=>exact .inl rfl
 | false=>cases h2:(N.trail N.n (N.b j)).testBit j with
   | true=>exact .inr rfl
   | false=>simp[h1,h2]at b
def cnt(f:Nat->Bool):Nat->Nat
 | 0=>0
 | n+1=>cnt f n+(if f n=true then 1 else 0)
theorem dU{f g:Nat->Bool}:∀{n:Nat},(∀ k,k<n->f k=g k)->cnt f n=cnt g n
 | 0,_=>rfl
 | n+1,h=>by
   unfold cnt;rw[dU fun k hk=>h k (by lia),h n (by lia)]
theorem oW{f g:Nat->Bool}{h:Nat}(hg:g h=true):∀{p:Nat},h<p->(∀ x,x<p->f x=(g x && !decide (x=h)))->cnt g p=cnt f p+1
 | 0,hh,_=>absurd hh (Nat.not_lt_zero _)
 | p+1,hh,e=>by
   unfold cnt
   by_cases q:h=p
   ·subst q;have z:cnt g h=cnt f h:=dU fun k hk=>by rw[e k (by lia)];simp[show k≠h by lia]
    rw[z,if_pos hg,e h (by lia)]
    simp
   ·rw[oW hg (by lia) fun x hx=>e x (by lia),e p (by lia)]
    simp[Ne.symm q]
    lia
theorem fb(f:Nat->Bool):∀ n,((List.range n).filter f).length=cnt f n
 | 0=>rfl
 | n+1=>by
   rw[List.range_succ,List.filter_append,List.length_append,fb f n];show _=cnt f n+(if f n=true then 1 else 0)
   cases h:f n with
   | true=>rw[List.filter_cons,if_pos h];rfl
   | false=>rw[List.filter_cons,if_neg (by rw[h];simp)];rfl
theorem gx(f:Nat->Bool):∀ n,cnt f n+cnt (fun k=>!f k) n=n
 | 0=>rfl
 | n+1=>by
   have ih:=gx f n;unfold cnt;cases h:f n<;>simp<;>lia
theorem sD{f:Nat->Bool}:∀{n:Nat},(∀ k,k<n->f k=true)->cnt f n=n
 | 0,_=>rfl
 | n+1,h=>by
   unfold cnt;rw[sD fun k hk=>h k (by lia),if_pos (h n (by lia))]
variable {N:Net}{S:Nat->Bool}
def Net.root(N:Net)(S:Nat->Bool)(k x:Nat):Bool:=decide (N.aC S k x=x)
theorem dW(k:Nat):N.aC S (k+1)=if S k=true then join (N.aC S k) (N.a k) (N.b k) else N.aC S k:=by
 conv=>lhs;unfold Net.aC
theorem gy{k x:Nat}(h:x<N.p):N.aC S k x<N.p:=Nat.lt_of_le_of_lt (jZ k x) h
theorem zh{L:Nat->Nat}{u v:Nat}(hr:∀ x,L (L x)=L x)(hne:L u≠L v)(x:Nat):decide (join L u v x=x)=(decide (L x=x) && !decide (x=max (L u) (L v))):=by
 have hhi:L (max (L u) (L v))=max (L u) (L v):=by
  rcases Nat.le_total (L u) (L v) with q|q
  ·rw[Nat.max_eq_right q];exact hr v
  ·rw[Nat.max_eq_left q];exact hr u
 have hlo:L (min (L u) (L v))=min (L u) (L v):=by
  rcases Nat.le_total (L u) (L v) with q|q
  ·rw[Nat.min_eq_left q];exact hr u
  ·rw[Nat.min_eq_right q];exact hr v
 unfold join
 by_cases h:L x=max (L u) (L v)
 ·rw[if_pos h];have h1 : ¬ min (L u) (L v)=x:=fun z=>by
   rw[<-z,hlo]at h
   lia
  by_cases h2:x=max (L u) (L v)
  ·simp[h1,h2]
   lia
  ·have h3 : ¬ L x=x:=fun z=>h2 (z.symm.trans h)
   simp[h1,h3]
 ·rw[if_neg h];have h2 : ¬ x=max (L u) (L v):=fun z=>h (by rw[z];exact hhi)
  simp[h2]
theorem oX{k:Nat}(hk:k<N.n):cnt (N.root S k) N.p=cnt (N.root S (k+1)) N.p+(if(S k && !decide (N.aC S k (N.a k)=N.aC S k (N.b k)))=true then 1 else 0):=by
 cases hs:S k with
 | false =>
   have e:N.root S (k+1)=N.root S k:=by unfold Net.root;rw[dW,if_neg (by rw[hs];simp)]
   rw[e];simp
 | true =>
   by_cases h:N.aC S k (N.a k)=N.aC S k (N.b k)
   ·have e:N.root S (k+1)=N.root S k:=by unfold Net.root;rw[dW,if_pos hs,rA h]
    rw[e];simp[h]
   ·have hhi:N.aC S k (max (N.aC S k (N.a k)) (N.aC S k (N.b k)))=max (N.aC S k (N.a k)) (N.aC S k (N.b k)):=by
     rcases Nat.le_total (N.aC S k (N.a k)) (N.aC S k (N.b k)) with q|q
     ·rw[Nat.max_eq_right q];exact bx _ _
     ·rw[Nat.max_eq_left q];exact bx _ _
    have h1:=gy (S:=S) (k:=k) (N.al k hk);have h2:=gy (S:=S) (k:=k) (N.bl k hk);rw[oW (f:=N.root S (k+1)) (g:=N.root S k) (h:=max (N.aC S k (N.a k)) (N.aC S k (N.b k))) (cN hhi) (by lia) fun x _=>by
     unfold Net.root;rw[dW,if_pos hs];exact zh (bx k) h x]
    simp[h]
theorem lH:∀ k,k<=N.n->cnt (N.root (fun _=>true) k) N.p+cnt N.jj k=N.p
 | 0,_=>by
   show cnt (N.root (fun _=>true) 0) N.p+0=N.p
   rw[sD (f:=N.root (fun _=>true) 0) fun x _=>cN rfl]
   rfl
 | k+1,hk=>by
   have ih:=lH k (by lia)
   have st:=oX (N:=N) (S:=fun _=>true) (k:=k) (by lia)
   have e:((fun _=>true:Nat->Bool) k && !decide (N.aC (fun _=>true) k (N.a k)=N.aC (fun _=>true) k (N.b k)))=N.jj k:=by rw[Bool.true_and];rfl
   rw[e]at st;show cnt (N.root (fun _=>true) (k+1)) N.p+(cnt N.jj k+if N.jj k=true then 1 else 0)=N.p
   lia
theorem nc:(N.n:Int)-N.p+cnt (N.root (fun _=>true) N.n) N.p=(cnt (fun k=>!N.jj k) N.n:Nat):=by
 have h:=lH (N:=N) N.n (Nat.le_refl _);have h2:=gx N.jj N.n
 lia
def Net.ay(N:Net):List Nat:=(List.range N.n).filter fun k=>!N.jj k
theorem bS{c:Nat}:c∈N.ay↔c<N.n/\N.jj c=false:=by
 unfold Net.ay;rw[List.mem_filter,List.mem_range];simp
theorem oY:N.ay.length=cnt (fun k=>!N.jj k) N.n:=fb _ _
theorem iH{m n:Nat}(h:∀ k,m.testBit k=true->k<n):m<2^n:=Nat.lt_pow_two_of_testBit m fun k hk=>by
 cases q:m.testBit k with
 | false=>rfl
 | true=>exact absurd (h k q) (by lia)
theorem eE{m n k:Nat}(h:m<2^n)(hb:m.testBit k=true):k<n:=by
 by_cases q:k<n
 ·exact q
 ·have z:=Nat.testBit_lt_two_pow (Nat.lt_of_lt_of_le h (Nat.pow_le_pow_right (by decide) (show n<=k by lia)))
  rw[hb]at z;cases z
theorem gj{m q:Nat}(hm:m<2^N.n)(hq:q<2^N.n)(em:N.cP m)(eq:N.cP q)(h:∀ c,c<N.n->N.jj c=false->m.testBit c=q.testBit c):m=q:=by
 have z:m^^^q=0:=iG (N:=N) (fun k hk=>by
  have hk':=eE (Nat.xor_lt_two_pow hm hq) hk;refine⟨hk',?_⟩;cases hf:N.jj k with
  | true=>rfl
  | false =>
    rw[Nat.testBit_xor,h k hk' hf]at hk;simp at hk) (cP.xor em eq)
 have e:m=m^^^q^^^q:=by rw[Nat.xor_assoc,Nat.xor_self,Nat.xor_zero]
 rw[e,z,Nat.zero_xor]
theorem nY{c:Nat}(h:c<N.n):N.ring c<2^N.n:=iH fun k hk=>by
 rcases jx hk with rfl|⟨q,_⟩
 ·exact h
 ·exact q
theorem fc{c d:Nat}(hc:N.jj c=false)(hd:N.jj d=false):(N.ring c).testBit d=decide (c=d):=by
 by_cases e:c=d
 ·subst e;rw[oV hc];simp
 ·cases q:(N.ring c).testBit d with
  | false=>simp[e]
  | true=>rcases jx q with rfl | ⟨_,r⟩
          ·exact absurd rfl e
          ·rw[hd]at r;cases r
def Net.cK(N:Net)(number:Nat):List Nat->Nat->Nat
 | [],_=>0
 | c::r,i=>(if number.testBit i=true then N.ring c else 0)^^^Net.cK N number r (i+1)
theorem j4{number:Nat}:∀{l:List Nat} {i:Nat},(∀ c∈l,c<N.n)->N.cP (N.cK number l i)/\N.cK number l i<2^N.n
 | [],_,_=>⟨cP.zero,Nat.two_pow_pos _⟩
 | c::r,i,h=>by
   obtain⟨h1,h2⟩:=j4 (number:=number) (l:=r) (i:=i+1) fun d hd=>h d (qi _ hd)
   have hc:=h c List.mem_cons_self;unfold Net.cK
   split
   ·exact⟨cP.xor (ic hc) h1,Nat.xor_lt_two_pow (nY hc) h2⟩
   ·rw[Nat.zero_xor];exact⟨h1,h2⟩
theorem uG{number d:Nat}(hd:N.jj d=false):∀{l:List Nat} {i:Nat},(∀ c∈l,N.jj c=false)->d∉l->(N.cK number l i).testBit d=false
 | [],_,_,_=>by simp[Net.cK]
 | c::r,i,h,hn=>by
   have ih:=uG (number:=number) (d:=d) hd (l:=r) (i:=i+1) (fun e he=>h e (qi _ he)) fun q=>hn (qi _ q)
   unfold Net.cK;rw[Nat.testBit_xor,ih]
   split
   ·rw[fc (h c List.mem_cons_self) hd];have:c≠d:=fun q=>hn (by rw[q];exact List.mem_cons_self)
    simp[this]
   ·simp
theorem uH{number:Nat}:∀{l:List Nat} {i j:Nat} {d:Nat},l.Nodup->(∀ c∈l,N.jj c=false)->l[j]?=some d->(N.cK number l i).testBit d=number.testBit (i+j)
 | [],_,_,_,_,_,h=>by simp at h
 | c::r,i,0,d,hn,hf,h=>by
   have e:c=d:=by simpa using h
   subst e;have hc:=hf c List.mem_cons_self;unfold Net.cK;rw[Nat.testBit_xor,uG hc (fun e he=>hf e (qi _ he)) (List.nodup_cons.mp hn).1]
   cases q:number.testBit (i+0) with
   | true=>rw[if_pos (by simpa using q),oV hc];rfl
   | false=>rw[if_neg (by simpa using q)];simp
 | c::r,i,j+1,d,hn,hf,h=>by
   have h' : r[j]?=some d:=by simpa using h
   have hd:d∈r:=vU h';have ih:=uH (number:=number) (l:=r) (i:=i+1) (j:=j) (d:=d) (List.nodup_cons.mp hn).2 (fun e he=>hf e (qi _ he)) h'
   unfold Net.cK;rw[Nat.testBit_xor,ih];have hne:c≠d:=fun q=>(List.nodup_cons.mp hn).1 (q▸hd)
   have z:(if number.testBit i=true then N.ring c else 0).testBit d=false:=by
    split
    ·rw[fc (hf c List.mem_cons_self) (hf d (qi _ hd))];simp[hne]
    ·simp
   rw[z,show i+1+j=i+(j+1) by lia]
   simp
end RM
namespace Ring
open PySem L2
def maskOf(f:Nat->Bool):Nat->Nat
 | 0=>0
 | n+1=>(if f n=true then 2^n else 0)+maskOf f n
theorem mask_lt(f:Nat->Bool):∀ n,maskOf f n<2^n
 | 0=>by show 0<1;decide
 | n+1=>by
   have ih:=mask_lt f n;have e:2^(n+1)=2^n+2^n:=by rw[Nat.pow_succ];lia
   unfold maskOf
   split<;>lia
theorem mask_bit(f:Nat->Bool)(j:Nat):∀ n,(maskOf f n).testBit j=(decide (j<n)&&f j)
 | 0=>by simp[maskOf]
 | n+1=>by
   have ih:=mask_bit f j n;have hl:=mask_lt f n;unfold maskOf
   by_cases h:f n=true
   ·rw[if_pos h];rcases Nat.lt_trichotomy j n with q|q|q
    ·rw[Nat.testBit_two_pow_add_gt q,ih];simp[q,show j<n+1 by lia]
    ·subst q;rw[Nat.testBit_two_pow_add_eq,ih];simp[h]
    ·have z:2^n+maskOf f n<2^j:=Nat.lt_of_lt_of_le (show 2^n+maskOf f n<2^(n+1) by rw[Nat.pow_succ];lia) (Nat.pow_le_pow_right (by decide) q)
     rw[Nat.testBit_lt_two_pow z];simp[show ¬ j<n+1 by lia]
   ·rw[if_neg h,Nat.zero_add,ih]
    by_cases q:j=n
    ·subst q;have h' : f j=false:=by simpa using h
     simp[h']
    ·by_cases r:j<n
     ·simp[r,show j<n+1 by lia]
     ·simp[r,show ¬ j<n+1 by lia]
theorem Bd(n:Nat):maskOf (fun _=>true) n=2^n-1:=by
 induction n with
 | zero=>rfl
 | succ n ih =>
   unfold maskOf;rw[ih,if_pos rfl,Nat.pow_succ];have:=Nat.two_pow_pos n
   lia
theorem yd(n j:Nat):(2^n-1).testBit j=decide (j<n):=by
 rw[<-Bd,mask_bit];simp
theorem FL{a b x y:Nat}(q:x/2+y/2=a/2+b/2)(h:x%2+y%2=a%2+b%2):x+y=a+b:=by lia
theorem FN{u v:Nat}(hu:u=0\/u=1)(hv:v=0\/v=1):(u ||| v)+(u&&&v)=u+v:=by
 rcases hu with rfl|rfl<;>rcases hv with rfl|rfl<;>rfl
theorem FO:∀ a b:Nat,(a ||| b)+(a&&&b)=a+b:=by
 intro a
 induction a using Nat.strongRecOn with
 | ind a ih =>
   intro b
   by_cases h:a=0
   ·subst h;simp
   ·have q:=ih (a/2) (by lia) (b/2)
    rw[<-Nat.or_div_two,<-Nat.and_div_two]at q;refine FL q ?_;have e1:(a ||| b)%2=a%2 ||| b%2:=Nat.or_mod_two_pow (n:=1)
    have e2:(a&&&b)%2=a%2&&&b%2:=Nat.and_mod_two_pow (n:=1);rw[e1,e2];exact FN (Nat.mod_two_eq_zero_or_one a) (Nat.mod_two_eq_zero_or_one b)
theorem or_int(a b:Nat):Builtin.bitOr (a:Int) (b:Int)=((a ||| b:Nat):Int):=by
 have q:=FO a b;rw[PyProof.Rows.bitOr_and,PyProof.Rows.bitAnd_pp (by lia) (by lia)]
 have h:(a:Int)+b-((a&&&b:Nat):Int)=((a ||| b:Nat):Int):=by lia
 simpa using h
theorem lI(k:Nat):(1:Int)*2^(k:Int).toNat=((2^k:Nat):Int):=by
 rw[Int.toNat_natCast,Int.one_mul];simp
theorem ie{ts:List cJ}{k:Nat}(h:k<ts.length):bz ts k∈ts:=by
 unfold bz;rw[List.getD_eq_getElem?_getD];simp[h]
theorem my{ts:List cJ}{k:Nat}(h:k<ts.length):ts[k]?=some (bz ts k):=by
 unfold bz;rw[List.getD_eq_getElem?_getD];simp[h]
def aB.N{p:Nat}{ts:List cJ}(g:aB p ts):RM.Net where
 p:=p
 n:=ts.length
 a:=fun k=>(bz ts k).1.toNat
 b:=fun k=>(bz ts k).2.1.toNat
 al:=fun k hk=>by
  have z:=g.ze _ (ie hk);have z0:=z.a0;have z1:=z.a1
  lia
 bl:=fun k hk=>by
  have z:=g.ze _ (ie hk);have z0:=z.b0;have z1:=z.b1
  lia
 ne:=fun k hk e=>by
  have z:=g.ze _ (ie hk);have z0:=z.a0;have z1:=z.b0;exact z.ne (by lia)
theorem ye{p:Nat}{ts:List cJ}{g:aB p ts}{k:Nat}(h:k<ts.length):(bz ts k).1=((g.N.a k:Nat):Int):=by
 have z:=(g.ze _ (ie h)).a0;show _=(((bz ts k).1.toNat:Nat):Int)
 lia
theorem yf{p:Nat}{ts:List cJ}{g:aB p ts}{k:Nat}(h:k<ts.length):(bz ts k).2.1=((g.N.b k:Nat):Int):=by
 have z:=(g.ze _ (ie h)).b0;show _=(((bz ts k).2.1.toNat:Nat):Int)
 lia
theorem Dq{p:Nat}{ts:List cJ}{g:aB p ts}{k:Nat}(h:k<ts.length)(x:Nat):Cs ts k x%2=if g.N.inc k x=true then 1 else 0:=by
 unfold Cs RM.Net.inc;rw[my h];dsimp only;rw[ye (g:=g) h,yf (g:=g) h];generalize g.N.a k=u;generalize g.N.b k=v
 by_cases h1:u=x
 ·by_cases h2:v=x
  ·simp[h1,h2]
  ·have Ic : ¬((v:Int)=(x:Int)):=by lia
   simp[h1,h2,Ic]
 ·have Ek : ¬((u:Int)=(x:Int)):=by lia
  by_cases h2:v=x
  ·simp[h1,h2,Ek]
  ·have Ic : ¬((v:Int)=(x:Int)):=by lia
   simp[h1,h2,Ek,Ic]
theorem Be{p:Nat}{ts:List cJ}{g:aB p ts}(m x:Nat):∀ n,n<=ts.length->((List.range n).map fun k=>if m.testBit k=true then Cs ts k x else 0).sum%2=if RM.bV (fun k=>m.testBit k&&g.N.inc k x) n=true then 1 else 0
 | 0,_=>rfl
 | n+1,h=>by
   have ih:=Be (g:=g) m x n (by lia)
   have hd:=Dq (g:=g) (k:=n) (by lia) x
   rw[List.range_succ,List.map_append,List.sum_append];show(_+((if m.testBit n=true then Cs ts n x else 0)+0))%2=if(RM.bV _ n^^(m.testBit n&&g.N.inc n x))=true then 1 else 0
   generalize ((List.range n).map fun k=>if m.testBit k=true then Cs ts k x else 0).sum=u at ih ⊢
   generalize RM.bV (fun k=>m.testBit k&&g.N.inc k x) n=v at ih ⊢
   generalize g.N.inc n x=i at hd ⊢;generalize Cs ts n x=d at hd ⊢;cases m.testBit n<;>cases v<;>cases i<;>simp at ih hd ⊢ <;> lia
theorem yg{p:Nat}{ts:List cJ}(g:aB p ts){m:Nat}(hm:m<2^ts.length){x:Nat}:decide ((gQ p ts (m:Int)).getD x 0%2=1)=g.N.bd m x:=by
 rw[A5 g.GJ.Mq,gi hm,sum_filter];have h:=Be (g:=g) m x ts.length (Nat.le_refl _);rw[h];show _=RM.bV _ ts.length;generalize RM.bV (fun k=>m.testBit k&&g.N.inc k x) ts.length=v
 cases v<;>simp
theorem uI{p:Nat}{ts:List cJ}(g:aB p ts){m:Nat}(hm:m<2^ts.length):oQ p ts (m:Int)=[]↔g.N.cP m:=by
 unfold oQ;rw[List.filter_eq_nil_iff]
 constructor
 ·intro h x hx;have q:=h x (List.mem_range.mpr hx);rw[yg g hm]at q
  simpa using q
 ·intro h x hx;rw[yg g hm,h x (List.mem_range.mp hx)];simp
def bF(f:Nat->Nat)(n:Nat):List V:=(List.range n).map fun x=>V.int ((f x:Nat):Int)
theorem bh(f:Nat->Nat)(n:Nat):(bF f n).length=n:=by unfold bF;rw[List.length_map,List.length_range]
theorem bj{f:Nat->Nat}{n x:Nat}(h:x<n):(bF f n)[x]?=some (.int ((f x:Nat):Int)):=by
 unfold bF;rw[List.getElem?_map,List.getElem?_range h];rfl
theorem gz{f:Nat->Nat}{n x:Nat}{v:V}(h:(bF f n)[x]?=some v):x<n/\v = .int ((f x:Nat):Int):=by
 have hx:x<n:=by
  have:=(vM.mp h).1
  rwa [bh]at this
 rw[bj hx]at h;exact⟨hx,(Option.some.inj h).symm⟩
theorem rC(f:Nat->Nat)(n:Nat):bF f (n+1)=bF f n++[.int ((f n:Nat):Int)]:=by
 unfold bF;rw[List.range_succ,List.map_append];rfl
theorem oZ{f g:Nat->Nat}{n:Nat}(h:∀ x,x<n->f x=g x):bF f n=bF g n:=by
 unfold bF;refine List.map_congr_left fun x hx=>?_
 rw[h x (List.mem_range.mp hx)]
theorem uJ(p:Nat):(List.replicate p [V.int 0]).flatten=bF (fun _=>0) p:=by
 induction p with
 | zero=>rfl
 | succ p ih =>
   rw[rC,<-ih,List.replicate_succ',List.flatten_append];rfl
def o4(f:Nat->Nat)(H:Hp)(D:Addr)(i:Nat)(acc:List V)(H2:Hp):Prop:=aq H H2/\H2 D=some (.lst acc)/\acc=bF f i
section
variable {f:Nat->Nat}{H H2 H3:Hp}{D:Addr}{i:Nat}{acc:List V}{v:V}
theorem o4.start(hD:H D=none):o4 f H D 0 [] (upd H D (.lst [])):=⟨aq.new hD,af,rfl⟩
theorem o4.len(p:o4 f H D i acc H2):H2 D=some (.lst acc)/\acc.length<=i:=⟨p.2.1,by rw[p.2.2,bh];exact Nat.le_refl _⟩
theorem o4.next(p:o4 f H D i acc H2)(hD:H D=none)(s:aq H2 H3)(hv:v = .int ((f i:Nat):Int)):H3 D=some (.lst acc)/\o4 f H D (i+1) (acc++[v]) (upd H3 D (.lst (acc++[v]))):=by
 refine⟨s _ _ p.2.1,(p.1.trans s).put hD,af,?_⟩;rw[rC,<-p.2.2,hv]
end
theorem rD{N:RM.Net}{m:Nat}:∀ n,((List.range n).filter fun k=>m.testBit k).foldl (fun L k=>RM.join L (N.a k) (N.b k)) (fun x=>x)=N.aC (fun k=>m.testBit k) n
 | 0=>rfl
 | n+1=>by
   rw[aK,List.foldl_append,rD n,RM.dW]
   split<;>rfl
end Ring
namespace RM
theorem o5{N:Net}{S S' : Nat->Bool}:∀{n:Nat},(∀ k,k<n->S k=S' k)->N.aC S n=N.aC S' n
 | 0,_=>rfl
 | n+1,h=>by rw[dW,dW,o5 fun k hk=>h k (by lia),h n (by lia)]
end RM
namespace Ring
open PySem L2
def pieceOf(L:Nat->Nat)(p s:Nat):List Nat:=(List.range p).filter fun x=>decide (L x=s)
def cS(L:Nat->Nat)(p:Nat):List Nat:=(List.range p).filter fun x=>decide (L x=x)
def En(D:Addr)(H0 H:Hp)(y:V)(l:List Nat):Prop:=∃ b,y = .ref b/\b≠D/\H0 b=none/\H b=some (.lst (aJ l))
def o6(L:Nat->Nat)(p:Nat)(H:Hp)(D:Addr)(i:Nat)(H2:Hp):Prop:=aq H H2/\∃ ys,H2 D=some (.lst ys)/\Paired (En D H H2) ys ((cS L i).map (pieceOf L p))/\ys.length<=i
section
variable {L:Nat->Nat}{p i:Nat}{H H2 H3:Hp}{D b:Addr}
theorem o6.start(hD:H D=none):o6 L p H D 0 (upd H D (.lst [])):=⟨aq.new hD,[],af,.nil,Nat.le_refl _⟩
theorem o7:cS L (i+1)=cS L i++(if L i=i then[i] else[]):=by
 unfold cS;rw[aK]
 by_cases h:L i=i<;>simp[h]
theorem o6.skip(h:o6 L p H D i H2)(hn : ¬ L i=i):o6 L p H D (i+1) H2:=by
 obtain⟨s,ys,hd,pr,hl⟩:=h;refine⟨s,ys,hd,?_,by lia⟩
 rw[o7,if_neg hn,List.append_nil];exact pr
theorem o6.push(h:o6 L p H D i H2)(hD:H D=none)(hr:L i=i)(s:aq H2 H3)(hb:H2 b=none)(OJ:H3 b=some (.lst (aJ (pieceOf L p i)))):
 ∃ ys,H3 D=some (.lst ys)/\ys.length<=i/\o6 L p H D (i+1) (upd H3 D (.lst (ys++[.ref b]))):=by
 obtain⟨s2,ys,hd,pr,hl⟩:=h;have Ig:=s _ _ hd;have Ms:b≠D:=fun e=>by rw[e,hd]at hb;cases hb
 refine⟨ys,Ig,hl,(s2.trans s).put hD,ys++[.ref b],af,?_,by rw[List.length_append,List.length_singleton];lia⟩
 rw[o7,if_pos hr,List.map_append];refine Paired.snoc (Paired.imp' (fun _ _ ⟨e,he,hn,h0,q⟩=>⟨e,he,hn,h0,by rw[ao hn];exact s _ _ q⟩) pr) ?_
 exact⟨b,rfl,Ms,s2.free hb,by rw[ao Ms];exact OJ⟩
end
def ng(p:Nat)(ts:List cJ)(g:aB p ts)(ks:List Nat):Nat->Nat:=ks.foldl (fun L k=>RM.join L (g.N.a k) (g.N.b k)) fun x=>x
theorem wm{p:Nat}{ts:List cJ}{g:aB p ts}{ks:List Nat}{k:Nat}:ng p ts g (ks++[k])=RM.join (ng p ts g ks) (g.N.a k) (g.N.b k):=by
 unfold ng;rw[List.foldl_append];rfl
def aY(p:Nat)(ts:List cJ)(g:aB p ts)(m:Nat):Nat->Nat:=g.N.aC (fun k=>m.testBit k) ts.length
theorem wo{p:Nat}{ts:List cJ}{g:aB p ts}{m:Nat}(hm:m<2^ts.length):ng p ts g (bG (m:Int))=aY p ts g m:=by
 unfold ng aY;rw[gi hm];exact rD _
theorem Dr{p:Nat}{ts:List cJ}{g:aB p ts}:aY p ts g (2^ts.length-1)=g.N.cM ts.length:=by
 unfold aY RM.Net.cM;exact RM.o5 fun k hk=>by rw[yd];simp[hk]
theorem Ds{p:Nat}{ts:List cJ}{g:aB p ts}:(ts.length:Int)-(p:Int)+(cS (aY p ts g (2^ts.length-1)) p).length=(g.N.ay.length:Int):=by
 have h:=RM.nc (N:=g.N);rw[RM.oY];unfold cS;rw[RM.fb,Dr];exact h
theorem Dt(a b:Nat):(if(b:Int)<(a:Int) then(b:Int) else(a:Int))=((min a b:Nat):Int):=by
 split<;>lia
theorem yh(a b:Nat):(if(b:Int) > (a:Int) then(b:Int) else(a:Int))=((max a b:Nat):Int):=by
 split<;>lia
theorem gA(a b:Nat):decide (V.int (a:Int)=V.int (b:Int))=decide (a=b):=by
 rw[Bool.eq_iff_iff];simp
 lia
end Ring
namespace RM
variable {N:Net}{S:Nat->Bool}
variable {pt r j:Nat}{l:List Nat}
theorem Bf{l:List Nat}:∀{p:Nat},l.Nodup->(∀ x∈l,x<p)->l.length<=p:=by
 intro p hn hl;have hp:l.Perm ((List.range p).filter fun x=>decide (x∈l)):=by
  refine(List.perm_ext_iff_of_nodup hn (List.Pairwise.filter _ List.nodup_range)).mpr fun a=>?_
  rw[List.mem_filter,List.mem_range];simp;exact fun h=>hl a h
 rw[hp.length_eq];have:=List.length_filter_le (fun x=>decide (x∈l)) (List.range p)
 rwa [List.length_range]at this
end RM
namespace Ring
open PySem L2
theorem kO(l:List Nat):aJ l=(l.map fun x=>((x:Nat):Int)).map V.int:=by unfold aJ;rw[List.map_map];rfl
theorem o8(u:Nat)(l:List Nat):Ec (.int (u:Int)) (aJ l)=decide (u∈l):=by
 unfold Ec aJ;rw[List.any_map,Bool.eq_iff_iff,List.any_eq_true];simp only[Function.comp,decide_eq_true_eq]
 constructor
 ·rintro⟨x,hx,h⟩;have e:((x:Nat):Int)=(u:Int):=eq_of_beq h;have:x=u:=by lia
  exact this▸hx
 ·intro h;exact⟨u,h,by simp[CU]⟩
theorem rE(l:List Nat):(aJ l).all lz=true:=by
 unfold aJ;rw[List.all_map,List.all_eq_true];intro x _;rfl
end Ring
namespace RM
variable {N:Net}
theorem Bg{L:Nat->Nat}{u v x y:Nat}:join L u v x=join L u v y↔(L x=L y\/(L x=L u/\L y=L v)\/(L x=L v/\L y=L u)):=by
 constructor
 ·exact oU
 ·have e:=rz L u v;rintro(h|⟨h1,h2⟩|⟨h1,h2⟩)
  ·exact join_eq h
  ·rw[join_eq h1,join_eq h2,e]
  ·rw[join_eq h1,join_eq h2,e]
def FP(L:Nat->Nat)(u v:Nat):Nat->Nat:=fun x=>if L x=L v then L u else L x
theorem Dv{L:Nat->Nat}{u v x y:Nat}:FP L u v x=FP L u v y↔(L x=L y\/(L x=L u/\L y=L v)\/(L x=L v/\L y=L u)):=by
 unfold FP
 split<;>split<;>lia
end RM
namespace Ring
open PySem L2
def GK(T:Nat->Nat):Nat->Nat
 | 0=>0
 | n+1=>GK T n ||| T n
theorem yi(T:Nat->Nat)(j:Nat):∀ n,(GK T n).testBit j=true↔∃ x,x<n/\(T x).testBit j=true
 | 0=>by simp[GK]
 | n+1=>by
   unfold GK;rw[Nat.testBit_or,Bool.or_eq_true,yi T j n]
   constructor
   ·rintro(⟨x,hx,h⟩|h)
    ·exact⟨x,by lia,h⟩
    ·exact⟨n,by lia,h⟩
   ·rintro⟨x,hx,h⟩
    by_cases e:x=n
    ·subst e;exact .inr h
    ·exact .inl ⟨x,by lia,h⟩
section
variable {p:Nat}{ts:List cJ}{g:aB p ts}
def gB(p:Nat)(ts:List cJ)(g:aB p ts):Nat:=maskOf g.N.jj ts.length
theorem wq:GK (g.N.trail ts.length) p=gB p ts g:=by
 refine Nat.eq_of_testBit_eq fun j=>?_
 unfold gB;rw[mask_bit,Bool.eq_iff_iff,yi];simp only[Bool.and_eq_true,decide_eq_true_eq]
 constructor
 ·rintro⟨x,_,h⟩;exact RM.cD _ _ _ h
 ·rintro⟨h1,h2⟩;rcases RM.zg (N:=g.N) h1 h2 with h|h
  ·exact⟨_,g.N.al j h1,h⟩
  ·exact⟨_,g.N.bl j h1,h⟩
theorem wu(j:Nat):((2^ts.length-1)^^^gB p ts g).testBit j=(decide (j<ts.length) && !g.N.jj j):=by
 unfold gB;rw[Nat.testBit_xor,yd,mask_bit];cases decide (j<ts.length)<;>cases g.N.jj j<;>rfl
theorem rF:(2^ts.length-1)^^^gB p ts g<2^ts.length:=Nat.xor_lt_two_pow (by have:=Nat.two_pow_pos ts.length;lia) (mask_lt _ _)
theorem uK:bG (((2^ts.length-1)^^^gB p ts g:Nat):Int)=g.N.ay:=by
 rw[gi rF];unfold RM.Net.ay;refine List.filter_congr fun k hk=>?_
 have:=List.mem_range.mp hk;rw[wu];simp[this]
end
theorem Dw(n:Nat):((2:Int)^n-1)=((2^n-1:Nat):Int):=by
 have h:((2:Int)^n)=((2^n:Nat):Int):=by simp
 have:=Nat.two_pow_pos n
 lia
theorem FQ{S:Int}{l:List Nat}(h:∀ c∈l,S≠((c:Nat):Int)):Ec (.int S) (aJ l)=false:=by
 unfold Ec aJ;rw[List.any_map,List.any_eq_false];intro x hx z;exact h x hx (eq_of_beq z).symm
theorem kD{c:Nat}:∀{n:Nat},c<n->(List.range n).filter (fun k=>decide (k=c))=[c]
 | 0,h=>absurd h (Nat.not_lt_zero _)
 | n+1,h=>by
   rw[aK]
   by_cases e:c=n
   ·subst e;have z:(List.range c).filter (fun k=>decide (k=c))=[]:=by
     rw[List.filter_eq_nil_iff];intro x hx;have:=List.mem_range.mp hx;simp
     lia
    rw[z];simp
   ·rw[kD (by lia)]
    simp[Ne.symm e]
theorem yj{l:List Nat}{i:Nat}{k:Nat}(h:l[i]?=some k):(aJ l)[i]?=some (.int (k:Int)):=by
 unfold aJ;rw[List.getElem?_map,h];rfl
def qp(f:Nat->Int)(l:List Nat)(H:Hp)(D:Addr)(i:Nat)(acc:List V)(H2:Hp):Prop:=aq H H2/\H2 D=some (.lst acc)/\acc=((l.take i).map f).map V.int
section
variable {f:Nat->Int}{l:List Nat}{H H2 H3:Hp}{D:Addr}{i k:Nat}{acc:List V}{v:V}
theorem qp.start(hD:H D=none):qp f l H D 0 [] (upd H D (.lst [])):=⟨aq.new hD,af,rfl⟩
theorem qp.len(p:qp f l H D i acc H2):H2 D=some (.lst acc)/\acc.length<=i:=by
 refine⟨p.2.1,?_⟩;rw[p.2.2,List.length_map,List.length_map,List.length_take]
 lia
theorem qp.next(p:qp f l H D i acc H2)(hD:H D=none)(s:aq H2 H3)(hk:l[i]?=some k)(hv:v = .int (f k)):H3 D=some (.lst acc)/\qp f l H D (i+1) (acc++[v]) (upd H3 D (.lst (acc++[v]))):=by
 refine⟨s _ _ p.2.1,(p.1.trans s).put hD,af,?_⟩;rw[List.take_add_one,hk,List.map_append,List.map_append,<-p.2.2,hv];rfl
theorem qp.fin(p:qp f l H D l.length acc H2):H2 D=some (.lst ((l.map f).map V.int)):=by rw[p.2.1,p.2.2,List.take_length]
end
end Ring
namespace RM
theorem uL(f:Nat->Bool):∀ n,bV f n=decide (cnt f n%2=1)
 | 0=>rfl
 | n+1=>by
   unfold bV cnt;rw[uL f n]
   by_cases h:f n=true
   ·rw[h,if_pos rfl]
    by_cases q:cnt f n%2=1
    ·have q' : ¬(cnt f n+1)%2=1:=by lia
     simp[q,q']
    ·have q' : (cnt f n+1)%2=1:=by lia
     simp[q,q']
   ·have h' : f n=false:=by simpa using h
    rw[h',if_neg (by decide)]
    simp
end RM
namespace Ring
open PySem L2
def lenOf(ts:List cJ)(m:Nat):Int:=((bG (m:Int)).map fun k=>(bz ts k).2.2).sum
def zj(ts:List cJ)(f:Nat->Bool):Nat->Int
 | 0=>0
 | n+1=>zj ts f n+(if f n=true then(bz ts n).2.2 else 0)
theorem nh(ts:List cJ)(f:Nat->Bool):∀ n,(((List.range n).filter f).map fun k=>(bz ts k).2.2).sum=zj ts f n
 | 0=>rfl
 | n+1=>by
   rw[aK,List.map_append,List.sum_append,nh ts f n];show _=zj ts f n+(if f n=true then(bz ts n).2.2 else 0)
   split<;>simp
theorem zk{ts:List cJ}{m:Nat}(hm:m<2^ts.length):lenOf ts m=zj ts (fun k=>m.testBit k) ts.length:=by
 unfold lenOf;rw[gi hm];exact nh ts _ _
section
variable {p:Nat}{ts:List cJ}(g:aB p ts)
include g
end
end Ring
namespace RM
def sm(f:Nat->Nat):Nat->Nat
 | 0=>0
 | n+1=>sm f n+f n
theorem dw{f g:Nat->Nat}:∀{n:Nat},(∀ k,k<n->f k=g k)->sm f n=sm g n
 | 0,_=>rfl
 | n+1,h=>by
   show sm f n+f n=sm g n+g n;rw[dw fun k hk=>h k (by lia),h n (by lia)]
theorem mC(f g:Nat->Nat):∀ n,sm (fun k=>f k+g k) n=sm f n+sm g n
 | 0=>rfl
 | n+1=>by
   show sm (fun k=>f k+g k) n+(f n+g n)=sm f n+f n+(sm g n+g n)
   rw[mC f g n]
   lia
theorem nZ:∀ n,sm (fun _=>0) n=0
 | 0=>rfl
 | n+1=>by
   show sm (fun _=>0) n+0=0
   rw[nZ n]
theorem yk(f:Nat->Nat->Nat)(n:Nat):∀ p,sm (fun x=>sm (fun k=>f x k) n) p=sm (fun k=>sm (fun x=>f x k) p) n
 | 0=>(nZ n).symm
 | p+1=>by
   show sm (fun x=>sm (fun k=>f x k) n) p+sm (fun k=>f p k) n=sm (fun k=>sm (fun x=>f x k) p+f p k) n
   rw[yk f n p,mC]
theorem fF(f:Nat->Bool):∀ n,cnt f n=sm (fun k=>if f k=true then 1 else 0) n
 | 0=>rfl
 | n+1=>by
   show cnt f n+(if f n=true then 1 else 0)=sm (fun k=>if f k=true then 1 else 0) n+(if f n=true then 1 else 0)
   rw[fF f n]
theorem yl{f g:Nat->Nat}:∀{n:Nat},(∀ k,k<n->f k<=g k)->sm f n<=sm g n
 | 0,_=>Nat.le_refl _
 | n+1,h=>by
   have h1:=yl (f:=f) (g:=g) (n:=n) fun k hk=>h k (by lia)
   have h2:=h n (by lia)
   show sm f n+f n<=sm g n+g n
   lia
theorem Bh{f g:Nat->Nat}{n:Nat}(h:∀ k,k<n->f k<=g k)(e:sm f n=sm g n):∀ k,k<n->f k=g k:=by
 induction n with
 | zero=>exact fun k hk=>absurd hk (Nat.not_lt_zero _)
 | succ n ih =>
   intro k hk;have h1:=yl (f:=f) (g:=g) (n:=n) fun k hk=>h k (by lia)
   have h2:=h n (by lia)
   have e:sm f n+f n=sm g n+g n:=e
   by_cases hkn:k=n
   ·subst hkn
    lia
   ·exact ih (fun j hj=>h j (by lia)) (by lia) k (by lia)
theorem wz{f g:Nat->Bool}{n:Nat}(h:∀ k,k<n->f k=true->g k=true):cnt f n<=cnt g n:=by
 rw[fF,fF];refine yl fun k hk=>?_
 by_cases hf:f k=true
 ·rw[if_pos hf,if_pos (h k hk hf)];exact Nat.le_refl _
 ·rw[if_neg hf];exact Nat.zero_le _
theorem Bj{f g:Nat->Bool}{n:Nat}(h:∀ k,k<n->f k=true->g k=true)(e:cnt f n=cnt g n):∀ k,k<n->g k=true->f k=true:=fun k hk hg=>by
 rw[fF,fF]at e;have q:=Bh (n:=n) (fun k hk=>by
  by_cases hf:f k=true
  ·rw[if_pos hf,if_pos (h k hk hf)];exact Nat.le_refl _
  ·rw[if_neg hf];exact Nat.zero_le _) e k hk
 rw[if_pos hg]at q
 by_cases hf:f k=true
 ·exact hf
 ·rw[if_neg hf]at q
  lia
theorem gm{f:Nat->Bool}:∀{n:Nat},0<cnt f n->∃ k,k<n/\f k=true
 | 0,h=>absurd h (Nat.lt_irrefl _)
 | n+1,h=>by
   by_cases hf:f n=true
   ·exact⟨n,by lia,hf⟩
   ·have h:0<cnt f n+(if f n=true then 1 else 0):=h
    rw[if_neg hf]at h;obtain⟨k,hk,q⟩:=gm (f:=f) (n:=n) (by lia)
    exact⟨k,by lia,q⟩
theorem iI{f:Nat->Bool}{k:Nat}(hf:f k=true):∀{n:Nat},k<n->0<cnt f n
 | 0,h=>absurd h (Nat.not_lt_zero _)
 | n+1,h=>by
   show 0<cnt f n+(if f n=true then 1 else 0)
   by_cases hk:k=n
   ·subst hk;rw[if_pos hf]
    lia
   ·have:=iI hf (n:=n) (by lia)
    lia
theorem j6{f:Nat->Bool}:∀{n:Nat},2<=cnt f n->∃ c d,c<d/\d<n/\f c=true/\f d=true
 | 0,h=>absurd h (by show ¬ 2<=0;lia)
 | n+1,h=>by
   have h:2<=cnt f n+(if f n=true then 1 else 0):=h
   by_cases hf:f n=true
   ·rw[if_pos hf]at h;obtain⟨k,hk,q⟩:=gm (f:=f) (n:=n) (by lia)
    exact⟨k,n,hk,by lia,q,hf⟩
   ·rw[if_neg hf]at h;obtain⟨c,d,h1,h2,h3,h4⟩:=j6 (f:=f) (n:=n) (by lia)
    exact⟨c,d,h1,by lia,h3,h4⟩
theorem n5{f:Nat->Bool}{u v:Nat}(hu:f u=true)(hv:f v=true)(ne:u≠v):∀{n:Nat},u<n->v<n->2<=cnt f n
 | 0,h,_=>absurd h (Nat.not_lt_zero _)
 | n+1,h1,h2=>by
   show 2<=cnt f n+(if f n=true then 1 else 0)
   by_cases e1:u=n
   ·subst e1;have:=iI hv (n:=u) (by lia)
    rw[if_pos hu]
    lia
   ·by_cases e2:v=n
    ·subst e2;have:=iI hu (n:=v) (by lia)
     rw[if_pos hv]
     lia
    ·have:=n5 hu hv ne (n:=n) (by lia) (by lia)
     lia
theorem o9(a:Nat):∀ n,cnt (fun x=>decide (a=x)) n=if a<n then 1 else 0
 | 0=>rfl
 | n+1=>by
   show cnt (fun x=>decide (a=x)) n+(if decide (a=n)=true then 1 else 0)=_
   rw[o9 a n]
   by_cases e:a=n
   ·subst e;simp
   ·have d:(if decide (a=n)=true then 1 else 0)=0:=if_neg (by simpa using e)
    rw[d]
    by_cases h:a<n
    ·rw[if_pos h,if_pos (by lia)]
    ·rw[if_neg h,if_neg (by lia)]
theorem pe{f g:Nat->Bool}:∀{n:Nat},(∀ x,x<n->¬(f x=true/\g x=true))->cnt (fun x=>f x^^g x) n=cnt f n+cnt g n
 | 0,_=>rfl
 | n+1,h=>by
   show cnt (fun x=>f x^^g x) n+(if(f n^^g n)=true then 1 else 0)=cnt f n+(if f n=true then 1 else 0)+(cnt g n+(if g n=true then 1 else 0))
   rw[pe fun x hx=>h x (by lia)]
   have q:=h n (by lia)
   cases hf:f n<;>cases hg:g n
   ·simp
   ·simp
    lia
   ·simp
    lia
   ·exact absurd ⟨hf,hg⟩ q
variable {N:Net}
def Net.dg(N:Net)(m x:Nat):Nat:=cnt (fun k=>m.testBit k&&N.inc k x) N.n
theorem ym(m x:Nat):N.bd m x=decide (N.dg m x%2=1):=uL _ _
theorem n6{m x:Nat}(e:N.cP m)(hx:x<N.p):N.dg m x%2=0:=by
 have h:=e x hx;rw[ym]at h;have:=of_decide_eq_false h
 lia
theorem n8{k x:Nat}(hk:k<N.n):N.inc k x=true↔(N.a k=x\/N.b k=x):=by
 have ne:=N.ne k hk;unfold Net.inc
 by_cases h1:N.a k=x
 ·have h2 : ¬ N.b k=x:=fun z=>ne (h1.trans z.symm)
  simp[h1,h2]
 ·by_cases h2:N.b k=x
  ·simp[h1,h2]
  ·simp[h1,h2]
theorem Dy{k:Nat}(hk:k<N.n):cnt (N.inc k) N.p=2:=by
 have ne:=N.ne k hk;have e:cnt (N.inc k) N.p=cnt (fun x=>decide (N.a k=x)^^decide (N.b k=x)) N.p:=rfl
 rw[e,pe fun x _ ⟨h1,h2⟩=>ne ((kr h1).trans (kr h2).symm),o9,o9,if_pos (N.al k hk),if_pos (N.bl k hk)]
theorem sE(m:Nat):sm (fun x=>N.dg m x) N.p=2*cnt (fun k=>m.testBit k) N.n:=by
 have e:sm (fun x=>N.dg m x) N.p=sm (fun x=>sm (fun k=>if(m.testBit k&&N.inc k x)=true then 1 else 0) N.n) N.p:=dw fun x _=>fF _ _
 rw[e,yk,fF];have d:∀ n,2*sm (fun k=>if m.testBit k=true then 1 else 0) n=sm (fun k=>(if m.testBit k=true then 1 else 0)+(if m.testBit k=true then 1 else 0)) n:=fun n=>by
  rw[mC]
  lia
 rw[d];refine dw fun k hk=>?_
 by_cases h:m.testBit k=true
 ·rw[if_pos h];have q:=Dy hk;rw[fF]at q;show _=2;exact(dw fun x _=>by rw[h,Bool.true_and]).trans q
 ·rw[if_neg h];have h' : m.testBit k=false:=by simpa using h
  have:sm (fun x=>if(m.testBit k&&N.inc k x)=true then 1 else 0) N.p=sm (fun _=>0) N.p:=dw fun x _=>by rw[h'];rfl
  rw[this,nZ]
theorem Ih{q m:Nat}(h:∀ k,q.testBit k=true->m.testBit k=true)(x:Nat):N.dg q x<=N.dg m x:=wz fun k _ hq=>by
 rw[Bool.and_eq_true]at hq ⊢;exact⟨h k hq.1,hq.2⟩
theorem pA{m k x:Nat}(hk:k<N.n)(hb:m.testBit k=true)(hx:N.a k=x\/N.b k=x):0<N.dg m x:=iI (k:=k) (by rw[hb,Bool.true_and];exact(n8 hk).mpr hx) hk
theorem oh{m x:Nat}(h:0<N.dg m x):∃ k,k<N.n/\m.testBit k=true/\(N.a k=x\/N.b k=x):=by
 obtain⟨k,hk,q⟩:=gm h;rw[Bool.and_eq_true]at q;exact⟨k,hk,q.1,(n8 hk).mp q.2⟩
theorem alone{m x y:Nat}(h:N.dg m x=0)(c:N.ji (fun k=>m.testBit k) N.n x y):y=x:=by
 induction c with
 | refl=>rfl
 | fwd _ hj hs ih=>exact absurd (pA hj hs (.inl ih)) (by lia)
 | bwd _ hj hs ih=>exact absurd (pA hj hs (.inr ih)) (by lia)
theorem zl{S:Nat->Bool}{k u v:Nat}(hk:k<=N.n)(c:N.ji S k u v):∃ t,(∀ j,t.testBit j=true->j<k/\S j=true)/\∀ x,N.bd t x=(decide (u=x)^^decide (v=x)):=by
 induction c with
 | refl=>exact⟨0,fun j hj=>by simp at hj,fun x=>by rw[sC];simp⟩
 | fwd _ hj hs ih =>
   rename_i j _
   obtain⟨t,h1,h2⟩:=ih;refine⟨t^^^2^j,fun i hi=>?_,fun x=>?_⟩
   ·rw[Nat.testBit_xor,Nat.testBit_two_pow]at hi
    by_cases e:j=i
    ·subst e;exact⟨hj,hs⟩
    ·rw[dO e,Bool.xor_false]at hi;exact h1 i hi
   ·rw[e8,h2,fE (by lia)]
    unfold Net.inc;cases decide (u=x)<;>cases decide (N.a j=x)<;>cases decide (N.b j=x)<;>rfl
 | bwd _ hj hs ih =>
   rename_i j _
   obtain⟨t,h1,h2⟩:=ih;refine⟨t^^^2^j,fun i hi=>?_,fun x=>?_⟩
   ·rw[Nat.testBit_xor,Nat.testBit_two_pow]at hi
    by_cases e:j=i
    ·subst e;exact⟨hj,hs⟩
    ·rw[dO e,Bool.xor_false]at hi;exact h1 i hi
   ·rw[e8,h2,fE (by lia)]
    unfold Net.inc;cases decide (u=x)<;>cases decide (N.a j=x)<;>cases decide (N.b j=x)<;>rfl
def Net.Ring(N:Net)(m:Nat):Prop:=m≠0/\N.cP m/\∀ q,(∀ k,q.testBit k=true->m.testBit k=true)->N.cP q->q=0\/q=m
section
variable {m s:Nat}
theorem yn(hm:m<2^N.n)(ev:N.cP m)(C:Nat->Bool)(hC:∀ x,x<N.p->C x=decide (N.aC (fun k=>m.testBit k) N.n x=s))(h2:2<=cnt C N.p)
 (Lh:∀ k,k<N.n->m.testBit k=true->C (N.a k)=true) (hl:cnt C N.p=cnt (fun k=>m.testBit k) N.n):N.Ring m:=by
 have Eo:∀ k,k<N.n->m.testBit k=true->C (N.a k)=true/\C (N.b k)=true:=fun k hk hb=>by
  have h:=Lh k hk hb;refine⟨h,?_⟩;rw[hC _ (N.al k hk)]at h;rw[hC _ (N.bl k hk)];rw[fC (S:=fun k=>m.testBit k) hk hb]at h
  exact h
 have pos:∀ x,x<N.p->C x=true->0<N.dg m x:=fun x hx hc=>by
  cases hz:N.dg m x with
  | succ d=>lia
  | zero =>
    exfalso
    obtain⟨y,hy,Ep,hne⟩:∃ y,y<N.p/\C y=true/\y≠x:=by
     obtain⟨c,d,h1,h3,h4,h5⟩:=j6 h2
     by_cases e:c=x
     ·exact⟨d,h3,h5,by lia⟩
     ·exact⟨c,by lia,h4,e⟩
    rw[hC x hx]at hc;rw[hC y hy]at Ep;exact hne (alone hz (aX _ _ _ ((kr hc).trans (kr Ep).symm)))
 have two:∀ x,x<N.p->(if C x=true then 2 else 0)=N.dg m x:=by
  refine Bh (fun x hx=>?_) ?_
  ·by_cases hc:C x=true
   ·rw[if_pos hc];have h1:=pos x hx hc;have h3:=n6 ev hx
    lia
   ·rw[if_neg hc];exact Nat.zero_le _
  ·rw[sE,<-hl,fF];have d:∀ n,2*sm (fun k=>if C k=true then 1 else 0) n=sm (fun k=>(if C k=true then 1 else 0)+(if C k=true then 1 else 0)) n:=fun n=>by
    rw[mC]
    lia
   rw[d];exact dw fun x _=>by split<;>rfl
 obtain⟨c0,hc0,hcc⟩:=gm (f:=C) (n:=N.p) (by lia)
 refine⟨fun z=>?_,ev,fun q hq eq=>?_⟩
 ·have h:=pos c0 hc0 hcc;obtain⟨k,_,hb,_⟩:=oh h;rw[z]at hb;simp at hb
 ·by_cases Mt:q=0
  ·exact .inl Mt
  ·right
   have full:∀ x,x<N.p->0<N.dg q x->∀ k,k<N.n->m.testBit k=true->(N.a k=x\/N.b k=x)->q.testBit k=true:=fun x hx h k hk hb Ct=>by
    have h1:=Ih (N:=N) hq x;have h3:=n6 eq hx;have h4:=two x hx;have h5:N.dg q x=N.dg m x:=by
     by_cases hc:C x=true
     ·rw[if_pos hc]at h4
      lia
     ·rw[if_neg hc]at h4
      lia
    have h6:=Bj (f:=fun k=>q.testBit k&&N.inc k x) (g:=fun k=>m.testBit k&&N.inc k x) (n:=N.n) (fun k _ z=>by
     rw[Bool.and_eq_true]at z ⊢;exact⟨hq k z.1,z.2⟩) h5 k hk (by rw[hb,Bool.true_and];exact(n8 hk).mpr Ct)
    rw[Bool.and_eq_true]at h6;exact h6.1
   obtain⟨k0,hb0⟩:∃ k,q.testBit k=true:=Nat.exists_testBit_of_ne_zero Mt;have hk0:k0<N.n:=eE hm (hq k0 hb0);have spread:∀{y},N.ji (fun k=>m.testBit k) N.n (N.a k0) y->0<N.dg q y:=fun {y} c=>by
    induction c with
    | refl=>exact pA hk0 hb0 (.inl rfl)
    | fwd _ hj hs ih=>exact pA hj (full _ (N.al _ hj) ih _ hj hs (.inl rfl)) (.inr rfl)
    | bwd _ hj hs ih=>exact pA hj (full _ (N.bl _ hj) ih _ hj hs (.inr rfl)) (.inl rfl)
   refine Nat.eq_of_testBit_eq fun k=>?_
   cases hb:m.testBit k with
   | false =>
     cases hz:q.testBit k with
     | false=>rfl
     | true =>
       have:=hq k hz;rw[hb]at this;cases this
   | true =>
     have hk:=eE hm hb;have e1:=(Eo k hk hb).1;have e2:=(Eo k0 hk0 (hq k0 hb0)).1;rw[hC _ (N.al k hk)]at e1;rw[hC _ (N.al k0 hk0)]at e2;exact full _ (N.al k hk) (spread (aX _ _ _ ((kr e2).trans (kr e1).symm))) k hk hb (.inl rfl)
theorem kP(hm:m<2^N.n)(r:N.Ring m):∃ k0,k0<N.n/\m.testBit k0=true/\∀ k,k<N.n->m.testBit k=true->N.aC (fun k=>m.testBit k) N.n (N.a k)=N.aC (fun k=>m.testBit k) N.n (N.a k0):=by
 obtain⟨h0,ev,mn⟩:=r;obtain⟨k0,hb0⟩:=Nat.exists_testBit_of_ne_zero h0;have hk0:=eE hm hb0;refine⟨k0,hk0,hb0,?_⟩;generalize hs:N.aC (fun k=>m.testBit k) N.n (N.a k0)=s
 have bit:∀ k,(Ring.maskOf (fun k=>m.testBit k&&decide (N.aC (fun k=>m.testBit k) N.n (N.a k)=s)) N.n).testBit k=(decide (k<N.n)&&(m.testBit k&&decide (N.aC (fun k=>m.testBit k) N.n (N.a k)=s))):=fun k=>Ring.mask_bit _ k _
 have sub:∀ k,(Ring.maskOf (fun k=>m.testBit k&&decide (N.aC (fun k=>m.testBit k) N.n (N.a k)=s)) N.n).testBit k=true->m.testBit k=true:=fun k hk=>by
  rw[bit,Bool.and_eq_true,Bool.and_eq_true]at hk;exact hk.2.1
 have Li:N.cP (Ring.maskOf (fun k=>m.testBit k&&decide (N.aC (fun k=>m.testBit k) N.n (N.a k)=s)) N.n):=fun x hx=>by
  have e:N.bd (Ring.maskOf (fun k=>m.testBit k&&decide (N.aC (fun k=>m.testBit k) N.n (N.a k)=s)) N.n) x=(decide (N.aC (fun k=>m.testBit k) N.n x=s)&&N.bd m x):=by
   unfold Net.bd;rw[<-lG];refine cO fun k hk=>?_
   rw[bit,cN hk,Bool.true_and];cases hb:m.testBit k with
   | false=>simp
   | true =>
     cases hi:N.inc k x with
     | false=>simp
     | true =>
       have el:N.aC (fun k=>m.testBit k) N.n (N.a k)=N.aC (fun k=>m.testBit k) N.n x:=by
        rcases(n8 hk).mp hi with z|z
        ·rw[z]
        ·rw[<-z];exact fC (S:=fun k=>m.testBit k) hk hb
       rw[el];simp
  rw[e,ev x hx,Bool.and_false]
 rcases mn _ sub Li with q|q
 ·have:=bit k0;rw[q,hb0,hs,cN hk0]at this;simp at this
 ·intro k hk hb;have h:=bit k;rw[q,hb,cN hk]at h;exact kr (by simpa using h.symm)
theorem rG(S:Nat->Bool):∀ k,k<=N.n->cnt (N.root S k) N.p+cnt (fun j=>S j && !decide (N.aC S j (N.a j)=N.aC S j (N.b j))) k=N.p
 | 0,_=>by
   show cnt (N.root S 0) N.p+0=N.p;rw[sD (f:=N.root S 0) fun x _=>cN rfl]
   rfl
 | k+1,hk=>by
   have ih:=rG S k (by lia)
   have st:=oX (N:=N) (S:=S) (k:=k) (by lia)
   show cnt (N.root S (k+1)) N.p+(cnt (fun j=>S j && !decide (N.aC S j (N.a j)=N.aC S j (N.b j))) k+if(S k && !decide (N.aC S k (N.a k)=N.aC S k (N.b k)))=true then 1 else 0)=N.p
   lia
theorem uM(hm:m<2^N.n)(r:N.Ring m)(C:Nat->Bool)(hC:∀ x,x<N.p->C x=decide (N.aC (fun k=>m.testBit k) N.n x=s))
 (Lh:∀ k,k<N.n->m.testBit k=true->C (N.a k)=true):2<=cnt C N.p/\cnt C N.p=cnt (fun k=>m.testBit k) N.n/\∀ x,x<N.p->C x=false->N.aC (fun k=>m.testBit k) N.n x=x/\∀ y,N.aC (fun k=>m.testBit k) N.n y=x->y=x:=by
 obtain⟨h0,ev,mn⟩:=r;obtain⟨k0,hb0⟩:=Nat.exists_testBit_of_ne_zero h0;have hk0:=eE hm hb0;have Eo:∀ k,k<N.n->m.testBit k=true->C (N.a k)=true/\C (N.b k)=true:=fun k hk hb=>by
  have h:=Lh k hk hb;refine⟨h,?_⟩;rw[hC _ (N.al k hk)]at h;rw[hC _ (N.bl k hk),<-fC (S:=fun k=>m.testBit k) hk hb]
  exact h
 have h2:2<=cnt C N.p:=n5 (Eo k0 hk0 hb0).1 (Eo k0 hk0 hb0).2 (N.ne k0 hk0) (N.al k0 hk0) (N.bl k0 hk0);have none:∀ x,x<N.p->C x=false->N.dg m x=0:=fun x hx hc=>by
  cases hz:N.dg m x with
  | zero=>rfl
  | succ d =>
    exfalso
    obtain⟨k,hk,hb,Ct⟩:=oh (N:=N) (m:=m) (x:=x) (by lia)
    rcases Ct with e|e
    ·have:=(Eo k hk hb).1;rw[e,hc]at this;cases this
    ·have:=(Eo k hk hb).2;rw[e,hc]at this;cases this
 have zm:∀ x,x<N.p->C x=false->N.aC (fun k=>m.testBit k) N.n x=x/\∀ y,N.aC (fun k=>m.testBit k) N.n y=x->y=x:=fun x hx hc=>by
  have hz:=none x hx hc;have r1:N.aC (fun k=>m.testBit k) N.n x=x:=alone hz (aX _ _ _ (bx _ _).symm)
  exact⟨r1,fun y hy=>alone hz (aX _ _ _ (r1.trans hy.symm))⟩
 refine⟨h2,?_,zm⟩;have pos:∀ x,x<N.p->C x=true->0<N.dg m x:=fun x hx hc=>by
  cases hz:N.dg m x with
  | succ d=>lia
  | zero =>
    exfalso
    obtain⟨y,hy,Ep,hne⟩:∃ y,y<N.p/\C y=true/\y≠x:=by
     obtain⟨c,d,h1,h3,h4,h5⟩:=j6 h2
     by_cases e:c=x
     ·exact⟨d,h3,h5,by lia⟩
     ·exact⟨c,by lia,h4,e⟩
    rw[hC x hx]at hc;rw[hC y hy]at Ep;exact hne (alone hz (aX _ _ _ ((kr hc).trans (kr Ep).symm)))
 have ge:cnt C N.p<=cnt (fun k=>m.testBit k) N.n:=by
  have h:sm (fun x=>if C x=true then 2 else 0) N.p<=sm (fun x=>N.dg m x) N.p:=yl fun x hx=>by
   by_cases hc:C x=true
   ·rw[if_pos hc];have h1:=pos x hx hc;have h3:=n6 ev hx
    lia
   ·rw[if_neg hc];exact Nat.zero_le _
  rw[sE]at h;have d:sm (fun x=>if C x=true then 2 else 0) N.p=2*cnt C N.p:=by
   rw[fF];have d:∀ n,2*sm (fun k=>if C k=true then 1 else 0) n=sm (fun k=>(if C k=true then 1 else 0)+(if C k=true then 1 else 0)) n:=fun n=>by
    rw[mC]
    lia
   rw[d];exact dw fun x _=>by split<;>rfl
  lia
 refine Nat.le_antisymm ge (Nat.le_of_not_lt fun more=>?_)
 have Lj:=rG (N:=N) (fun k=>m.testBit k) N.n (Nat.le_refl _)
 have hr:cnt (N.root (fun k=>m.testBit k) N.n) N.p+cnt C N.p=N.p+1:=by
  have hc0:=(Eo k0 hk0 hb0).1;rw[hC _ (N.al k0 hk0)]at hc0;have hs:=kr hc0;have vP:s<N.p:=by rw[<-hs];exact gy (N.al k0 hk0)
  have hss:N.aC (fun k=>m.testBit k) N.n s=s:=by rw[<-hs];exact bx _ _
  have e:cnt (N.root (fun k=>m.testBit k) N.n) N.p=cnt (fun x=>!C x^^decide (s=x)) N.p:=dU fun x hx=>by
   unfold Net.root;cases hc:C x with
   | false =>
     have ne : ¬ s=x:=fun z=>by
      have:=hC x hx;rw[hc,<-z,hss]at this;simp at this
     rw[cN (zm x hx hc).1,dO ne];rfl
   | true =>
     have h:=hC x hx;rw[hc]at h;have h:=kr h.symm;rw[h];simp
  rw[e,pe fun x hx ⟨z1,z2⟩=>by
   have z2:=kr z2;have:=hC x hx;rw[<-z2,hss]at this;rw[<-z2,this]at z1;simp at z1,o9,if_pos vP]
  have:=gx C N.p
  lia
 have split:cnt (fun k=>m.testBit k) N.n=cnt (fun j=>m.testBit j && !decide (N.aC (fun k=>m.testBit k) j (N.a j)=N.aC (fun k=>m.testBit k) j (N.b j))) N.n+cnt (fun j=>m.testBit j&&decide (N.aC (fun k=>m.testBit k) j (N.a j)=N.aC (fun k=>m.testBit k) j (N.b j))) N.n:=by
  rw[<-pe fun x _ ⟨z1,z2⟩=>by
   rw[Bool.and_eq_true]at z1 z2;have:=z1.2;rw[z2.2]at this;cases this]
  refine dU fun k _=>?_
  cases m.testBit k<;>cases decide (N.aC (fun k=>m.testBit k) k (N.a k)=N.aC (fun k=>m.testBit k) k (N.b k))<;>rfl
 obtain⟨c,d,hcd,hd,hc1,hd1⟩:=j6 (f:=fun j=>m.testBit j&&decide (N.aC (fun k=>m.testBit k) j (N.a j)=N.aC (fun k=>m.testBit k) j (N.b j))) (n:=N.n) (by lia)
 have whole:∀ j,j<N.n->(m.testBit j&&decide (N.aC (fun k=>m.testBit k) j (N.a j)=N.aC (fun k=>m.testBit k) j (N.b j)))=true->∀ i,m.testBit i=true->i<=j:=fun j hj h i hi=>by
  rw[Bool.and_eq_true]at h;obtain⟨t,t1,t2⟩:=zl (Nat.le_of_lt hj) (aX _ _ _ (kr h.2));have own:(t^^^2^j).testBit j=true:=by
   rw[Nat.testBit_xor,Nat.testBit_two_pow,cN rfl];cases hz:t.testBit j with
   | false=>rfl
   | true=>exact absurd (t1 j hz).1 (Nat.lt_irrefl _)
  have sub:∀ k,(t^^^2^j).testBit k=true->m.testBit k=true:=fun k hk=>by
   rw[Nat.testBit_xor,Nat.testBit_two_pow]at hk
   by_cases e:j=k
   ·subst e;exact h.1
   ·rw[dO e,Bool.xor_false]at hk;exact(t1 k hk).2
  have Li:N.cP (t^^^2^j):=fun x hx=>by
   rw[e8,t2,fE hj];unfold Net.inc;cases decide (N.a j=x)<;>cases decide (N.b j=x)<;>rfl
  rcases mn _ sub Li with q|q
  ·rw[q]at own;simp at own
  ·rw[<-q,Nat.testBit_xor,Nat.testBit_two_pow]at hi
   by_cases e:j=i
   ·lia
   ·rw[dO e,Bool.xor_false]at hi;exact Nat.le_of_lt (t1 i hi).1
 have h1:m.testBit d=true:=by
  rw[Bool.and_eq_true]at hd1;exact hd1.1
 have:=whole c (by lia) hc1 d h1
 lia
end
end RM
namespace Ring
open PySem L2
def cG(L:Nat->Nat)(p:Nat):List Nat:=(cS L p).filter fun s=>decide (1<(pieceOf L p s).length)
def FT(L:Nat->Nat)(p k:Nat):List Nat->Bool
 | [s]=>decide ((pieceOf L p s).length=k)
 | _=>false
def je(p:Nat)(ts:List cJ)(g:aB p ts)(m:Nat):Bool:=decide (oQ p ts (m:Int)=[])&&FT (aY p ts g m) p (bG (m:Int)).length (cG (aY p ts g m) p)
theorem fX(L:Nat->Nat)(p s:Nat):(pieceOf L p s).length=RM.cnt (fun x=>decide (L x=s)) p:=RM.fb _ _
theorem uN{m n:Nat}(hm:m<2^n):(bG (m:Int)).length=RM.cnt (fun k=>m.testBit k) n:=by
 rw[gi hm];exact RM.fb _ _
theorem zo{f:Nat->Bool}{n c:Nat}(hc:c<n)(h:∀ k,k<n->f k=decide (k=c)):(List.range n).filter f=[c]:=by
 rw[<-kD hc];exact List.filter_congr fun k hk=>h k (List.mem_range.mp hk)
theorem rH{p:Nat}{ts:List cJ}(g:aB p ts){m:Nat}(hm:m<2^ts.length):je p ts g m=true↔g.N.Ring m:=by
 have eL:aY p ts g m=g.N.aC (fun k=>m.testBit k) g.N.n:=rfl
 have ep:g.N.p=p:=rfl
 constructor
 ·intro h;unfold je at h;rw[Bool.and_eq_true]at h;obtain⟨h1,h2⟩:=h;have ev:=(uI g hm).mp (kr h1);unfold FT at h2
  split at h2
  ·rename_i s hs
   have h2:=kr h2;have hmem:s∈cG (aY p ts g m) p:=by rw[hs];exact List.mem_singleton.mpr rfl
   unfold cG at hmem;have hlen:=kr (List.mem_filter.mp hmem).2;refine RM.yn (s:=s) hm ev (fun x=>decide (aY p ts g m x=s)) (fun x _=>by rw[eL]) ?_ (fun k hk hb=>?_) ?_
   ·rw[ep,<-fX];exact hlen
   ·
    have Mu:=g.N.al k hk;have OL:=g.N.bl k hk;have e:aY p ts g m (g.N.b k)=aY p ts g m (g.N.a k):=(RM.fC (S:=fun k=>m.testBit k) hk hb).symm
    have hr:aY p ts g m (aY p ts g m (g.N.a k))=aY p ts g m (g.N.a k):=RM.bx _ _;have hlt:aY p ts g m (g.N.a k)<p:=RM.gy Mu;have ht:aY p ts g m (g.N.a k)∈cG (aY p ts g m) p:=by
     unfold cG cS;refine List.mem_filter.mpr ⟨List.mem_filter.mpr ⟨List.mem_range.mpr hlt,cN hr⟩,cN ?_⟩;rw[fX];exact RM.n5 (u:=g.N.a k) (v:=g.N.b k) (cN rfl) (cN e) (g.N.ne k hk) Mu OL
    rw[hs]at ht;exact cN (List.mem_singleton.mp ht)
   ·rw[ep,<-fX,h2];exact uN hm
  ·cases h2
 ·intro r;obtain⟨k0,hk0,hb0,hall⟩:=RM.kP hm r;generalize hs:g.N.aC (fun k=>m.testBit k) g.N.n (g.N.a k0)=s at hall
  obtain⟨h2,hl,zm⟩:=RM.uM (s:=s) hm r (fun x=>decide (aY p ts g m x=s)) (fun x _=>by rw[eL]) (fun k hk hb=>cN (hall k hk hb))
  have vP:s<p:=by rw[<-hs];exact RM.gy (g.N.al k0 hk0)
  have hss:aY p ts g m s=s:=by rw[eL,<-hs];exact RM.bx _ _
  have ht:cG (aY p ts g m) p=[s]:=by
   unfold cG cS;rw[List.filter_filter];refine zo vP fun x hx=>?_
   by_cases e:x=s
   ·subst e;rw[cN hss,fX,cN rfl,Bool.and_true];exact cN h2
   ·rw[dO e]
    by_cases Ct:aY p ts g m x=x
    ·have hc:decide (aY p ts g m x=s)=false:=dO (by rw[Ct];exact e)
     obtain⟨_,q⟩:=zm x hx hc;have : ¬ 1<(pieceOf (aY p ts g m) p x).length:=fun z=>by
      rw[fX]at z;obtain⟨c,d,h1,_,h3,h4⟩:=RM.j6 z;have h3:=q c (kr h3);have h4:=q d (kr h4)
      lia
     rw[dO this,Bool.false_and]
    ·rw[dO Ct,Bool.and_false]
  unfold je;rw[cN ((uI g hm).mpr r.2.1),ht,Bool.true_and];refine cN ?_;rw[fX,uN hm];exact hl
theorem wA{p:Nat}{ts:List cJ}{g:aB p ts}{m:Nat}(ev:oQ p ts (m:Int)=[]):je p ts g m=FT (aY p ts g m) p (bG (m:Int)).length (cG (aY p ts g m) p):=by
 unfold je;rw[cN ev,Bool.true_and]
def FU(H:Hp)(y:V)(l:List Nat):Prop:=∃ b,y = .ref b/\H b=some (.lst (aJ l))
def pB(f:List Nat->Bool)(ls:List (List Nat))(H:Hp)(D:Addr)(i:Nat)(acc:List V)(H2:Hp):Prop:=aq H H2/\H2 D=some (.lst acc)/\Paired (FU H) acc ((ls.take i).filter f)
section
variable {f:List Nat->Bool}{ls:List (List Nat)}{H H2 H3:Hp}{D:Addr}{i:Nat}{acc:List V}{y:V}{l:List Nat}
theorem pB.start(hD:H D=none):pB f ls H D 0 [] (upd H D (.lst [])):=⟨aq.new hD,af,.nil⟩
theorem pB.len(h:pB f ls H D i acc H2):H2 D=some (.lst acc)/\acc.length<=i:=⟨h.2.1,by
 rw[h.2.2.length];exact Nat.le_trans (List.length_filter_le _ _) (by rw[List.length_take];lia)⟩
theorem pB.yes(h:pB f ls H D i acc H2)(hD:H D=none)(hl:ls[i]?=some l)(hf:f l=true)(hy:FU H y l):H2 D=some (.lst acc)/\pB f ls H D (i+1) (acc++[y]) (upd H2 D (.lst (acc++[y]))):=by
 refine⟨h.2.1,h.1.put hD,af,?_⟩;rw[List.take_add_one,hl,List.filter_append];show Paired _ _ (_++List.filter f [l]);rw[List.filter_cons,if_pos hf];exact Paired.snoc h.2.2 hy
theorem pB.no(h:pB f ls H D i acc H2)(hl:ls[i]?=some l)(hf:f l=false):pB f ls H D (i+1) acc H2:=by
 refine⟨h.1,h.2.1,?_⟩;rw[List.take_add_one,hl,List.filter_append];show Paired _ _ (_++List.filter f [l]);rw[List.filter_cons,if_neg (by rw[hf];exact Bool.false_ne_true)]
 simpa using h.2.2
end
def xorL(rs:List Nat):Nat:=rs.foldl (fun m r=>m^^^r) 0
theorem zp(rs:List Nat):∀ m,rs.foldl (fun m r=>m^^^r) m=m^^^xorL rs:=by
 induction rs with
 | nil=>intro m;show m=m^^^0;simp
 | cons r rs ih =>
   intro m;show rs.foldl (fun m r=>m^^^r) (m^^^r)=m^^^rs.foldl (fun m r=>m^^^r) (0^^^r)
   rw[ih,ih,Nat.zero_xor,Nat.xor_assoc]
theorem xorL_cons(rs:List Nat)(r:Nat):xorL (r::rs)=r^^^xorL rs:=by
 show rs.foldl (fun m r=>m^^^r) (0^^^r)=_
 rw[zp,Nat.zero_xor]
end Ring
namespace L2
open PySem PySem.Spec PyProof.Rows
section
variable {X:Cx}
def FW:R2:=fun x y H Q=>∃ a b xs ys,x = .ref a/\y = .ref b/\H a=some (.tup xs)/\H b=some (.tup ys)/\xs.length+ys.length<=sizeLine/\∀ p H',aq H H'->H' p=some (.tup (xs++ys))->Q (.ref p) H'
theorem Ii:jV X (binaryOp .Add) FW:=by
 intro pq s σ H x y v u Q I rx ry h;obtain⟨a,b,xs,ys,rfl,rfl,ha,hb,hz,q⟩:=h
 by_cases hx:xs=[]
 ·subst hx;cases rx;cases ry;obtain⟨its,r1,p1,_⟩:=I.tuple (bB.of ha);obtain⟨its2,r2,p2,_⟩:=I.tuple (bB.of hb);obtain⟨⟨cls,dd,data,sl⟩,ho,hc,n,hd⟩:=id p1;obtain⟨⟨Ht,dd2,data2,sl2⟩,ho2,hc2,n2,hd2⟩:=id p2;simp only at hc hd hc2 hd2;subst hc hd hc2 hd2;cases r1;exact concat_meets ⟨_,ho,rfl⟩ ⟨_,ho2,rfl⟩ noFill_tuple_add seq_tuple_add PySem.F.slot_tuple_add PySem.F.entry_tuple_add (PySem.F.args_tuple_add_2 _ _)
   (tuple_addW0 a b _ its2.toArray n n2 dd dd2 sl sl2 rfl) ⟨ho,ho2,⟨.ref b,H,I,rfl,q b H (aq.refl _) hb⟩⟩
 ·exact CP pq s σ H _ _ _ _ Q I rx ry ⟨a,b,xs,ys,rfl,rfl,bB.of ha,bB.of hb,hx,hz,fun z=>q a H (aq.refl _) (by rw[z,List.append_nil];exact ha),fun z p hp=>q p _ (aq.new hp) af⟩
end
end L2
namespace RM
variable {N:Net}{m t0:Nat}
theorem uO{left t n:Nat}(ht:t<n)(hb:left.testBit t=true):cnt (fun j=>left.testBit j) n=cnt (fun j=>(left^^^2^t).testBit j) n+1 :=
 oW (h:=t) hb ht fun x _=>by
  rw[Nat.testBit_xor,Nat.testBit_two_pow]
  by_cases e:x=t
  ·subst e;simp[hb]
  ·rw[dO e,dO (fun z=>e z.symm)]
   simp
variable {N:Net}{m t0:Nat}
def Net.D2(N:Net)(m:Nat):Prop:=∀ x,x<N.p->N.dg m x=0\/N.dg m x=2
theorem D2.Lk(h:N.D2 m):N.cP m:=fun x hx=>by
 rw[ym];refine dO ?_;rcases h x hx with e|e<;>lia
theorem Bk(C:Nat->Bool):∀ n,sm (fun x=>if C x=true then 2 else 0) n=2*cnt C n:=fun n=>by
 rw[fF];have:sm (fun k=>if C k=true then 2 else 0) n=sm (fun k=>(if C k=true then 1 else 0)+(if C k=true then 1 else 0)) n:=dw fun k _=>by
  by_cases h:C k=true
  ·rw[if_pos h,if_pos h]
  ·rw[if_neg h,if_neg h]
 rw[this,mC]
 lia
theorem Dz(hm:m<2^N.n)(r:N.Ring m):N.D2 m:=by
 obtain⟨k0,hk0,hb0,hall⟩:=kP hm r;generalize hs:N.aC (fun k=>m.testBit k) N.n (N.a k0)=s at hall
 have hC:∀ x,x<N.p->(fun x=>decide (N.aC (fun k=>m.testBit k) N.n x=s)) x=decide (N.aC (fun k=>m.testBit k) N.n x=s):=fun x _=>rfl
 obtain⟨h2,hl,zm⟩:=uM (s:=s) hm r _ hC (fun k hk hb=>cN (hall k hk hb))
 generalize Rz:(fun x=>decide (N.aC (fun k=>m.testBit k) N.n x=s))=C at hC h2 hl zm
 have none:∀ x,x<N.p->C x=false->N.dg m x=0:=fun x hx hc=>by
  cases hz:N.dg m x with
  | zero=>rfl
  | succ d =>
    exfalso
    obtain⟨k,hk,hb,Ct⟩:=oh (N:=N) (m:=m) (x:=x) (by lia)
    rw[hC x hx]at hc;refine of_decide_eq_false hc ?_;rcases Ct with e|e
    ·rw[<-e];exact hall k hk hb
    ·rw[<-e,<-fC (S:=fun k=>m.testBit k) hk hb]
     exact hall k hk hb
 have pos:∀ x,x<N.p->C x=true->0<N.dg m x:=fun x hx hc=>by
  cases hz:N.dg m x with
  | succ d=>lia
  | zero =>
    exfalso
    obtain⟨y,hy,Ep,hne⟩:∃ y,y<N.p/\C y=true/\y≠x:=by
     obtain⟨c,d,h1,h3,h4,h5⟩:=j6 h2
     by_cases e:c=x
     ·exact⟨d,h3,h5,by lia⟩
     ·exact⟨c,by lia,h4,e⟩
    rw[hC x hx]at hc;rw[hC y hy]at Ep;exact hne (alone hz (aX _ _ _ ((kr hc).trans (kr Ep).symm)))
 have hle:∀ x,x<N.p->(if C x=true then 2 else 0)<=N.dg m x:=fun x hx=>by
  by_cases hc:C x=true
  ·rw[if_pos hc];have h1:=pos x hx hc;have h3:=n6 r.2.1 hx
   lia
  ·rw[if_neg hc];exact Nat.zero_le _
 have he:sm (fun x=>if C x=true then 2 else 0) N.p=sm (fun x=>N.dg m x) N.p:=by
  rw[Bk,sE,hl]
 intro x hx;have:=Bh hle he x hx
 by_cases hc:C x=true
 ·rw[if_pos hc]at this;exact .inr this.symm
 ·rw[if_neg hc]at this;exact .inl this.symm
theorem pC{left n:Nat}(hl:left<2^n):cnt (fun j=>left.testBit j) n=0↔left=0:=by
 constructor
 ·intro h;apply Classical.byContradiction;intro h0;obtain⟨j,hj⟩:=Nat.exists_testBit_of_ne_zero h0;have:=iI (f:=fun j=>left.testBit j) hj (eE hl hj)
  lia
 ·rintro rfl;rw[fF];refine(dw fun k _=>?_).trans (nZ n)
  rw[if_neg (by rw[Nat.zero_testBit];simp)]
end RM
namespace Ring
open PySem L2
theorem pD{H:Hp}{xs:List V}{p:Nat}{ts:List cJ}{g:aB p ts}{k:Nat}(h3:Paired (TupAt H) xs ts)(hk:k<ts.length):∃ c,xs[k]?=some (.ref c)/\H c=some (.tup [.int ((g.N.a k:Nat):Int),.int ((g.N.b k:Nat):Int),.int (bz ts k).2.2]):=by
 have hkx:k<xs.length:=by rw[h3.length];exact hk
 obtain⟨t,ht,c,hc,hct⟩:=Paired.uw h3 (i:=k) (x:=xs[k]) (by simp[hkx])
 have Ij:t=bz ts k:=by
  have z:=my hk;rw[ht]at z;exact Option.some.inj z
 refine⟨c,by rw[<-hc];simp[hkx],?_⟩
 rw[hct,<-ye hk,<-yf hk,Ij];rfl
end Ring
namespace L2
open PySem PySem.Spec PyProof.Rows PySem.W
def qt(n:Nat){α:Type}(R:α->Prop):KasT α->Prop
 | .ret a=>R a
 | .ask i j k=>i<n/\j<n/\∀ b,qt n R (k b)
theorem qt.bind{n:Nat}{α β:Type}{R:α->Prop}{R' : β->Prop}{f:α->KasT β}:∀{t:KasT α},qt n R t->(∀ a,R a->qt n R' (f a))->qt n R' (t.bind f)
 | .ret a,h,g=>by
   rw[KasT.bind.eq_1];exact g a h
 | .ask i j k,h,g=>by
   rw[KasT.bind.eq_2];exact⟨h.1,h.2.1,fun b=>qt.bind (h.2.2 b) g⟩
def b9(n:Nat)(p:Array Nat):Prop:=p.toList.Perm (List.range n)
theorem b9.at{n:Nat}{p:Array Nat}(h:b9 n p)(hn:0<n)(x:Nat):p.getD x 0<n:=by
 unfold Array.getD
 split
 ·rename_i hx
  have:p[x]∈p.toList:=by simp
  exact List.mem_range.mp (h.mem_iff.mp this)
 ·exact hn
theorem zq{n:Nat}{p:Array Nat}(h:b9 n p)(i j:Nat):b9 n (p.swapIfInBounds i j):=by
 unfold Array.swapIfInBounds
 split
 ·split
  ·exact(Array.perm_iff_toList_perm.mp (Array.swap_perm _ _)).trans h
  ·exact h
 ·exact h
theorem mD{n:Nat}(f g:Nat->Nat):∀(l:List Nat) {p:Array Nat},b9 n p->b9 n (l.foldl (fun a k=>a.swapIfInBounds (f k) (g k)) p)
 | [],_,h=>h
 | k::l,_,h=>mD f g l (zq h (f k) (g k))
theorem jy{n:Nat}{p:Array Nat}(h:b9 n p)(i j:Nat):b9 n (kas_rev p i j):=mD _ _ _ h
theorem Bl{n:Nat}{p:Array Nat}(h:b9 n p)(i j:Nat):b9 n (bubble p i j):=mD _ _ _ h
theorem wB{n:Nat}{p:Array Nat}(h:b9 n p)(hn:0<n):∀ f x,qt n (fun _=>True) (kas_asc p f x)
 | 0,x=>by
   rw[kas_asc.eq_1];trivial
 | f+1,x=>by
   rw[kas_asc.eq_2];refine⟨h.at hn _,h.at hn _,fun b=>?_⟩
   cases b with
   | true=>trivial
   | false=>exact wB h hn f (x+1)
theorem om{n:Nat}(hn:0<n):∀ f {p:Array Nat} (x q:Nat),b9 n p->qt n (fun r:Array Nat×Nat×Nat=>b9 n r.1) (kas_desc f p x q)
 | 0,p,x,q,h=>by
   rw[kas_desc.eq_1];exact h
 | f+1,p,x,q,h=>by
   rw[kas_desc.eq_2];refine⟨h.at hn _,h.at hn _,fun b=>?_⟩
   cases b with
   | true =>
     show qt n _ (if q > 0 then _ else _)
     by_cases hq:q > 0
     ·rw[if_pos hq];exact om hn f _ _ (jy h _ _)
     ·rw[if_neg hq];exact om hn f _ _ h
   | false =>
     refine⟨h.at hn _,h.at hn _,fun b=>?_⟩
     cases b with
     | true=>exact h
     | false=>exact om hn f _ _ h
theorem yo{n:Nat}(hn:0<n){p:Array Nat}(h:b9 n p)(x r:Nat):qt n (fun r:Nat×Array Nat=>b9 n r.2) (kas_tail3 x r p) :=
 qt.bind (wB (jy h _ _) hn _ _) fun _ _=>jy h _ _
theorem yp{n:Nat}(hn:0<n){p:Array Nat}(h:b9 n p)(x r:Nat):qt n (fun r:Nat×Array Nat=>b9 n r.2) (kas_descPart x r p):=by
 refine qt.bind (om hn _ _ _ h) fun y hy=>?_
 by_cases hq:y.2.2 > 0
 ·rw[if_pos hq];exact yo hn (jy hy _ _) _ _
 ·rw[if_neg hq];exact yo hn hy _ _
theorem Bm{n:Nat}(hn:0<n){p:Array Nat}(h:b9 n p)(r:Nat):qt n (fun r:Nat×Array Nat=>b9 n r.2) (kas_count r p):=by
 refine qt.bind (wB h hn _ _) fun y _=>?_
 by_cases h1:(y==r)=true
 ·rw[if_pos h1];exact h
 ·rw[if_neg h1]
  by_cases h2:y > 1
  ·rw[if_pos h2];refine⟨h.at hn _,h.at hn _,fun b=>?_⟩
   cases b with
   | true=>exact h
   | false=>exact yp hn (jy h _ _) _ _
  ·rw[if_neg h2];exact yp hn h _ _
theorem pF{n:Nat}(hn:0<n){p:Array Nat}(h:b9 n p)(k:Nat):∀ f x y,qt n (fun _=>True) (kas_place p k f x y)
 | 0,x,y=>by
   rw[kas_place.eq_1];trivial
 | f+1,x,y=>by
   rw[kas_place.eq_2]
   by_cases hx:x ≥ y
   ·rw[if_pos hx];trivial
   ·rw[if_neg hx];refine⟨h.at hn _,h.at hn _,fun b=>?_⟩
    cases b with
    | true=>exact pF hn h k f _ _
    | false=>exact pF hn h k f _ _
theorem Bo{n:Nat}(hn:0<n):∀ f {p:Array Nat} (x:Nat),b9 n p->qt n (b9 n) (kas_bin f p x)
 | 0,p,x,h=>by
   rw[kas_bin.eq_1];exact h
 | f+1,p,x,h=>by
   rw[kas_bin.eq_2];exact qt.bind (pF hn h _ _ _ _) fun l _=>Bo hn f _ (Bl h _ _)
theorem yq{n:Nat}(hn:0<n):qt n (b9 n) (kas_sort n):=by
 unfold kas_sort;have h0:b9 n (List.range n).toArray:=by unfold b9;simp
 refine qt.bind (Bm hn h0 n) fun r hr=>?_
 by_cases hx:r.1<n
 ·rw[if_pos hx];exact Bo hn _ _ hr
 ·rw[if_neg hx];exact hr
def Er(h:Heap)(v:Value):Prop:=∃(a:Addr) (o:Obj) (x y:Int) (t u:Tok) (k:Nat),v = .ref a/\h.get? a=some o/\o.cls = .type "tuple"/\o.data = .seq #[.int x t,.int y u] k
theorem rJ{prog:Program}{w:World}{A:Around}{E:fD}{s:Shared}{vs:List Value}{Q:SortKind->Shared->Prop}(hn:0<vs.length)(hv:∀ v∈vs,Er s.heap v)(q:Q (tuples' true) s):wpAny (model prog w) A (keyKind' vs.toArray) Q E s:=by
 obtain⟨fs,hl,hf,hk⟩:∃ fs:List Value,fs.length=vs.length/\(∀ v∈fs,∃ x t,v=Value.int x t)/\KatTups s.heap vs fs:=by
  clear q hn
  induction vs with
  | nil=>exact⟨[],rfl,fun v hv=>(by cases hv),by rw[KatTups.eq_1];trivial⟩
  | cons v vs ih =>
    obtain⟨fs,h1,h2,h3⟩:=ih fun v Ik=>hv v (qi _ Ik)
    obtain⟨a,o,x,y,t,u,k,e,ho,hc,hd⟩:=hv v List.mem_cons_self;refine⟨.int x t::fs,by simp[h1],fun v' Ik=>?_,?_⟩
    ·rcases List.mem_cons.mp Ik with rfl|Ik
     ·exact⟨x,t,rfl⟩
     ·exact h2 v' Ik
    ·rw[KatTups.eq_2];exact⟨⟨a,o,_,k,e,ho,hc,hd,rfl⟩,h3⟩
 refine kat_kind (T:=.type "int") hk (by lia) (fun v hv=>?_) (by decide) q
 obtain⟨x,t,rfl⟩:=hf v hv;intro A Q E s _ q;exact wpAny_pure q
section
variable {X:Cx}{pq:aQ}{σ:St}{H:Hp}{s:Shared}{h' : Heap}
theorem Inv.Il{a:Addr}{o:HO}{t' : Nat}(I:Inv X pq σ H s)(k:∀ b u,b≠X.env.locals->s.heap.get? b=some u->h'.get? b=some u)(ns:∀ m,s.heap.Ns X.env.locals m->h'.Ns X.env.locals m)(hp:s.heap.objs.size<=a)(new:bu X.prog X.w (upd H a o) h' a o):
 Inv X pq σ (upd H a o) { s with heap:=h',toks:=t'}:=by
 have hn:H a=none:=I.hok.fresh hp;have nl:∀ b u,H b=some u->b≠X.env.locals:=fun b u e z=>by
  rw[z,I.free]at e;cases e
 refine I.step (g':=s.gens) (d':=s.drawn) (ch:=[]) (fun b hb=>absurd hb List.not_mem_nil) (fun b o hb _ _ e _=>k b o hb e) (fun b o hb _ _ e _=>⟨o.slots,k b o hb e⟩) (fun b u _ e n=>?_) (fun b o _ e=>?_) (fun b xs e=>?_) (fun b u xs e=>?_) (fun b ps e=>?_) ns (fun b u e=>?_) I.bare
 ·rw[ao (Nat.ne_of_lt (Nat.lt_of_lt_of_le (Heap.lt_size e) hp))];exact n
 ·by_cases hb:b=X.env.locals
  ·subst hb;obtain⟨m,hm,_⟩:=I.loc;obtain⟨o',es,ep,e',_⟩:=ns m hm;exact⟨o',e'⟩
  ·exact⟨o,k b o hb e⟩
 ·rw[ao (aU e hn)];exact e
 ·rw[ao (aU e hn)];exact e
 ·exact⟨#[],by rw[ao (aU e hn),e];simp⟩
 ·by_cases hb:b=a
  ·subst hb;rw[af]at e;cases e;exact new
  ·rw[ao hb]at e;refine(I.hok b u e).stay (fun c v hc q=>k c v ?_ q) (fun c q=>by rw[ao (aU q hn)];exact q) fun c xs q=>by rw[ao (aU q hn)];exact q
   rcases hc with rfl|hc
   ·exact nl _ _ e
   ·exact nl _ _ hc
theorem FY{h:Heap}{L:Addr}{m m' : jk}(a:h.Ns L m)(b:h.Ns L m'):m=m':=by
 obtain⟨o,es,ep,e,d,_,f⟩:=a;obtain⟨o',es',Jx,e',d',_,f'⟩:=b;rw[e]at e';cases e';rw[d]at d';cases d'
 funext x
 rw[<-f x,f' x]
end
theorem Bp{prog:Program}{w:World}{A:Around}{E:fD}{s:Shared}{a:Addr}{its:List Value}{n0:Nat}{P:PySem.Fin->Shared->Prop}(ho:s.heap.get? a=some (seqObj "list" its.toArray n0))(hn:its.length<2)
 (q:P (PySem.Fin.done (PySem.Flow.ret PySem.Value.none)) { s with heap:=sortedHeap s.heap a its its.toArray}):wpAny (model prog w) A (PySem.Builtin.«list.sort» { pos:=[PySem.Value.ref a]}) P E s:=by
 have hs1:its.length<=1000:=by lia
 have ht:its.toArray.size<=sizeLine:=by
  rw[List.size_toArray];exact dl (Nat.ble_eq.mpr hs1)
 rw[list_sort_plain];refine cE (listItems_at ho rfl ?_);refine cE (listUpdate_at ho rfl ?_ ht (Nat.zero_le _));obtain⟨n1,Cr⟩:∃ n1,(s.heap.update a (Obj.mapSeq fun _=>#[])).get? a=some (seqObj "list" #[] n1):=by
  exact⟨_,get?_update_seq ho fun _=>#[]⟩
 refine cE (seqEpoch_at Cr rfl ?_);refine cE (wpAny_newTuple ?_ (by simpa using ht))
 refine cE (wpAny_newList ?_ (Nat.zero_le _));refine wpAny_holding ?_;have hsz:its.toArray.size<2:=by simpa using hn
 simp only[hsz,↓reduceIte];refine cE (wpAny_pure ?_);refine cE (m:=pure ((),SortSt.mk' general' (its.toArray.zip its.toArray) #[] 7 none)) (wpAny_pure ?_);have Mv:(((s.heap.update a (Obj.mapSeq fun x=>#[])).push { cls:=Value.type "tuple",data:=Data.seq its.toArray}).push { cls:=Value.type "list",data:=Data.seq #[]}).get? a=some (seqObj "list" #[] n1):=by
  have h1:=Heap.lt_size Cr;rw[Heap.get?_push_ne _ _ _ (Nat.ne_of_lt (by rw[size_push'];exact Nat.lt_succ_of_lt h1)),Heap.get?_push_ne _ _ _ (Nat.ne_of_lt h1)]
  exact Cr
 refine cE (seqEpoch_at Mv rfl ?_);refine cE (listUpdate_at Mv rfl ?_ (Nat.zero_le _) ?_)
 ·show wpAny _ _ (if(n1 != n1)=true then _ else ret Value.none) _ _ _
  rw[if_neg (by simp)]
  refine wpAny_pure ?_;have e:Array.map (fun x:Keyed=>x.snd) (its.toArray.zip its.toArray)=its.toArray:=by
   simp;exact List.map_snd_zip (Nat.le_refl _)
  have e2:Array.map (fun x:Keyed=>x.snd) (arrOf (SortSt.mk' general' (its.toArray.zip its.toArray) #[] 7 none))=its.toArray:=e
  rw[e2];exact q
 ·have e:Array.map (fun x:Keyed=>x.snd) (its.toArray.zip its.toArray)=its.toArray:=by
   simp;exact List.map_snd_zip (Nat.le_refl _)
  have e2:Array.map (fun x:Keyed=>x.snd) (arrOf (SortSt.mk' general' (its.toArray.zip its.toArray) #[] 7 none))=its.toArray:=e
  show(Array.map (fun x:Keyed=>x.snd) (arrOf (SortSt.mk' general' (its.toArray.zip its.toArray) #[] 7 none))).size<=_
  rw[e2];exact Nat.le_succ_of_le ht
end L2
namespace RM
variable {N:Net}{row:Nat->Int}
theorem mE:∀{l L:List Nat},l.Nodup->(∀ x∈l,x∈L)->l.length<=L.length
 | [],_,_,_=>Nat.zero_le _
 | x::l,L,nd,h=>by
   have hx:=h x List.mem_cons_self;have JH:=List.nodup_cons.mp nd;have:=mE (L:=L.erase x) JH.2 fun y hy=>(List.mem_erase_of_ne (fun z:y=x=>JH.1 (by rw[<-z];exact hy))).mpr (h y (qi _ hy))
   rw[List.length_erase_of_mem hx]at this;have:=List.length_pos_of_mem hx;rw[List.length_cons]
   lia
def code(m:Nat):List Nat->Nat
 | []=>0
 | c::cs=>(if m.testBit c=true then 1 else 0)+2*code m cs
theorem sF(m:Nat):∀ cs,code m cs<2^cs.length
 | []=>Nat.one_pos
 | c::cs=>by
   have:=sF m cs;unfold code;rw[List.length_cons,Nat.pow_succ]
   split<;>lia
theorem code_inj{m q:Nat}:∀{cs},code m cs=code q cs->∀ c∈cs,m.testBit c=q.testBit c
 | [],_,c,hc=>by cases hc
 | d::cs,h,c,hc=>by
   unfold code at h;have h1:m.testBit d=q.testBit d:=by
    cases hm:m.testBit d<;>cases hq:q.testBit d
    ·rfl
    ·rw[hm,hq,if_neg Bool.false_ne_true,if_pos rfl]at h;lia
    ·rw[hm,hq,if_neg Bool.false_ne_true,if_pos rfl]at h;lia
    ·rfl
   rcases List.mem_cons.mp hc with rfl|hc
   ·exact h1
   ·rw[h1]at h;exact code_inj (by lia) c hc
theorem zu{l:List Nat}(nd:l.Nodup)(h:∀ m∈l,m<2^N.n/\N.Ring m):l.length<2^N.ay.length:=by
 have inj:∀ m q,m<2^N.n->q<2^N.n->N.cP m->N.cP q->code m N.ay=code q N.ay->m=q:=fun m q hm hq em eq e=>gj hm hq em eq fun c hc hf=>code_inj e c (bS.mpr ⟨hc,hf⟩)
 have Ll:((0:Nat)::l.map fun m=>code m N.ay).Nodup:=by
  refine List.nodup_cons.mpr ⟨fun z=>?_,?_⟩
  ·obtain⟨m,hm,e⟩:=List.mem_map.mp z;obtain⟨h1,h2⟩:=h m hm;have e0:code 0 N.ay=0:=by
    have:∀ cs,code 0 cs=0:=fun cs=>by
     induction cs with
     | nil=>rfl
     | cons c cs ih =>
       unfold code;rw[Nat.zero_testBit,ih,if_neg Bool.false_ne_true]
    exact this _
   exact h2.1 (inj m 0 h1 (Nat.two_pow_pos _) h2.2.1 cP.zero (by rw[e,e0]))
  ·refine List.Pairwise.map _ (fun a b (hab:a≠b/\a∈l/\b∈l)=>?_) ?_ (R:=fun a b=>a≠b/\a∈l/\b∈l)
   ·obtain⟨h1,h2⟩:=h a hab.2.1;obtain⟨h3,h4⟩:=h b hab.2.2;exact fun e=>hab.1 (inj a b h1 h3 h2.2.1 h4.2.1 e)
   ·exact List.Pairwise.imp_of_mem (fun {a b} ha hb hne=>⟨hne,ha,hb⟩) nd
 have:=mE (L:=List.range (2^N.ay.length)) Ll fun x hx=>by
  refine List.mem_range.mpr ?_;rcases List.mem_cons.mp hx with rfl|hx
  ·exact Nat.two_pow_pos _
  ·obtain⟨m,_,rfl⟩:=List.mem_map.mp hx;exact sF _ _
 rw[List.length_cons,List.length_map,List.length_range]at this
 lia
variable {N:Net}
variable {N:Net}
theorem FZ{m x0:Nat}(hm:m<2^N.n)(d2:N.D2 m)(Cu:x0<N.p)(hd0:N.dg m x0=2):
 N.Ring m↔∀ x,x<N.p->(N.aC (fun k=>m.testBit k) N.n x=N.aC (fun k=>m.testBit k) N.n x0↔N.dg m x=2):=by
 constructor
 ·intro r x hx;obtain⟨k0,hk0,hb0,hall⟩:=kP hm r;have on:∀ y,y<N.p->N.dg m y=2->N.aC (fun k=>m.testBit k) N.n y=N.aC (fun k=>m.testBit k) N.n (N.a k0):=fun y hy hd=>by
   obtain⟨k,hk,hb,Ct⟩:=oh (N:=N) (m:=m) (x:=y) (by lia)
   rw[<-hall k hk hb];rcases Ct with e|e
   ·rw[e]
   ·rw[<-e];exact(fC (S:=fun k=>m.testBit k) hk hb).symm
  constructor
  ·intro e;rcases d2 x hx with z|z
   ·exfalso
    have:=alone z (aX _ _ _ e);rw[this]at hd0
    lia
   ·exact z
  ·intro hd;rw[on x hx hd,on x0 Cu hd0]
 ·intro h;have hpos:∀ k,k<N.n->m.testBit k=true->N.aC (fun k=>m.testBit k) N.n (N.a k)=N.aC (fun k=>m.testBit k) N.n x0:=fun k hk hb=>by
   refine(h _ (N.al k hk)).mpr ?_;have h1:=pA hk hb (.inl rfl);rcases d2 _ (N.al k hk) with z|z
   ·lia
   ·exact z
  have hs:sm (fun x=>N.dg m x) N.p=2*cnt (fun x=>decide (N.aC (fun k=>m.testBit k) N.n x=N.aC (fun k=>m.testBit k) N.n x0)) N.p:=by
   rw[<-Bk];refine dw fun x hx=>?_
   by_cases e:N.aC (fun k=>m.testBit k) N.n x=N.aC (fun k=>m.testBit k) N.n x0
   ·rw[if_pos (cN e)];exact(h x hx).mp e
   ·rw[if_neg (by rw[dO e];decide)]
    rcases d2 x hx with z|z
    ·exact z
    ·exact absurd ((h x hx).mpr z) e
  have hl:cnt (fun x=>decide (N.aC (fun k=>m.testBit k) N.n x=N.aC (fun k=>m.testBit k) N.n x0)) N.p=cnt (fun k=>m.testBit k) N.n:=by
   rw[sE]at hs
   lia
  refine yn hm (D2.Lk d2) (fun x=>decide (N.aC (fun k=>m.testBit k) N.n x=N.aC (fun k=>m.testBit k) N.n x0)) (fun x _=>rfl) ?_ (fun k hk hb=>cN (hpos k hk hb)) hl
  rw[hl];have:N.dg m x0<=cnt (fun k=>m.testBit k) N.n:=wz fun k _ hk=>(Bool.and_eq_true_iff.mp hk).1
  lia
open Ring (xorL xorL_cons maskOf)
variable {N:Net}
theorem fm{z:Nat}:N.cP (N.cK z N.ay 0)/\N.cK z N.ay 0<2^N.n:=j4 fun c hc=>(bS.mp hc).1
theorem rK:N.ay.Nodup:=List.Pairwise.filter _ List.nodup_range
theorem zw:N.ay.Pairwise (· < ·):=List.Pairwise.filter _ List.pairwise_lt_range
theorem iJ{z j d:Nat}(h:N.ay[j]?=some d):(N.cK z N.ay 0).testBit d=z.testBit j:=by
 rw[uH rK (fun c hc=>(bS.mp hc).2) h,Nat.zero_add]
theorem pG{c:Nat}(hc:c<N.n)(hf:N.jj c=false):∃ j:Nat,N.ay[j]?=some c:=List.getElem?_of_mem (bS.mpr ⟨hc,hf⟩)
theorem wC(z y:Nat):N.cK (z^^^y) N.ay 0=N.cK z N.ay 0^^^N.cK y N.ay 0:=by
 refine gj fm.2 (Nat.xor_lt_two_pow fm.2 fm.2) fm.1 (cP.xor fm.1 fm.1) fun c hc hf=>?_
 obtain⟨j,hj⟩:=pG hc hf;rw[iJ hj,Nat.testBit_xor,Nat.testBit_xor,iJ hj,iJ hj]
theorem F0{m:Nat}(hm:m<2^N.n)(ev:N.cP m):∃ z,z<2^N.ay.length/\N.cK z N.ay 0=m:=by
 refine⟨maskOf (fun i=>m.testBit (N.ay.getD i 0)) N.ay.length,Ring.mask_lt _ _,gj fm.2 hm fm.1 ev fun c hc hf=>?_⟩
 obtain⟨j,hj⟩:=pG hc hf;rw[iJ hj,Ring.mask_bit];have hl:=(vM.mp hj).1;rw[cN hl,Bool.true_and,List.getD_eq_getElem?_getD,hj];rfl
theorem Bq{c j:Nat}(hc:c<N.n)(hf:N.jj c=false)(h:(N.ring c).testBit j=true):j<=c:=by
 have Lm:N.cM c (N.a c)=N.cM c (N.b c):=by
  unfold Net.jj at hf
  simpa using hf
 have low:∀ k,(N.trail c (N.a c)^^^N.trail c (N.b c)^^^2^c).testBit k=true->k<=c/\(k=c\/N.jj k=true):=fun k hk=>by
  rw[Nat.testBit_xor,Nat.testBit_xor,Nat.testBit_two_pow]at hk
  by_cases e:c=k
  ·exact⟨by lia,.inl e.symm⟩
  ·rw[dO e,Bool.xor_false]at hk;cases h1:(N.trail c (N.a c)).testBit k with
   | true=>exact⟨Nat.le_of_lt (cD _ _ _ h1).1,.inr (cD _ _ _ h1).2⟩
   | false =>
     rw[h1,Bool.false_xor]at hk;exact⟨Nat.le_of_lt (cD _ _ _ hk).1,.inr (cD _ _ _ hk).2⟩
 have e:N.ring c=N.trail c (N.a c)^^^N.trail c (N.b c)^^^2^c:=by
  refine gj (nY hc) (iH fun k hk=>Nat.lt_of_le_of_lt (low k hk).1 hc) (ic hc) (fun x hx=>?_) fun d hd hfd=>?_
  ·rw[e8,e8,jw c (Nat.le_of_lt hc),jw c (Nat.le_of_lt hc),fE hc,Lm];unfold Net.inc;cases decide (N.a c=x)<;>cases decide (N.b c=x)<;>cases decide (N.cM c (N.b c)=x)<;>rfl
  ·rw[fc hf hfd];cases q:(N.trail c (N.a c)^^^N.trail c (N.b c)^^^2^c).testBit d with
   | true =>
     rcases(low d q).2 with z|z
     ·rw[z];simp
     ·rw[hfd]at z;cases z
   | false =>
     refine dO fun z=>?_
     subst z;rw[Nat.testBit_xor,Nat.testBit_xor,Nat.testBit_two_pow,cN rfl]at q;have t1:(N.trail c (N.a c)).testBit c=false:=by
      cases h1:(N.trail c (N.a c)).testBit c with
      | false=>rfl
      | true=>exact absurd (cD _ _ _ h1).1 (Nat.lt_irrefl _)
     have t2:(N.trail c (N.b c)).testBit c=false:=by
      cases h1:(N.trail c (N.b c)).testBit c with
      | false=>rfl
      | true=>exact absurd (cD _ _ _ h1).1 (Nat.lt_irrefl _)
     rw[t1,t2]at q;cases q
 rw[e]at h;exact(low j h).1
theorem rL{z j:Nat}:∀{l:List Nat} {i:Nat},(N.cK z l i).testBit j=true->∃ k c,l[k]?=some c/\z.testBit (i+k)=true/\(N.ring c).testBit j=true
 | [],_,h=>by simp[Net.cK]at h
 | c::r,i,h=>by
   unfold Net.cK at h;rw[Nat.testBit_xor]at h
   by_cases q:z.testBit i=true/\(N.ring c).testBit j=true
   ·exact⟨0,c,rfl,by simpa using q.1,q.2⟩
   ·have z0:(if z.testBit i=true then N.ring c else 0).testBit j=false:=by
     split
     ·next hz=>cases e:(N.ring c).testBit j with
       | false=>rfl
       | true=>exact absurd ⟨hz,e⟩ q
     ·simp
    rw[z0,Bool.false_xor]at h;obtain⟨k,d,h1,h2,h3⟩:=rL h;exact⟨k+1,d,by simpa using h1,by rw[show i+(k+1)=i+1+k by lia];exact h2,h3⟩
theorem yr{x y:Nat}(i:Nat)(h1:x.testBit i=false)(h2:y.testBit i=true)(h:∀ j,i<j->x.testBit j=y.testBit j):x<y:=by
 have hq:x/2^(i+1)=y/2^(i+1):=Nat.eq_of_testBit_eq fun j=>by
  rw[Nat.testBit_div_two_pow,Nat.testBit_div_two_pow];exact h _ (by lia)
 have hx:x%2^(i+1)<2^i:=Nat.lt_pow_two_of_testBit _ fun k hk=>by
  rw[Nat.testBit_mod_two_pow]
  by_cases e:k=i
  ·subst e;rw[h1,Bool.and_false]
  ·rw[dO (by lia),Bool.false_and]
 have hy:2^i<=y%2^(i+1):=Nat.ge_two_pow_of_testBit (by rw[Nat.testBit_mod_two_pow,h2,cN (Nat.lt_succ_self _)];rfl)
 have e1:=Nat.div_add_mod x (2^(i+1));have e2:=Nat.div_add_mod y (2^(i+1));rw[hq]at e1
 lia
theorem DA{z y:Nat}(h:z<y)(hy:y<2^N.ay.length):N.cK z N.ay 0<N.cK y N.ay 0:=by
 have hd:z^^^y≠0:=fun e=>by
  have:z=y:=by
   have:=congrArg (· ^^^ y) e
   simpa[Nat.xor_assoc]using this
  lia
 have top:=Nat.testBit_log2 hd;have above:∀ k,(z^^^y).log2<k->(z^^^y).testBit k=false:=fun k hk=>Nat.testBit_lt_two_pow (Nat.lt_of_lt_of_le (Nat.lt_log2_self) (Nat.pow_le_pow_right (by decide) hk))
 generalize hi:(z^^^y).log2=i at top above;have same:∀ k,i<k->z.testBit k=y.testBit k:=fun k hk=>by
  have:=above k hk;rw[Nat.testBit_xor]at this;cases hz:z.testBit k<;>cases hy:y.testBit k<;>rw[hz,hy]at this<;>first | rfl | cases this
 have zi:z.testBit i=false/\y.testBit i=true:=by
  rw[Nat.testBit_xor]at top;cases hz:z.testBit i with
  | false =>
    rw[hz,Bool.false_xor]at top;exact⟨rfl,top⟩
  | true =>
    have OM:y.testBit i=false:=by
     cases q:y.testBit i with
     | false=>rfl
     | true=>rw[hz,q]at top;cases top
    exact absurd (yr i OM hz fun k hk=>(same k hk).symm) (by lia)
 have DB:i<N.ay.length:=eE hy zi.2;have hc:N.ay[i]?=some N.ay[i]:=List.getElem?_eq_getElem DB;refine yr N.ay[i] (by rw[iJ hc];exact zi.1) (by rw[iJ hc];exact zi.2) fun j hj=>?_
 have e0:(N.cK (z^^^y) N.ay 0).testBit j=false:=by
  cases q:(N.cK (z^^^y) N.ay 0).testBit j with
  | false=>rfl
  | true =>
    obtain⟨k,c,h1,h2,h3⟩:=rL q;rw[Nat.zero_add]at h2;have hk:k<=i:=by
     by_cases hk:k<=i
     ·exact hk
     ·rw[above k (by lia)]at h2
      cases h2
    obtain⟨kM,hkc⟩:=vM.mp h1;obtain⟨c1,c2⟩:=bS.mp (vU h1);have l1:=Bq c1 c2 h3;have l2:c<=N.ay[i]:=by
     by_cases e:k=i
     ·subst e;exact Nat.le_of_eq hkc.symm
     ·rw[<-hkc];exact Nat.le_of_lt (List.pairwise_iff_getElem.mp zw k i kM DB (by lia))
    lia
 rw[wC,Nat.testBit_xor]at e0;cases h1:(N.cK z N.ay 0).testBit j<;>cases h2:(N.cK y N.ay 0).testBit j<;>rw[h1,h2]at e0<;>first | rfl | cases e0
theorem DC:N.cK 0 N.ay 0=0:=by
 have h:=wC (N:=N) 0 0;rw[Nat.xor_self,Nat.xor_self]at h;exact h
theorem zx{c:Nat}(hc:c<N.n)(hf:N.jj c=false):N.Ring (N.ring c):=by
 refine⟨fun z=>?_,ic hc,fun q hq ev=>?_⟩
 ·have h:=oV hf;rw[z]at h;simp at h
 ·have hqn:q<2^N.n:=iH fun k hk=>eE (nY hc) (hq k hk)
  cases qc:q.testBit c with
  | true =>
    refine .inr (gj hqn (nY hc) ev (ic hc) fun d hd hfd=>?_)
    rw[fc hf hfd]
    by_cases e:c=d
    ·subst e;simp[qc]
    ·rw[dO e];cases qd:q.testBit d with
     | false=>rfl
     | true =>
       have:=hq d qd;rw[fc hf hfd,dO e]at this;cases this
  | false =>
    refine .inl (iG (fun k hk=>?_) ev)
    rcases jx (hq k hk) with e|e
    ·subst e;rw[qc]at hk;cases hk
    ·exact e
def lsum(L:Nat->Int)(f:Nat->Bool):Nat->Int
 | 0=>0
 | n+1=>lsum L f n+(if f n=true then L n else 0)
section
variable {L:Nat->Int}
theorem pH{f g:Nat->Bool}:∀{n:Nat},(∀ k,k<n->f k=g k)->lsum L f n=lsum L g n
 | 0,_=>rfl
 | n+1,h=>by
   unfold lsum;rw[pH fun k hk=>h k (by lia),h n (by lia)]
theorem rM{f:Nat->Bool}:∀{n:Nat},(∀ k,k<n->f k=false)->lsum L f n=0
 | 0,_=>rfl
 | n+1,h=>by
   unfold lsum;rw[rM fun k hk=>h k (by lia),h n (by lia)]
   simp
theorem uP{f:Nat->Bool}{a:Nat}:∀{n:Nat},a<n->(∀ k,k<n->f k=decide (k=a))->lsum L f n=L a
 | 0,h,_=>by lia
 | n+1,ha,h=>by
   unfold lsum
   by_cases e:a=n
   ·subst e;rw[rM fun k hk=>by rw[h k (by lia)];exact dO (by lia),h a (by lia),cN rfl]
    simp
   ·rw[uP (show a<n by lia) fun k hk=>h k (by lia),h n (by lia),dO (by lia)]
    simp
theorem pI{f g:Nat->Bool}:∀{n:Nat},(∀ k,k<n->f k=true->g k=false)->lsum L (fun k=>f k^^g k) n=lsum L f n+lsum L g n
 | 0,_=>rfl
 | n+1,h=>by
   unfold lsum;rw[pI (f:=f) (g:=g) (n:=n) fun k hk=>h k (by lia)]
   have hn:=h n (by lia)
   cases hf:f n with
   | false=>cases g n<;>simp<;>lia
   | true=>rw[hn hf];simp;lia
theorem uQ{k n:Nat}(h:k<n):lsum L (fun j=>(2^k).testBit j) n=L k:=uP h fun j _=>by
 rw[Nat.testBit_two_pow];exact decide_eq_decide.mpr eq_comm
end
end RM
namespace Ring
open PySem L2
def lJ(ts:List cJ)(k:Nat):Int:=(bz ts k).2.2
theorem rN(ts:List cJ)(f:Nat->Bool):∀ n,zj ts f n=RM.lsum (lJ ts) f n
 | 0=>rfl
 | n+1=>by
   show zj ts f n+_=RM.lsum (lJ ts) f n+_;rw[rN ts f n];rfl
theorem wD{ts:List cJ}{m:Nat}(hm:m<2^ts.length):lenOf ts m=RM.lsum (lJ ts) (fun k=>m.testBit k) ts.length:=by
 rw[zk hm,rN]
end Ring
namespace RM
open Ring (maskOf mask_bit mask_lt)
theorem jz{a b:Nat}(h:a^^^b=0):a=b:=by
 have:=congrArg (fun y=>y^^^b) h
 simp only[Nat.zero_xor]at this
 rwa [Nat.xor_assoc,Nat.xor_self,Nat.xor_zero]at this
section
variable {N:Net}
theorem DE{f:Nat->Nat}{a b:Nat}(hf:∀ z,z<2^a->f z<2^b)(inj:∀ z y,z<2^a->y<2^a->f z=f y->z=y):a<=b:=by
 have nd:((List.range (2^a)).map f).Nodup:=by
  refine List.pairwise_map.mpr ?_;refine List.Pairwise.imp_of_mem (fun {z y} hz hy hne e=>?_) List.nodup_range
  exact hne (inj z y (List.mem_range.mp hz) (List.mem_range.mp hy) e)
 have:=Bf nd fun x hx=>by
  obtain⟨z,hz,rfl⟩:=List.mem_map.mp hx;exact hf z (List.mem_range.mp hz)
 rw[List.length_map,List.length_range]at this;exact(Nat.pow_le_pow_iff_right (by decide)).mp this
def meets(ks:List Nat)(m:Nat):Nat:=maskOf (fun i=>m.testBit (ks.getD i 0)) ks.length
theorem Br(ks:List Nat)(m:Nat):meets ks m<2^ks.length:=mask_lt _ _
theorem zy{ks:List Nat}{m i k:Nat}(h:ks[i]?=some k):(meets ks m).testBit i=m.testBit k:=by
 unfold meets;rw[mask_bit,List.getD_eq_getElem?_getD,h,cN (vM.mp h).1];rfl
theorem DF{ks:List Nat}(h:∀ m,m<2^N.n->N.cP m->(∀ k∈ks,m.testBit k=false)->m=0):N.ay.length<=ks.length:=by
 refine DE (f:=fun z=>meets ks (N.cK z N.ay 0)) (fun z _=>Br _ _) fun z y hz hy e=>?_
 have h1:=j4 (N:=N) (number:=z) (l:=N.ay) (i:=0) fun c hc=>(bS.mp hc).1
 have h2:=j4 (N:=N) (number:=y) (l:=N.ay) (i:=0) fun c hc=>(bS.mp hc).1
 have e0:N.cK z N.ay 0=N.cK y N.ay 0:=jz (h _ (Nat.xor_lt_two_pow h1.2 h2.2) (cP.xor h1.1 h2.1) fun k hk=>by
  obtain⟨j,hj⟩:=List.getElem?_of_mem hk;have e:meets ks (N.cK z N.ay 0)=meets ks (N.cK y N.ay 0):=e;have:=congrArg (fun x=>x.testBit j) e
  simp only[zy hj]at this;rw[Nat.testBit_xor,this,Bool.xor_self])
 refine Nat.eq_of_testBit_eq fun j=>?_
 by_cases hj:j<N.ay.length
 ·have hc:N.ay[j]?=some N.ay[j]:=List.getElem?_eq_getElem hj;rw[<-iJ hc,<-iJ hc,e0]
 ·rw[Nat.testBit_lt_two_pow (Nat.lt_of_lt_of_le hz (Nat.pow_le_pow_right (by decide) (by lia))),Nat.testBit_lt_two_pow (Nat.lt_of_lt_of_le hy (Nat.pow_le_pow_right (by decide) (by lia)))]
end
end RM
namespace Ring
open PySem L2
theorem take3{α:Type}{l:List α}{i:Nat}{q:α}(h:l[i]?=some q):l.take (i+1)=l.take i++[q]:=by
 rw[List.take_add_one,h];rfl
end Ring
namespace L2
open PySem PySem.Spec PyProof.Rows
theorem wF{K:bw}{a:Addr}{xs:List V}{g:TG}{tt:TT}{te:TE}{n:Nat}{fr:St}{D:Addr}{Q:Hp->Prop}{H1:Hp}(Pv:Nat->List V->Hp->Prop)(h0:Pv 0 [] H1)(hl:∀ i acc H,i<=xs.length->Pv i acc H->aR K H a xs/\H D=some (.lst acc)/\acc.length<=i)(hz:xs.length<=sizeLine)
 (hs:∀ i x T acc H,xs[i]?=some x->Pv i acc H->H T=none->g (.ref T) (List.replicate n none++fr) (upd H T (.tup [.int (i:Int),x])) fun σ2 H2=>σ2.drop n=fr/\tt σ2 H2 fun b H3 =>
  if b=true then te σ2 H3 fun v H4=>H4 D=some (.lst acc)/\Pv (i+1) (acc++[v]) (upd H4 D (.lst (acc++[v]))) else Pv (i+1) acc H3)
 (hd:∀ acc H,Pv xs.length acc H->Q H):hU (La K a) g tt te n fr D Q H1:=by
 refine⟨fun i m acc H=>m=xs.length-i/\i<=xs.length/\Pv i acc H,⟨xs.length,by simp,Nat.zero_le _,h0⟩,?_⟩
 rintro i m acc H ⟨rfl,hi,p⟩;obtain⟨q,hD,ha⟩:=hl i acc H hi p;refine⟨hD,?_⟩
 by_cases hlt:i<xs.length
 ·refine .inr ⟨⟨xs,xs[i],q,by simp[hlt]⟩,by lia,Pv (i+1),fun acc' H' p'=>⟨xs.length-(i+1),by lia,rfl,hlt,p'⟩,fun v H' y=>?_⟩
  obtain⟨T,x,rfl,hT,rfl,y⟩:=y;exact hs i x T acc _ (y xs q) p hT
 ·have e:i=xs.length:=by lia
  subst e;exact .inl ⟨⟨xs,q,Nat.le_refl _⟩,hd acc H p⟩
end L2
namespace RM
variable {N:Net}{S:Nat->Bool}
def pJ(N:Net)(S:Nat->Bool)(L:Nat->Nat)(k:Nat):Prop:=∀ x y,x<N.p->y<N.p->(L x=L y↔N.aC S k x=N.aC S k y)
theorem pJ.start:pJ N S (fun x=>x) 0:=fun _ _ _ _=>Iff.rfl
theorem pJ.skip{L:Nat->Nat}{k:Nat}(h:pJ N S L k)(hs:S k=false):pJ N S L (k+1):=by
 intro x y hx hy;rw[dW,if_neg (by rw[hs];decide)]
 exact h x y hx hy
theorem pJ.put{L:Nat->Nat}{k:Nat}(h:pJ N S L k)(hk:k<N.n)(hs:S k=true):pJ N S (FP L (N.a k) (N.b k)) (k+1):=by
 intro x y hx hy;have ha:=N.al k hk;have hb:=N.bl k hk;rw[dW,if_pos hs,Dv,Bg,h x y hx hy,h x _ hx ha,h y _ hy hb,h x _ hx hb,h y _ hy ha]
open Classical in
theorem yt(val:Nat->Int):∀ n,(PyProof.Rows.firstMet val n).length=cnt (fun i=>!decide (∃ j,j<i/\val j=val i)) n/\∀ z,z∈PyProof.Rows.firstMet val n↔∃ j,j<n/\val j=z
 | 0=>by
   rw[PyProof.Rows.firstMet_zero];exact⟨rfl,fun z=>⟨fun h=>(nomatch h),fun⟨j,hj,_⟩=>absurd hj (Nat.not_lt_zero _)⟩⟩
 | n+1=>by
   obtain⟨h1,h2⟩:=yt val n;rw[PyProof.Rows.firstMet_succ];unfold PyProof.Rows.step_dedup;have hm:=h2 (val n);have ha:((PyProof.Rows.firstMet val n).any fun x=>x==val n)=true↔val n∈PyProof.Rows.firstMet val n:=by simp
   have mem:∀ z,(∃ j,j<n+1/\val j=z)↔(∃ j,j<n/\val j=z)\/val n=z:=fun z=>by
    constructor
    ·rintro⟨j,hj,e⟩
     by_cases ej:j=n
     ·subst ej;exact .inr e
     ·exact .inl ⟨j,by lia,e⟩
    ·rintro(⟨j,hj,e⟩|e)
     ·exact⟨j,by lia,e⟩
     ·exact⟨n,by lia,e⟩
   by_cases hin:val n∈PyProof.Rows.firstMet val n
   ·rw[if_pos (ha.mpr hin)];refine⟨?_,fun z=>?_⟩
    ·show _=cnt _ n+(if(!decide (∃ j,j<n/\val j=val n))=true then 1 else 0)
     rw[h1,cN (hm.mp hin)];rfl
    ·rw[mem,h2];exact⟨.inl,fun h=>h.elim id fun e=>e▸hm.mp hin⟩
   ·rw[if_neg (fun z=>hin (ha.mp z))]
    refine⟨?_,fun z=>?_⟩
    ·show _=cnt _ n+(if(!decide (∃ j,j<n/\val j=val n))=true then 1 else 0)
     rw[List.length_append,h1,dO (fun z=>hin (hm.mpr z))]
     rfl
    ·rw[mem,List.mem_append,h2];exact⟨fun h=>h.elim .inl fun e=>.inr (List.mem_singleton.mp e).symm,fun h=>h.elim .inl fun e=>.inr (by simp[e])⟩
theorem DG{L:Nat->Nat}(h:pJ N S L N.n):(PyProof.Rows.firstMet (fun i=>((L i:Nat):Int)) N.p).length=cnt (N.root S N.n) N.p:=by
 rw[(yt _ N.p).1];refine dU fun x hx=>?_
 unfold Net.root;rw[Bool.eq_iff_iff,Bool.not_eq_true',decide_eq_false_iff_not,decide_eq_true_iff]
 constructor
 ·intro hn;apply Classical.byContradiction;intro hne;have hle:=jZ (N:=N) (S:=S) N.n x;have hlt:N.aC S N.n x<x:=by lia
  exact hn ⟨N.aC S N.n x,hlt,by
   have:=(h (N.aC S N.n x) x (by lia) hx).mpr (bx N.n x)
   rw[this]⟩
 ·rintro hr ⟨j,hj,e⟩;have e:L j=L x:=by lia
  have e2:=(h j x (by lia) hx).mp e
  have:=jZ (N:=N) (S:=S) N.n j
  lia
theorem Bs{m:Nat}(hm:m<2^N.n)(h0:m≠0)(d2:N.D2 m):N.Ring m↔cnt (N.root (fun k=>m.testBit k) N.n) N.p+cnt (fun x=>decide (N.dg m x=2)) N.p=N.p+1:=by
 have hR:∀ x,x<N.p->N.dg m x=0->N.root (fun k=>m.testBit k) N.n x=true:=fun x hx hd=>by
  unfold Net.root;rw[decide_eq_true_iff];exact alone hd (aX _ _ _ (bx N.n x).symm)
 have split:cnt (N.root (fun k=>m.testBit k) N.n) N.p=cnt (fun x=>!decide (N.dg m x=2)) N.p+cnt (fun x=>decide (N.dg m x=2)&&N.root (fun k=>m.testBit k) N.n x) N.p:=by
  rw[<-pe (fun x hx=>by cases decide (N.dg m x=2)<;>simp)]
  refine dU fun x hx=>?_
  rcases d2 x hx with h|h
  ·rw[hR x hx h,dO (by lia)]
   rfl
  ·rw[cN h];simp
 have cn:=gx (fun x=>decide (N.dg m x=2)) N.p
 obtain⟨k0,hk0⟩:∃ k,m.testBit k=true:=by
  apply Classical.byContradiction;intro h;exact h0 (Nat.eq_of_testBit_eq fun i=>by
   rw[Nat.zero_testBit];cases e:m.testBit i with
   | false=>rfl
   | true=>exact absurd ⟨i,e⟩ h)
 have hkn:=eE hm hk0;have Cu:=N.al k0 hkn;have hd0:N.dg m (N.a k0)=2:=by
  have:=pA hkn hk0 (.inl rfl:N.a k0=N.a k0\/N.b k0=N.a k0);rcases d2 _ Cu with h|h<;>lia
 rw[FZ hm d2 Cu hd0];generalize hx:N.a k0=x0 at Cu hd0;have up:∀ x,x<N.p->N.dg m x=2->N.dg m (N.aC (fun k=>m.testBit k) N.n x)=2:=fun x hx hd=>by
  have hl:=gy (N:=N) (S:=fun k=>m.testBit k) (k:=N.n) hx
  rcases d2 _ hl with h|h
  ·have e:x=N.aC (fun k=>m.testBit k) N.n x:=alone h (aX _ _ _ (bx N.n x))
   rw[<-e]at h
   lia
  ·exact h
 have r0:N.aC (fun k=>m.testBit k) N.n x0<N.p:=gy Cu
 constructor
 ·intro h;have one:cnt (fun x=>decide (N.dg m x=2)&&N.root (fun k=>m.testBit k) N.n x) N.p=1:=by
   have:cnt (fun x=>decide (N.dg m x=2)&&N.root (fun k=>m.testBit k) N.n x) N.p=cnt (fun x=>decide (N.aC (fun k=>m.testBit k) N.n x0=x)) N.p:=dU fun x hx=>by
    rw[Bool.eq_iff_iff,Bool.and_eq_true,decide_eq_true_iff,decide_eq_true_iff];unfold Net.root;rw[decide_eq_true_iff]
    constructor
    ·rintro⟨h1,h2⟩;rw[<-(h x hx).mpr h1];exact h2
    ·rintro rfl;exact⟨up x0 Cu hd0,bx N.n x0⟩
   rw[this,o9,if_pos r0]
  lia
 ·intro h x hx;have one:cnt (fun x=>decide (N.dg m x=2)&&N.root (fun k=>m.testBit k) N.n x) N.p=1:=by lia
  have ON:(decide (N.dg m (N.aC (fun k=>m.testBit k) N.n x0)=2)&&N.root (fun k=>m.testBit k) N.n (N.aC (fun k=>m.testBit k) N.n x0))=true:=by
   rw[Bool.and_eq_true,decide_eq_true_iff];unfold Net.root;rw[decide_eq_true_iff];exact⟨up x0 Cu hd0,bx N.n x0⟩
  constructor
  ·intro e;rcases d2 x hx with h|h
   ·have e2:x0=x:=alone h (aX _ _ _ e);rw[<-e2]at h
    lia
   ·exact h
  ·intro hd;have OO:(decide (N.dg m (N.aC (fun k=>m.testBit k) N.n x)=2)&&N.root (fun k=>m.testBit k) N.n (N.aC (fun k=>m.testBit k) N.n x))=true:=by
    rw[Bool.and_eq_true,decide_eq_true_iff];unfold Net.root;rw[decide_eq_true_iff];exact⟨up x hx hd,bx N.n x⟩
   apply Classical.byContradiction;intro hne;have:=n5 (f:=fun x=>decide (N.dg m x=2)&&N.root (fun k=>m.testBit k) N.n x) OO ON hne (gy hx) r0
   lia
end RM
namespace L2
open PySem PySem.Spec PyProof.Rows
def fG(q:Str)(pos:Pos):Array Value:=#[.str q 0,rawInt pos.line,rawInt pos.col]
def lK(pos:Pos)(c:Addr):Array Value:=#[rawInt pos.line,rawInt pos.col,.ref c]
def fP(H:Hp)(P c:Addr)(oc:Obj)(q:Str)(pos:Pos):Hp:=upd (upd H c (.m9 oc (.own P))) P (.jU (fG q pos++lK pos c))
def given(H:Hp)(P c:Addr)(q:Str)(pos:Pos):Hp:=upd (upd H c (.own P)) P (.jU (fG q pos))
def CodeObj(oc:Obj)(q:Str):Prop:=∃ vs t,oc.data = .fields vs/\vs[1]?=some (.str q t)
theorem CodeObj.rec{h:Heap}{c:Addr}{oc:Obj}{q:Str}(x:CodeObj oc q)(e:h.get? c=some oc):h.CodeRec (.ref c) q :=
 let⟨vs,t,e1,e2⟩:=x
 ⟨c,oc,vs,t,rfl,e,e1,e2⟩
theorem F1{P:Program}{w:World}{H:Hp}{h:Heap}{a:Addr}{q:Str}{pos:Pos}(x:bu P w H h a (.jU (fG q pos))):
 h.get? a=some (PySem.W.tabObj #[])\/∃ c oc,h.get? a=some (PySem.W.tabObj (lK pos c))/\H c=some (.own a)/\h.get? c=some oc/\CodeObj oc q:=by
 obtain⟨ps,e,f⟩:=x;rcases f with⟨_,f|⟨c,e1,e2,c',oc,vs,tq,hc,ho,hd,hv⟩⟩|⟨q',l,k,f,z⟩
 ·subst f;exact .inl e
 ·cases hc;subst e1;exact .inr ⟨c,oc,e,e2,ho,vs,tq,hd,hv⟩
 ·have:=congrArg Array.size f;rw[Array.size_append,z]at this;exact absurd this (by simp[fG])
theorem Bt{P:Program}{w:World}{H:Hp}{h:Heap}{a c:Addr}{q:Str}{pos:Pos}(x:bu P w H h a (.jU (fG q pos++lK pos c))):h.get? a=some (PySem.W.tabObj (lK pos c)):=by
 obtain⟨ps,e,f⟩:=x;rcases f with⟨f,_⟩|⟨q',l,k,f,z⟩
 ·rw[Array.size_append]at f;exact absurd f (by simp[fG,lK])
 ·have e2:=congrArg (fun a=>a.toList.drop 3) f
  simp only[Array.toList_append,fG,lK,List.cons_append,List.nil_append,List.drop_succ_cons,List.drop_zero]at e2;have e3:ps=lK pos c:=by
   apply Array.toList_inj.mp;exact e2.symm
  rw[<-e3];exact e
abbrev Bu(X:Cx)(params:Arguments)(body:Expr)(scope:Scope)(c:Addr)(ctv:Value):FuncData :=
 PySem.W.kla_fn "<lambda>" (X.env.qual ++ "<lambda>") params body scope (b7 X.env.cells scope.names []) ((X.mg "__name__").getD .none) (.ref c) ctv
abbrev gR(X:Cx)(params:Arguments)(body:Expr)(scope:Scope)(c:Addr)(ctv:Value):Obj :=
 { cls:=.type "function",data:=.func (Bu X params body scope c ctv)}
section
variable {X:Cx}{pq:aQ}{σ:St}{H H2:Hp}{s:Shared}{params:Arguments}{body:Expr}{scope:Scope}{pos:Pos}{own fq:List Str}{js:List Nat}{c P:Addr}
theorem Bv{Q:fD}{E:fD}
 (I:Inv X pq σ H s) (T:dm X scope own fq js) (hcode:X.env.code = .ref c) (hK:PySem.W.codeHdIn X.K c P=true) (hP:H P=some (.jU (fG (X.env.qual ++ "<lambda>") pos)))
 (hdef:defaultsOf params X.env=([],[]))
 (h:∀ f c' oc ctv s',(H c' = none\/H c' = some (.own P))->c'≠P->CodeObj oc (X.env.qual ++ "<lambda>")->Inv X ((f,gR X params body scope c' ctv)::pq) σ (fP H P c' oc (X.env.qual ++ "<lambda>") pos) s'->Q (.ref f) s') :
 wpAny (model X.prog X.w) X.A (eval (.Lambda params body scope pos) X.env) Q E s:=by
 have Cu:=F1 (show bu X.prog X.w H s.heap P (.jU (fG (X.env.qual ++ "<lambda>") pos)) from I.hok P _ hP)
 have C:PySem.W.CodeHd s.heap c P:=PySem.W.codeHd_of_K I.qS hK;have hg:=I.mod.glob.keeps I.bk;have Mw:∀ b o,X.base.get? b=some o->b≠P:=fun b o q z=>by
  have:=(I.bs b o q).2;rw[z,hP]at this;cases this
 have hgP:mainGlobals≠P:=by
  obtain⟨o,es,ep,q,_⟩:=I.mod.glob;exact Mw _ o q
 have hb:s.heap.BuiltinsAt X.mg P:=by
  obtain⟨bm,ob,b1,b2,b3,b4,b5,b6⟩:=I.mod.bmain;refine⟨bm,ob,b1,b2,fun z=>?_,Mw _ _ b3,I.bk _ _ b3,b4,b5,b6⟩
  obtain⟨o,es,ep,q,hd,_⟩:=I.mod.glob;rw[z,q]at b3;cases b3;rw[hd]at b6;cases b6
 have hcl:=kL (eZ I T);have fin:∀(f c' : Addr) (oc:Obj) (ctv:Value) (h2:Heap) (tk:Nat),(H c' = none\/H c' = some (.own P))->c'≠P->(H c' = none->s.heap.objs.size<=c')->CodeObj oc (X.env.qual ++ "<lambda>")->(∀ b o,b≠P->s.heap.get? b=some o->h2.get? b=some o)->
  h2.get? P=some (PySem.W.tabObj (lK pos c'))->h2.get? c' = some oc->s.heap.objs.size<=f->f≠c'->h2.get? f=some (gR X params body scope c' ctv)->
  Inv X ((f,gR X params body scope c' ctv)::pq) σ (fP H P c' oc (X.env.qual ++ "<lambda>") pos) { s with heap:=h2,toks:=tk}:=by
  intro f c' oc ctv h2 tk hc zz hnew hoc hx JI hct hf hfc OP;have nP:∀ b,H b=none->b≠P:=fun b n z=>by rw[z,hP]at n;cases n
  have DH:∀ b u,H b=some u->(∀ y,u≠.own y)->(∀ qs,u≠.jU qs)->fP H P c' oc (X.env.qual ++ "<lambda>") pos b=some u:=fun b u e n1 n2=>by
   unfold fP;rw[ao (fun z=>by rw[z,hP]at e;exact n2 _ (Option.some.inj e).symm),ao (fun z=>by
    rw[z]at e;rcases hc with q|q
    ·rw[q]at e;cases e
    ·rw[q]at e;exact n1 _ (Option.some.inj e).symm)]
   exact e
  have F3:∀ b,H b=none->(b<s.heap.objs.size\/b≠c')->fP H P c' oc (X.env.qual ++ "<lambda>") pos b=none:=fun b n hb=>by
   unfold fP;rw[ao (nP b n),ao (fun z=>by
    rcases hb with q|q
    ·rw[z]at q n;exact absurd (hnew n) (Nat.not_le.mpr q)
    ·exact q z)]
   exact n
  have un:Un X.fs [] H (fP H P c' oc (X.env.qual ++ "<lambda>") pos) s.heap h2:=by
   refine⟨fun b o q n _ _=>hx b o (nP b n) q,fun b o q n _ _=>⟨o.slots,hx b o (nP b n) q⟩,fun b o q n _=>F3 b n (.inl (Heap.lt_size q)),fun b o q _=>?_,fun b xs q=>DH b _ q (by intro y z;cases z) (by intro y z;cases z),fun b o u q=>DH b _ q (by intro y z;cases z) (by intro y z;cases z),fun b ps q=>?_⟩
   ·by_cases hb:b=P
    ·exact⟨_,by rw[hb];exact JI⟩
    ·exact⟨o,hx b o hb q⟩
   ·by_cases hb:b=P
    ·subst hb;rw[hP]at q;cases q;exact⟨lK pos c',af⟩
    ·refine⟨#[],?_⟩;unfold fP;rw[ao hb,ao (fun z=>by
      rw[z]at q;rcases hc with r|r<;>(rw[r]at q;cases q)),q]
     simp
  have hok:lq X.prog X.w (fP H P c' oc (X.env.qual ++ "<lambda>") pos) h2:=fun b u q=>by
   by_cases zA:b=P
   ·subst zA;unfold fP at q;rw[af]at q;cases q;exact⟨_,JI,.inr ⟨_,_,_,rfl,rfl⟩⟩
   ·by_cases hbc:b=c'
    ·subst hbc;unfold fP at q;rw[ao zA,af]at q;cases q;exact⟨hct,oc,hct⟩
    ·have q' : H b=some u:=by
      unfold fP at q;rw[ao zA,ao hbc]at q;exact q
     have ow:∀ d,H d=some (.own b)->d≠P/\d≠c':=fun d qd=>⟨cB qd hP (by intro z;cases z),fun z=>by
      rw[z]at qd;rcases hc with r|r
      ·rw[r]at qd;cases qd
      ·rw[r]at qd;cases qd;exact zA rfl⟩
     refine(I.hok b u q').stay (fun d v hd qd=>hx d v ?_ qd) (fun d qd=>?_) fun d xs qd=>DH d _ qd (by intro y z;cases z) (by intro y z;cases z)
     ·rcases hd with rfl|hd
      ·exact zA
      ·exact(ow d hd).1
     ·unfold fP;rw[ao (ow d qd).1,ao (ow d qd).2];exact qd
  have J:=I.un (t':=tk) un hok;have OQ:H f=none:=I.hok.fresh hf;refine J.fN fun p hp=>?_
  rcases List.mem_cons.mp hp with rfl|hp
  ·exact⟨OP,F3 _ OQ (.inr hfc),Nat.ne_of_gt (Nat.lt_of_lt_of_le I.lt hf),I.GV hf,fun v z=>by cases z⟩
  ·exact J.pin p (lj _ hp)
 refine PySem.W.kla_eval hdef ?_;rcases Cu with e|⟨c',oc,e,ho,hct,hoc⟩
 ·refine PySem.W.kla_makeFunction (mg:=X.mg) hcl I.ok.glob hg hcode C e trivial rfl hgP hb fun c' ctv h' tk hx hge hlt hrec htb=>?_
  obtain⟨c2,oc,vs,t,e2,hct,hd,hv⟩:=hrec;cases e2;have hf:s.heap.objs.size<=h'.objs.size:=Nat.le_trans hge (Nat.le_of_lt hlt);have zz:c'≠P:=Nat.ne_of_gt (Nat.lt_of_lt_of_le (Heap.lt_size e) hge);exact h _ c' oc ctv _ (.inl (I.hok.fresh hge)) zz ⟨vs,t,hd,hv⟩ (fin _ c' oc ctv _ tk (.inl (I.hok.fresh hge)) zz (fun _=>hge) ⟨vs,t,hd,hv⟩ (fun b o hb q=>Heap.get?_push_of_some _ (hx b o hb q)) (Heap.get?_push_of_some _ htb) (Heap.get?_push_of_some _ hct) hf (Nat.ne_of_gt hlt) (Heap.get?_push_size _ rfl))
 ·have hf:codeAmong pos (lK pos c').toList=some (.ref c'):=codeAmong_snoc [] trivial rfl;have tr:TriplesOk (lK pos c').toList:=TriplesOk_snoc pos.line pos.col (.ref c') [] trivial;refine PySem.W.kla_makeFunctionHit (mg:=X.mg) hcl I.ok.glob hg hcode C e tr hf hb fun ctv h' tk hk hsz=>?_
  have zz:c'≠P:=cB ho hP (by intro z;cases z)
  have hk' : ∀ b o,s.heap.get? b=some o->(h'.push (gR X params body scope c' ctv)).get? b=some o:=fun b o q=>Heap.get?_push_of_some _ (hk b o q)
  exact h _ c' oc ctv _ (.inr ho) zz hoc (fin _ c' oc ctv _ tk (.inr ho) zz (fun z=>by rw[ho]at z;cases z) hoc (fun b o _ q=>hk' b o q) (hk' _ _ e) (hk' _ _ hct) hsz (Nat.ne_of_gt (Nat.lt_of_lt_of_le (Heap.lt_size hct) hsz)) (Heap.get?_push_size _ rfl))
theorem Bw{uR:aQ}{σ0:St}{s0:Shared}{q:Str}{oc:Obj}(I0:Inv X uR σ0 H s0)(hP:H P=some (.jU (fG q pos)))(hc:H c=none\/H c=some (.own P))(zz:c≠P)(hoc:CodeObj oc q)
 (I:Inv X pq σ H2 s) (e1:H2 P=some (.jU (fG q pos++lK pos c))) (e2:H2 c=some (.m9 oc (.own P))):Inv X pq σ (given H2 P c q pos) s:=by
 have JI:=Bt (show bu X.prog X.w H2 s.heap P (.jU (fG q pos++lK pos c)) from I.hok P _ e1)
 obtain⟨hct,_⟩:=(show bu X.prog X.w H2 s.heap c (.m9 oc (.own P)) from I.hok c _ e2)
 have F3:∀ b,H2 b=none->given H2 P c q pos b=none:=fun b n=>by
  unfold given;rw[ao (fun z=>by rw[z,e1]at n;cases n),ao (fun z=>by rw[z,e2]at n;cases n)]
  exact n
 have DH:∀ b u,b≠P->b≠c->H2 b=some u->given H2 P c q pos b=some u:=fun b u n1 n2 e=>by
  unfold given;rw[ao n1,ao n2];exact e
 refine⟨I.ok,I.os,I.bare,⟨I.base.keep,I.base.slot,fun b o z n hx=>F3 b (I.base.free b o z n hx),I.base.there,fun b xs z=>?_,fun b o u z=>?_,fun b ps z=>?_⟩,I.loc,I.cell,F3 _ I.free,fun x c' z=>F3 _ (I.dS x c' z),fun p hp=>?_,fun b u z=>?_,I.len⟩
 ·have r:=I.base.tups b xs z;exact DH b _ (cB r e1 (by intro z;cases z)) (cB r e2 (by intro z;cases z)) r
 ·have r:=I.base.jh b o u z;refine DH b _ (cB r e1 (by intro z;cases z)) (fun y=>?_) r
  have r0:=I0.base.jh b o u z;rw[y]at r0;rcases hc with hc|hc<;>(rw[hc]at r0;cases r0)
 ·by_cases hb:b=P
  ·subst hb;obtain⟨more,r0⟩:=I0.base.jl b ps z;rw[hP]at r0;exact⟨more,by unfold given;rw[af];exact r0⟩
  ·obtain⟨more,r⟩:=I.base.jl b ps z;exact⟨more,DH b _ hb (cB r e2 (by intro z;cases z)) r⟩
 ·obtain⟨a1,a2,a3⟩:=I.pin p hp;exact⟨a1,F3 _ a2,a3⟩
 ·by_cases zA:b=P
  ·subst zA;unfold given at z;rw[af]at z;cases z;refine⟨_,JI,.inl ⟨rfl,.inr ⟨c,rfl,?_,hoc.rec hct⟩⟩⟩;unfold given;rw[ao zz,af]
  ·by_cases hbc:b=c
   ·subst hbc;unfold given at z;rw[ao zA,af]at z;cases z;exact⟨oc,hct⟩
   ·have z' : H2 b=some u:=by
     unfold given at z;rw[ao zA,ao hbc]at z;exact z
    refine(I.hok b u z').stay (fun _ _ _ r=>r) (fun d r=>DH d _ (cB r e1 (by intro z;cases z)) (cB r e2 (by intro z;cases z)) r) fun d xs r=>DH d _ (cB r e1 (by intro z;cases z)) (cB r e2 (by intro z;cases z)) r
theorem Bx{q:Str}{oc:Obj}(hP:H P=some (.jU (fG q pos)))(hc:H c=none\/H c=some (.own P))(zz:c≠P)(S:aq (fP H P c oc q pos) H2):aq H (given H2 P c q pos):=fun b u e=>by
 unfold given
 by_cases zA:b=P
 ·subst zA;rw[af,<-hP];exact e
 ·rw[ao zA]
  by_cases hbc:b=c
  ·subst hbc;rw[af];rcases hc with hc|hc
   ·rw[hc]at e;cases e
   ·rw[<-hc];exact e
  ·rw[ao hbc];refine S b u ?_;unfold fP;rw[ao zA,ao hbc];exact e
theorem yu{q:Str}{oc:Obj}{b:Addr}{u:HO}(hP:H P=some (.jU (fG q pos)))(hc:H c=none\/H c=some (.own P))(e:H b=some u)(n1:∀ y,u≠.own y)(n2:∀ qs,u≠.jU qs):fP H P c oc q pos b=some u:=by
 unfold fP;rw[ao (fun z=>by rw[z,hP]at e;exact n2 _ (Option.some.inj e).symm),ao (fun z=>by
  rw[z]at e;rcases hc with q|q
  ·rw[q]at e;cases e
  ·rw[q]at e;exact n1 _ (Option.some.inj e).symm)]
 exact e
def yv(X:Cx)(N:List Str)(scope:Scope)(f c:Addr)(A:Around)(s:Shared)(H:Hp):Cx where
 prog:=X.prog
 w:=X.w
 K:=X.K
 mg:=X.mg
 base:=X.base
 A:=A.deeper (PySem.W.envX (X.env.qual ++ "<lambda>") scope s.heap.objs.size f (.ref c) (b7 X.env.cells scope.names []))
 N:=N
 s₀:=s
 H₀:=H
 env:=PySem.W.envX (X.env.qual ++ "<lambda>") scope s.heap.objs.size f (.ref c) (b7 X.env.cells scope.names [])
 outer:=X.stack
 stack:=PySem.W.envX (X.env.qual ++ "<lambda>") scope s.heap.objs.size f (.ref c) (b7 X.env.cells scope.names [])::X.stack
 ex:=[]
 fn:=fun _=>false
 calm:=X.calm
 pn:=[]
 xe:=fun _ _=>False
theorem DI{f:Addr}{A:Around}{x:Str}{v:V}{u:Value}{h1:Heap}{t1:Nat}(I:Inv X pq σ H s)(T:dm X scope [x] fq js)(hx:scope.names.lookup x=some .local)
 (hfr:A.frames=some X.stack) (hh:A.handled=X.A.handled) (r:RelV v u) (old:∀ b o,s.heap.get? b=some o->h1.get? b=some o) (hn:h1.Ns s.heap.objs.size (fun y=>[(x,u)].reverse.lookup y)) :
 Inv (yv X ([x]++fq) scope f c A s H) [] (some v::eA σ js) H { s with heap:=h1,toks:=t1}:=by
 have cells:∀ x c,(b7 X.env.cells scope.names []).lookup x=some c->X.env.cells.lookup x=some c:=fun x c h=>by
  rcases gw h with q|⟨q1,q2⟩
  ·cases q
  ·obtain⟨c',hc'⟩:=eZ I T x .free q1 rfl;rw[hc']at q2;rw[hc'];exact congrArg some q2
 refine⟨⟨I.ok.mod,T.kind,rfl,rfl,Nat.le_refl _,fun x y c a b=>I.ok.inj x y c (cells x c a) (cells y c b),fun y hy=>?_,fun x c z _=>(nomatch z),fun hc=>hh.trans (I.ok.hd hc),Around.frames_deeper hfr,.inr ⟨rfl,rfl⟩,fun b hb=>absurd (show b∈([]:List Addr) from hb) (by simp),
  fun b o e=>I.bs b o e,Nat.le_trans I.ok.Cq I.sz,fun b o _ hb=>absurd (show b∈([]:List Addr) from hb) (by simp),fun b hb=>absurd (show b∈([]:List Addr) from hb) (by simp),I.stack,I.nN⟩,
  rfl,I.bare,Un.kept old,⟨_,hn,fun i y v' e1 e2 e3=>?_⟩,fun y c e=>?_,I.hok.fresh (Nat.le_refl _),fun y c e=>I.dS y c (cells y c e),fun p hp=>absurd (show p∈([]:aQ) from hp) (by simp),I.hok.kept old,?_⟩
 ·have hy:scope.names.lookup y=some .cell\/scope.names.lookup y=some .free:=hy;rcases hy with hy|hy
  ·exact absurd rfl (T.sq _ (PySem.mem_of_lookup hy))
  ·exact gf (.inl (PySem.mem_of_lookup hy))
 ·replace e1:([x]++fq)[i]?=some y:=e1
  cases i with
  | zero =>
    have e1:x=y:=by simpa using e1
    have e2:v=v':=by simpa using e2
    subst e1 e2;exact⟨u,r,.inl ⟨hx,by simp⟩⟩
  | succ i =>
    have e1:fq[i]?=some y:=by simpa using e1
    have e2:(eA σ js)[i]?=some (some v'):=by simpa using e2
    obtain⟨j,hj,hσ⟩:=oM e2;have hN:X.N[j]?=some y:=by
     have q:=congrArg (fun l=>l[i]?) T.at_
     simp only[List.getElem?_map,hj,e1,Option.map_some]at q;exact Option.some.inj q
    have hfx:=T.fr y (vU e1);have hm:=PySem.mem_of_lookup hfx;have hk:=T.free (y,.free) hm rfl;obtain⟨m0,hn0,Fd⟩:=I.loc;obtain⟨u',r',l⟩:=Fd j y v' hN hσ (by rcases hk with k|k;exact .inr (.inl k);exact .inr (.inr k))
    refine⟨u',r',.inr ⟨.inr hfx,?_⟩⟩;rcases l with⟨kM,_⟩|⟨_,c1,hc,hcell⟩
    ·have kM:X.env.scope.names.lookup y=some .local:=kM;rcases hk with k|k<;>(rw[kM]at k;cases k)
    ·obtain⟨c',hc'⟩:=gf (cells:=X.env.cells) (names:=scope.names) (cs:=[]) (x:=y) (.inl hm);have q:=cells y c' hc';rw[hc]at q;cases q;exact⟨c1,hc',hcell.keeps old⟩
 ·obtain⟨v',q⟩:=I.cell y c (cells y c e);exact⟨v',q.keeps old⟩
 ·show _=([x]++fq).length;have q:=congrArg List.length T.at_;rw[List.length_map,List.length_map]at q;simp only[List.length_cons,List.length_append,List.length_nil];unfold eA;rw[List.length_map]
  lia
theorem By{f:Addr}{ctv:Value}{A:Around}{te:TE}{x:Str}{v:V}{u:Value}{Q:VK}{E:fD}(I:Inv X pq σ H s)(T:dm X scope [x] fq js)(hx:scope.names.lookup x=some .local)
 (hfr:A.frames=some X.stack) (hh:A.handled=X.A.handled) (hroom:A.depth<recursionLimit) (hp:(f,gR X params body scope c ctv)∈pq) (hcd:s.heap.CodeRec (.ref c) (X.env.qual ++ "<lambda>"))
 (hb:bindArgs (Bu X params body scope c ctv) ⟨[u],[]⟩=pure [(x,u)]) (hco:scope.isCoroutine=false) (hgen:scope.isGenerator=false)
 (he:PE (yv X ([x]++fq) scope f c A s H) body te) (r:RelV v u) (h:te (some v::eA σ js) H Q) :
 wpAny (model X.prog X.w) A (call (.ref f) [u]) (fun u' s'=>∃ v' H',Inv X pq σ H' s'/\RelV v' u'/\Q v' H') E s:=by
 have hf:=I.pin _ (lj _ hp);refine wpAny_call (PySem.W.kla_callFunE hroom hf.1 rfl hco hgen rfl hcd ?_);rw[hb];refine wpAny_pure (wpAny_newFunctionEnv (fun y hy=>T.sq y hy) (by intro y hy;have:=List.mem_singleton.mp hy;subst this;exact hx) (fun h₁ hns Mx=>⟨I.nolimit.fresh _ Mx,?_⟩) T.kind)
 show codeAny _ _ (.expr body (PySem.W.envX (X.env.qual ++ "<lambda>") scope s.heap.objs.size f (.ref c) (b7 X.env.cells scope.names []))) _ _;have old:∀ b o,s.heap.get? b=some o->h₁.get? b=some o:=fun b o e=>Mx.extBut b o (Nat.ne_of_lt (Heap.lt_size e)) (Heap.get?_push_of_some _ e)
 have J:=DI (f:=f) (c:=c) (A:=A) (t1:=s.toks+[(x,u)].length) I T hx hfr hh r old hns;refine PySem.W.kla_codeExpr (wpAny_mono (he [] _ _ H Q J h) (fun u' s' hq=>?_) fun _ _ z=>z.elim)
 obtain⟨v',H',J',r',q'⟩:=hq;exact⟨v',H',I.Ay (ch:=[]) J'.os J'.base J'.hok J'.bare (fun b z=>absurd z (by simp)),r',q'⟩
end
section
variable {X:Cx}{pq:aQ}{σ:St}{H H2:Hp}{s:Shared}
def F4(X:Cx)(b:Addr):Prop:=X.s₀.heap.objs.size<=b/\b≠X.env.locals/\b∉X.fs/\(∀ x c,X.env.cells.lookup x=some c->c≠b)/\∀ p∈X.pn,p.1≠b
theorem Inv.Ln(I:Inv X pq σ H s){b:Addr}(hb:s.heap.objs.size<=b):F4 X b :=
 let⟨_,f1,f2,_,f4,f5⟩:=I.AF hb (I.hok.fresh hb)
 ⟨Nat.le_trans I.sz hb,f1,f2,f4,fun p hp=>f5 p (EH _ hp)⟩
theorem Inv.Es{pa pb:aQ}{b:Addr}{o:Obj}{h' : Heap}{t' : Nat}(I:Inv X pa σ H s)(hb:F4 X b)(hin:(b,o)∈pa)(k:∀ c u,c≠b->s.heap.get? c=some u->h'.get? c=some u)
 (hp:∀ p∈pb,(p.1=b/\h'.get? b=some p.2/\∀ v,p.2.data≠.cell v)\/(p∈pa/\p.1≠b)):Inv X pb σ H { s with heap:=h',toks:=t'}:=by
 obtain⟨b1,b2,b3,b4,b5⟩:=hb;have n:=(I.pin (b,o) (lj _ hin)).2.1;have J:=(I.fN (nO:=pa.filter fun p=>decide (p.1≠b)) fun p hp=>I.pin p (lj _ (List.mem_filter.mp hp).1)).turned (t':=t') k n b2 (.inr b1) b4 (fun p hp=>by
  rcases List.mem_append.mp hp with hp|hp
  ·exact b5 p hp
  ·exact kr (List.mem_filter.mp hp).2)
 refine J.fN fun p h=>?_
 rcases hp p h with⟨e,g,d⟩|⟨m,ne⟩
 ·refine⟨by rw[e];exact g,by rw[e];exact n,by rw[e];exact b2,by rw[e];exact b3,d⟩
 ·exact J.pin p (lj _ (List.mem_filter.mpr ⟨m,cN ne⟩))
end
abbrev nv:=List (Addr×Str×Pos)
structure TabsOk(K:bw)(h:Heap)(tb:nv):Prop where
 nd:(tb.map (·.1)).Nodup
 mt:∀ p∈tb,h.get? p.1=some (PySem.W.tabObj #[])
 code:∀ p∈tb,∃ c,PySem.W.CodeHd h c p.1
 out:∀ p∈tb,K.lookup p.1=none
def TabsAt(tb:nv)(H:Hp):Prop:=∀ p∈tb,H p.1=some (.jU (fG p.2.1 p.2.2))
def uS(tb:nv):Hp:=fun b=>(tb.find? fun p=>p.1==b).map fun p=>.jU (fG p.2.1 p.2.2)
theorem j7{tb:nv}{b:Addr}{u:HO}(e:uS tb b=some u):∃ p∈tb,p.1=b/\u = .jU (fG p.2.1 p.2.2):=by
 unfold uS at e;obtain⟨p,h1,h2⟩:=DW.mp e;have h3:(p.1==b)=true:=List.find?_some (p:=fun p:Addr×Str×Pos=>p.1==b) h1
 exact⟨p,List.mem_of_find?_eq_some h1,eq_of_beq h3,h2.symm⟩
theorem sG:∀{tb:nv},(tb.map (·.1)).Nodup->TabsAt tb (uS tb)
 | [],_=>fun p hp=>nomatch hp
 | q::r,nd=>fun p hp=>by
   rw[List.map_cons,List.nodup_cons]at nd;rcases List.mem_cons.mp hp with rfl|hp
   ·unfold uS;rw[List.find?_cons_of_pos (by simp)];rfl
   ·have ne:(q.1==p.1)=false:=beq_eq_false_iff_ne.mpr fun z=>nd.1 (by rw[z];exact List.mem_map_of_mem hp)
    unfold uS;rw[List.find?_cons_of_neg (by rw[ne];exact Bool.false_ne_true)]
    exact sG nd.2 p hp
theorem zB{P:Program}{w:World}{K:bw}{mg mb:jk}{CX:Ao}{k:Nat}{fa a:Addr}{fd:FuncData}{x:Str}{sp:Sp}{s₁:Shared}{vs:List Value}{ns:List Int}{tb:nv}
 (KX:K.In s₁.heap) (TB:TabsOk K s₁.heap tb) (hns:s₁.heap.Ns mainGlobals mg) (hb:s₁.heap.Ns builtinsNs mb) (Lo:∀ x:Str,x≠"__name__"->mb x=bootBuiltins x) (hlim:s₁.heap.NoLimit)
 (hbm:∃ bm ob,mg "__builtins__"=some (.ref bm)/\bm≠builtinsNs/\s₁.heap.get? bm=some ob/\ob.cls = .type "module"/\ob.dict=some builtinsNs/\ob.data = .plain) (hg:s₁.gens = #[])
 (ha:s₁.heap.get? a=some { cls:=.type "list",data:=.seq vs.toArray}) (hi:IntsAre vs ns) (hl:ns.length<=sizeLine) (hr:eT k callerA)
 (F:∀ base:Heap,K.In base->base.Ns mainGlobals mg->jq P w K mg base CX k fa fd [x] sp) (hbind:∀(s:Shared) (u:Value),BindsTo s fd ⟨[u],[]⟩ [(x,u)])
 (vP:∀ H:Hp,TabsAt tb H->aR K H a (ns.map V.int)->sp [.ref a] H (fun v _=>v = .bl true) fun _ _ _=>False)
 (Lp:∀ H e s',CX [] H s₁ (fun _ _ _=>False) e s'->False) :
 codeAny (model P w) callerA (.call (.ref fa) ⟨[.ref a],[]⟩) (fun r s'=>r = .ok (.ret (.bool true))/\OldK s₁.heap s'.heap/\s'.os=s₁.os/\AllBare s'.gens) s₁:=by
 have rv:=qZ hi;have Lq:=hi.length;have aT:∀ p∈tb,p.1≠a:=fun p hp z=>by
  have:=TB.mt p hp;rw[z,ha]at this;cases this
 let fz:HO:=.m9 { cls:=.type "list",data:=.seq vs.toArray} (.lst (ns.map V.int))
 have core:∀ H:Hp,aR K H a (ns.map V.int)->TabsAt tb H->lq P w H s₁.heap->(∀ b u,H b=some u->(b=a/\K.lookup a=none/\u=fz)\/∃ p∈tb,p.1=b/\u = .jU (fG p.2.1 p.2.2))->
  codeAny (model P w) callerA (.call (.ref fa) ⟨[.ref a],[]⟩) (fun r s'=>r = .ok (.ret (.bool true))/\OldK s₁.heap s'.heap/\s'.os=s₁.os/\AllBare s'.gens) s₁:=by
  intro H hS hT hok hA;have free:∀{b:Addr} {o:Obj},s₁.heap.get? b=some o->(∀ xs n,o.data≠.seq xs n)->(∀ xs,o.data≠.fields xs)->H b=none:=fun {b o} e n1 n2=>by
   cases q:H b with
   | none=>rfl
   | some u =>
     rcases hA b u q with⟨z,_⟩|⟨p,hp,z,_⟩
     ·rw[z,ha]at e;cases e;exact absurd rfl (n1 _ _)
     ·rw[<-z,TB.mt p hp]at e;cases e;exact absurd rfl (n2 _)
  have JJ:∀{b:Addr} {m:jk},s₁.heap.Ns b m->(ua s₁.heap H).Ns b m:=fun {b m} ⟨o,es,ep,e,d,r⟩=>⟨o,es,ep,oq e (free e (by intro _ _ z;rw[d]at z;cases z) (by intro _ z;rw[d]at z;cases z)),d,r⟩
  have My:K.In (ua s₁.heap H):=fun b o e=>oq (KX b o e) (by
   cases q:H b with
   | none=>rfl
   | some u =>
     rcases hA b u q with⟨z,n,_⟩|⟨p,hp,z,_⟩
     ·rw[z,n]at e;cases e
     ·rw[<-z,TB.out p hp]at e;cases e)
  have hM:Mod K mg (ua s₁.heap H):=⟨My,JJ hns,⟨mb,JJ hb,Lo⟩,(let⟨mc,h1,h2⟩:=hlim;⟨mc,JJ h1,h2⟩),
   let⟨bm,ob,b1,b2,b3,b4,b5,b6⟩:=hbm;⟨bm,ob,b1,b2,oq b3 (free b3 (by intro _ _ z;rw[b6]at z;cases z) (by intro _ z;rw[b6]at z;cases z)),b4,b5,b6⟩⟩
  have e0:CL P w K mg (ua s₁.heap H) callerA [] s₁ H:=⟨rfl,hM,fun b o e=>CB e,Nat.le_of_eq (yI _ _),trivial,fun b hb=>absurd (show b∈([]:List Addr) from hb) (by simp),hok,.of_eq hg⟩
  refine codeAny_mono ((F _ My (JJ hns)).run callerA [] s₁ H ⟨[.ref a],[]⟩ [.ref a] [.ref a] _ _ hr e0 (hbind s₁ (.ref a)) (.cons rfl .nil) (vP H hT hS)) fun r s' h=>?_
  cases r with
  | error e=>exact(Lp H e s' h).elim
  | ok fl =>
    cases fl with
    | next=>exact False.elim h
    | brk=>exact False.elim h
    | cont=>exact False.elim h
    | ret u =>
      obtain⟨v,H',os,bare,un,Im,r',q⟩:=h;have q' : v = .bl true:=q;subst q';obtain rfl:u=Value.bool true:=r';have all:∀ b o,s₁.heap.get? b=some o->s'.heap.get? b=some o\/∃ p∈tb,p.1=b/\∃ ps,s'.heap.get? b=some (PySem.W.tabObj ps):=fun b o e=>by
       cases q:H b with
       | none=>exact .inl (un.keep b o e q (by intro z;exact absurd (show b∈([]:List Addr) from z) (by simp)) (by simp))
       | some u =>
         rcases hA b u q with⟨z,_,z2⟩|⟨p,hp,z,z2⟩
         ·rw[z2]at q;obtain⟨e1,_⟩:=hok b _ q;obtain⟨e2,_⟩:=Im b _ (un.jh b _ _ q);rw[e]at e1;cases e1;exact .inl e2
         ·rw[z2]at q;obtain⟨more,q2⟩:=un.jl b _ q;obtain⟨ps,e2,_⟩:=Im b _ q2;exact .inr ⟨p,hp,z,ps,e2⟩
      refine⟨rfl,⟨fun b o e=>?_,fun b o e=>?_⟩,os,bare⟩
      ·rcases all b o e with z|⟨p,hp,z,ps,e2⟩
       ·exact .inl z
       ·obtain⟨c,hc⟩:=TB.code p hp;have e1:=TB.mt p hp;subst z;rw[e]at e1;cases e1;exact .inr (.inl ⟨(hc.tab e).isCodeTable,rfl,#[],ps,rfl,by rw[e2,Array.empty_append]⟩)
      ·rcases all b o e with z|⟨p,hp,z,ps,e2⟩
       ·exact⟨o,z⟩
       ·exact⟨_,e2⟩
 have tok:∀{H:Hp} {b:Addr} {p},p∈tb->p.1=b->bu P w H s₁.heap b (.jU (fG p.2.1 p.2.2)):=fun {H b p} hp z=>⟨#[],by rw[<-z];exact TB.mt p hp,.inl ⟨rfl,.inl rfl⟩⟩
 cases hk:K.lookup a with
 | some o =>
   have e:=KX a o hk;rw[ha]at e;cases e;refine core (uS tb) (.inr ⟨_,vs.toArray,_,hk,rfl,rfl,rfl,by rw[List.size_toArray,Lq];exact hl,by simpa using rv⟩) (sG TB.nd) (fun b u e=>?_) fun b u e=>.inr (j7 e)
   obtain⟨p,hp,z,rfl⟩:=j7 e;exact tok hp z
 | none =>
   refine core (fun b=>if b=a then some fz else uS tb b) (.inl (.inr ⟨{ cls:=.type "list",data:=.seq vs.toArray},if_pos rfl⟩)) (fun p hp=>?_) (fun b u e=>?_) fun b u e=>?_
   ·show(if p.1=a then some fz else uS tb p.1)=_
    rw[if_neg (aT p hp)];exact sG TB.nd p hp
   ·by_cases hb:b=a
    ·have z:=(if_pos hb).symm.trans e;cases z;subst hb;exact⟨ha,by rw[List.length_map];exact hl,vs,_,rv,ha⟩
    ·have z:=(if_neg hb).symm.trans e;obtain⟨p,hp,z2,rfl⟩:=j7 z;exact tok hp z2
   ·by_cases hb:b=a
    ·have z:=(if_pos hb).symm.trans e;exact .inl ⟨hb,hk,(Option.some.inj z).symm⟩
    ·exact .inr (j7 ((if_neg hb).symm.trans e))
theorem BA{l:PySem.W.OpenLaw}{n k:Nat}{q:Program}{loose:List Str}{XP:(Str->Option Value)->Heap->Prop}{YP:World->Heap->Prop}{d:DefRec}{K:Params->bw}{CX:World->Ao}{sp:World->nv->Sp}{x:Str}{ts:List Addr}
 (hn:l.most=some n) (hn2:n<=sizeLine) (HD:d.params.defaults=[]) (hr:eT k callerA)
 (hY:∀(w:World) (h:Heap),YP w h->(K w.params).In h/\∀ P∈ts,h.get? P=some (PySem.W.tabObj #[]))
 (F:∀(w:World) (mg:jk) (fa:Addr) (h:Heap),(K w.params).In h->h.Ns mainGlobals mg->mg d.name=some (.ref fa)->
  ∃(fd:FuncData) (tb:nv),((tb.map (·.1)).Nodup/\PySem.W.noTabs (K w.params)=true/\∀ p∈tb,p.1∈ts/\∃ c,PySem.W.codeHdIn (K w.params) c p.1=true)/\(∀(s:Shared) (u:Value),BindsTo s fd ⟨[u],[]⟩ [(x,u)])/\
   ∀ base:Heap,(K w.params).In base->base.Ns mainGlobals mg->jq l.prog w (K w.params) mg base (CX w) k fa fd [x] (sp w tb))
 (vP:∀(w:World) (H:Hp) (a:Addr) (ns:List Int) (tb:nv),ns.length<=n->TabsAt tb H->aR (K w.params) H a (ns.map V.int)->sp w tb [.ref a] H (fun v _=>v = .bl true) fun _ _ _=>False)
 (Lp:∀(w:World) (H:Hp) (s:Shared) (e:Value) (s' : Shared),CX w [] H s (fun _ _ _=>False) e s'->False) :
 PySem.W.WalkO q loose XP YP l.row.toRowW d [] (fun f vs=>PySem.call f vs):=by
 refine Att.ur hn HD fun w s₀ s₁ mg mb fa o pm cd doc a vs ns G Y ho hd hcd hmg hobj hints hlen hg=>?_
 obtain⟨KX,hts⟩:=hY w _ Y;obtain⟨fd,tb,⟨nd,nt,ht⟩,hb,hF⟩:=F w mg fa _ KX G.T.g hmg;have TB:TabsOk (K w.params) s₁.heap tb:=⟨nd,fun p hp=>hts _ (ht p hp).1,fun p hp=>let⟨_,c,e⟩:=ht p hp;⟨c,PySem.W.codeHd_of_K KX e⟩,fun p hp=>by
  cases e:(K w.params).lookup p.1 with
  | none=>rfl
  | some ob =>
    have e1:=KX _ _ e;rw[hts _ (ht p hp).1]at e1;cases e1;have z:=List.all_eq_true.mp nt (p.1,PySem.W.tabObj #[]) (PySem.W.mem_of_lookupK e);exact absurd (show false=true from z) Bool.false_ne_true⟩
 exact zB KX TB G.T.g G.T.b G.T.builtins G.T.nolimit G.T.bmain hg hobj hints (Nat.le_trans hlen hn2) hr hF hb (fun H hT hS=>vP w H a ns tb hlen hT hS) fun H e s'=>Lp w H s₁ e s'
def zC(f:Str):Str:=f ++ ".<locals>." ++ "<lambda>"
structure wG(K:bw)(x qual:Str)(st:Stmt)(f:Addr)(fd:FuncData)(c0 P:Addr):Prop where
 ex:∃(oc:Value) (od:Option Addr) (kV doc pm:Value) (an:Option Addr) (ct:Value) (osl:Array (Option Value)),
  fd=PySem.W.fnOf x qual (cL st) (bC st) (ai st) .none kV doc pm an (.ref c0) ct/\K.lookup f=some ⟨oc,od,.func fd,osl⟩/\PySem.W.codeIn K (.ref c0) qual=true
 kp:PySem.W.keepIn K (.ref f)=true
 hd:PySem.W.codeHdIn K c0 P=true
section
variable {P:Program}{w:World}{K:bw}{mg:jk}{base:Heap}{x qual:Str}{st:Stmt}{f c0 p0:Addr}{fd:FuncData}
theorem wG.ok{N ps:List Str}{k:Nat}{sp:Sp}(F:wG K x qual st f fd c0 p0)(S:aA N ps (ai st))(len:∀ vs H Q E,sp vs H Q E->vs.length=ps.length)
 (hbody:∀(A:Around) (outer:List Env) (s:Shared) (H:Hp) (vs:List V) (Q:VK) (E:XK),eT k (A.deeper (envOfC qual (ai st) s.heap.objs.size f (.ref c0)))->sp vs H Q E->
  ∃ t,qg (nk xZ P w K mg base N qual (ai st) f (.ref c0) A outer s H E).vO (bC st) t/\t { nx:=fun _ H'=>Q .eV H',rt:=Q} (start N vs) H):jq P w K mg base xZ (k+1) f fd ps sp:=by
 obtain⟨oc,od,kV,doc,pm,an,ct,osl,rfl,lk,hcd⟩:=F.ex;refine AL lk hcd S len fun A outer s H vs Q E hr vP=>?_
 obtain⟨t,h,q⟩:=hbody A outer s H vs Q E hr vP;exact⟨t,h.vO,q⟩
theorem wG.binds{ps:List Str}(F:wG K x qual st f fd c0 p0)
 (h:∀(kV doc pm:Value) (an:Option Addr) (cdv ct:Value) (us:List Value),us.length=ps.length->bindArgs (PySem.W.fnOf x qual (cL st) (bC st) (ai st) .none kV doc pm an cdv ct) ⟨us,[]⟩=pure (ps.zip us)):Binds K fd ps []:=by
 obtain⟨oc,od,kV,doc,pm,an,ct,osl,rfl,lk,hcd⟩:=F.ex;exact .all (h kV doc pm an (.ref c0) ct)
theorem DJ{oc:Value}{od an:Option Addr}{osl:Array (Option Value)}{kV doc pm ct:Value}(l:K.lookup f=some ⟨oc,od,.func (PySem.W.fnOf x qual (cL st) (bC st) (ai st) .none kV doc pm an (.ref c0) ct),osl⟩)
 (c:PySem.W.codeIn K (.ref c0) qual=true) (k:PySem.W.keepIn K (.ref f)=true) (hd:PySem.W.codeHdIn K c0 p0=true):wG K x qual st f (PySem.W.fnOf x qual (cL st) (bC st) (ai st) .none kV doc pm an (.ref c0) ct) c0 p0 :=
 ⟨⟨oc,od,kV,doc,pm,an,ct,osl,rfl,l,c⟩,k,hd⟩
end
open PySem PySem.Spec PyProof.Rows PySem.W
def SRun(r:Nat->Int){α:Type}:KasT α->α
 | .ret a=>a
 | .ask i j k=>SRun r (k (decide (r i<r j)))
section
variable {r:Nat->Int}
theorem fY{α β:Type}{f:α->KasT β}:∀(t:KasT α),SRun r (t.bind f)=SRun r (f (SRun r t))
 | .ret a=>by rw[KasT.bind.eq_1];rfl
 | .ask i j k=>by
   rw[KasT.bind.eq_2];exact fY (k _)
theorem sH{n:Nat}{α:Type}{R:α->Prop}{cmp:Nat->Nat->(Bool->Shared->Prop)->Shared->Prop}{Q:α->Shared->Prop}{s:Shared}(hc:∀ i j C,i<n->j<n->C (decide (r i<r j)) s->cmp i j C s):∀{t:KasT α},qt n R t->(R (SRun r t)->Q (SRun r t) s)->KasT.kasWp cmp t Q s
 | .ret a,h,q=>q h
 | .ask i j k,h,q=>hc i j _ h.1 h.2.1 (sH hc (h.2.2 _) q)
def Kr(r:Nat->Int)(p:Array Nat)(i:Nat):Int:=r (p.getD i 0)
theorem pL(p:Array Nat)(i:Nat):Kr r p i=r ((p[i]?).getD 0):=by
 unfold Kr;rw[Array.getD_eq_getD_getElem?]
theorem sI{p:Array Nat}{i j:Nat}(hj:j<=p.size)(k:Nat):Kr r (kas_rev p i j) k=if i<=k/\k<j then Kr r p (i+j-1-k) else Kr r p k:=by
 have e:=getElem?_mirror_all (i:=i) hj k;unfold kas_rev;rw[pL,e]
 split
 ·rw[pL]
 ·rw[pL]
theorem BB{p:Array Nat}{src d:Nat}(hs:src<p.size)(hd:d<=src)(k:Nat):Kr r (bubble p src d) k=if k=src-d then Kr r p src else if src-d<k/\k<=src then Kr r p (k-1) else Kr r p k:=by
 have e:=getElem?_bubble hs d hd k;rw[pL,e]
 split
 ·rw[pL]
 ·split
  ·rw[pL]
  ·rw[pL]
theorem jA(p:Array Nat)(i j:Nat):(kas_rev p i j).size=p.size:=mirror_size _ _ _ _
def Up(r:Nat->Int)(p:Array Nat)(n:Nat):Prop:=∀ i,1<=i->i<n->Kr r p (i-1)<=Kr r p i
theorem Up.le{p:Array Nat}{n:Nat}(h:Up r p n):∀{i j:Nat},i<=j->j<n->Kr r p i<=Kr r p j:=by
 intro i j hij;obtain⟨d,rfl⟩:=Nat.exists_eq_add_of_le hij;clear hij
 induction d with
 | zero=>intro _;exact Int.le_refl _
 | succ d ih =>
   intro hj;have h1:=ih (by lia)
   have h2:=h (i+(d+1)) (by lia) hj
   rw[show i+(d+1)-1=i+d by lia]at h2
   lia
theorem wH{p:Array Nat}:∀(f n:Nat),1<=n->Up r p n->n<=SRun r (kas_asc p f n)/\SRun r (kas_asc p f n)<=n+f/\Up r p (SRun r (kas_asc p f n))/\(SRun r (kas_asc p f n)<n+f->Kr r p (SRun r (kas_asc p f n))<Kr r p (SRun r (kas_asc p f n)-1))
 | 0,n,_,h=>by
   rw[kas_asc.eq_1];exact⟨Nat.le_refl n,Nat.le_refl n,h,fun z=>absurd z (Nat.lt_irrefl n)⟩
 | f+1,n,h1,h=>by
   rw[kas_asc.eq_2];show n<=SRun r (if decide (Kr r p n<Kr r p (n-1))=true then _ else _)/\SRun r (if decide (Kr r p n<Kr r p (n-1))=true then _ else _)<=_/\Up r p (SRun r (if decide (Kr r p n<Kr r p (n-1))=true then _ else _))/\_
   by_cases c:Kr r p n<Kr r p (n-1)
   ·show n<=SRun r (if decide (Kr r p n<Kr r p (n-1))=true then _ else _)/\SRun r (if decide (Kr r p n<Kr r p (n-1))=true then _ else _)<=_/\Up r p (SRun r (if decide (Kr r p n<Kr r p (n-1))=true then _ else _))/\(SRun r (if decide (Kr r p n<Kr r p (n-1))=true then _ else _)<_->Kr r p (SRun r (if decide (Kr r p n<Kr r p (n-1))=true then _ else _))<Kr r p (SRun r (if decide (Kr r p n<Kr r p (n-1))=true then _ else _)-1))
    rw[if_pos (cN c)];exact⟨Nat.le_refl n,Nat.le_add_right _ _,h,fun _=>c⟩
   ·show n<=SRun r (if decide (Kr r p n<Kr r p (n-1))=true then _ else _)/\SRun r (if decide (Kr r p n<Kr r p (n-1))=true then _ else _)<=_/\Up r p (SRun r (if decide (Kr r p n<Kr r p (n-1))=true then _ else _))/\(SRun r (if decide (Kr r p n<Kr r p (n-1))=true then _ else _)<_->Kr r p (SRun r (if decide (Kr r p n<Kr r p (n-1))=true then _ else _))<Kr r p (SRun r (if decide (Kr r p n<Kr r p (n-1))=true then _ else _)-1))
    rw[if_neg (by simpa using c)]
    have ih:=wH (p:=p) f (n+1) (by lia) (fun i hi hn=>by
     by_cases e:i=n
     ·rw[e];lia
     ·exact h i hi (by lia))
    refine⟨by lia,by lia,ih.2.2.1,fun z=>ih.2.2.2 (by lia)⟩
def Down(r:Nat->Int)(p:Array Nat)(n q:Nat):Prop:=(∀ i,1<=i->i<n->Kr r p i<=Kr r p (i-1))/\q+1<=n/\∀ i,n-(q+1)<=i->i<n->Kr r p i=Kr r p (n-1)
theorem Down.rev{p:Array Nat}{n q:Nat}(h:Down r p n q)(hn:n<=p.size)(k:Nat):Kr r (kas_rev p (n-(q+1)) n) k=Kr r p k:=by
 rw[sI hn]
 split
 ·rename_i hk
  rw[h.2.2 _ (by lia) (by have:=h.2.1;lia),h.2.2 k hk.1 hk.2]
 ·rfl
theorem j8:∀(f:Nat) {p:Array Nat} {n q:Nat},n+f<=p.size->Down r p n q->
 (SRun r (kas_desc f p n q)).1.size=p.size/\n<=(SRun r (kas_desc f p n q)).2.1/\(SRun r (kas_desc f p n q)).2.1<=n+f/\Down r (SRun r (kas_desc f p n q)).1 (SRun r (kas_desc f p n q)).2.1 (SRun r (kas_desc f p n q)).2.2
 | 0,p,n,q,_,h=>by
   rw[kas_desc.eq_1];exact⟨rfl,Nat.le_refl n,Nat.le_refl n,h⟩
 | f+1,p,n,q,hs,h=>by
   rw[kas_desc.eq_2];obtain⟨h1,h2,h3⟩:=id h
   by_cases c:Kr r p n<Kr r p (n-1)
   ·have dn:∀ p' : Array Nat,(∀ k,Kr r p' k=Kr r p k)->Down r p' (n+1) 0:=fun p' e=>by
     refine⟨fun i hi hn=>?_,by lia,fun i hi hn=>by rw[show i=n+1-1 by lia]⟩
     rw[e,e]
     by_cases z:i=n
     ·rw[z];lia
     ·exact h1 i hi (by lia)
    have e0:∀(T1 T2:KasT (Array Nat×Nat×Nat)),SRun r (KasT.ask (p.getD n 0) (p.getD (n-1) 0) fun c=>if c=true then T1 else T2)=SRun r T1:=fun T1 T2=>by
     show SRun r (if decide (Kr r p n<Kr r p (n-1))=true then T1 else T2)=_
     rw[if_pos (cN c)]
    rw[e0]
    by_cases hq:q > 0
    ·rw[if_pos hq];have ih:=j8 f (p:=kas_rev p (n-(q+1)) n) (n:=n+1) (q:=0) (by rw[jA];lia) (dn _ (h.rev (by lia)))
     rw[jA]at ih;exact⟨ih.1,by lia,by lia,ih.2.2.2⟩
    ·rw[if_neg hq];have ih:=j8 f (p:=p) (n:=n+1) (q:=0) (by lia) (dn _ fun _=>rfl)
     exact⟨ih.1,by lia,by lia,ih.2.2.2⟩
   ·have e0:∀(T1 T2:KasT (Array Nat×Nat×Nat)),SRun r (KasT.ask (p.getD n 0) (p.getD (n-1) 0) fun c=>if c=true then T1 else T2)=SRun r T2:=fun T1 T2=>by
     show SRun r (if decide (Kr r p n<Kr r p (n-1))=true then T1 else T2)=_
     rw[if_neg (by simpa using c)]
    rw[e0]
    by_cases d:Kr r p (n-1)<Kr r p n
    ·have e1:∀(T1 T2:KasT (Array Nat×Nat×Nat)),SRun r (KasT.ask (p.getD (n-1) 0) (p.getD n 0) fun c=>if c=true then T1 else T2)=SRun r T1:=fun T1 T2=>by
      show SRun r (if decide (Kr r p (n-1)<Kr r p n)=true then T1 else T2)=_
      rw[if_pos (cN d)]
     rw[e1];exact⟨rfl,Nat.le_refl n,Nat.le_add_right _ _,h⟩
    ·have e1:∀(T1 T2:KasT (Array Nat×Nat×Nat)),SRun r (KasT.ask (p.getD (n-1) 0) (p.getD n 0) fun c=>if c=true then T1 else T2)=SRun r T2:=fun T1 T2=>by
      show SRun r (if decide (Kr r p (n-1)<Kr r p n)=true then T1 else T2)=_
      rw[if_neg (by simpa using d)]
     rw[e1];have ih:=j8 f (p:=p) (n:=n+1) (q:=q+1) (by lia) ⟨fun i hi hn=>by
      by_cases z:i=n
      ·rw[z];lia
      ·exact h1 i hi (by lia),by lia,fun i hi hn=>by
      rw[show n+1-1=n by lia]
      by_cases z:i=n
      ·rw[z]
      ·have:=h3 i (by lia) (by lia)
       lia⟩
     exact⟨ih.1,by lia,by lia,ih.2.2.2⟩
def uT(r:Nat->Int)(n:Nat)(x:Nat×Array Nat):Prop:=x.2.size=n/\1<=x.1/\x.1<=n/\Up r x.2 x.1
theorem uU{n nrem:Nat}{p:Array Nat}{q:Nat}(h:Down r p n q)(hn:1<=n)(hle:n<=nrem)(hs:p.size=nrem):uT r nrem (SRun r (kas_tail3 n nrem p)):=by
 have up:Up r (kas_rev p 0 n) n:=fun i hi hi2=>by
  rw[sI (by lia),sI (by lia),if_pos (by lia),if_pos (by lia)]
  have:=h.1 (0+n-1-(i-1)) (by lia) (by lia)
  rw[show 0+n-1-(i-1)-1=0+n-1-i by lia]at this
  exact this
 have a:=wH (nrem-n) n hn up;unfold kas_tail3;rw[fY];exact⟨by show(kas_rev p 0 n).size=nrem;rw[jA,hs],by show 1<=SRun r _;lia,by show SRun r _<=nrem;lia,a.2.2.1⟩
theorem Down.congr{p p' : Array Nat}{n q:Nat}(h:Down r p n q)(e:∀ k,Kr r p' k=Kr r p k):Down r p' n q:=⟨fun i h1 h2=>by rw[e,e];exact h.1 i h1 h2,h.2.1,fun i h1 h2=>by rw[e,e];exact h.2.2 i h1 h2⟩
theorem uV{n nrem:Nat}{p:Array Nat}(hn:1<=n)(hle:n+1<=nrem)(hs:p.size=nrem)(heq:∀ i,i<n->Kr r p i=Kr r p (n-1))(hlt:Kr r p n<Kr r p (n-1)):uT r nrem (SRun r (kas_descPart n nrem p)):=by
 have d0:Down r p (n+1) 0:=⟨fun i h1 h2=>by
  by_cases z:i=n
  ·rw[z];lia
  ·rw[heq i (by lia),heq (i-1) (by lia)]
   exact Int.le_refl _,by lia,fun i h1 h2=>by rw[show i=n+1-1 by lia]⟩
 have d:=j8 (nrem-(n+1)) (p:=p) (n:=n+1) (q:=0) (by lia) d0
 unfold kas_descPart;rw[fY];generalize SRun r (kas_desc (nrem-(n+1)) p (n+1) 0)=x at d;obtain⟨d1,d2,d3,d4⟩:=d
 by_cases hq:x.2.2 > 0
 ·rw[if_pos hq];exact uU (d4.congr (d4.rev (by lia))) (by lia) (by lia) (by rw[jA,d1,hs])
 ·rw[if_neg hq];exact uU d4 (by lia) (by lia) (by rw[d1,hs])
theorem zD{nrem:Nat}{p:Array Nat}(h1:1<=nrem)(hs:p.size=nrem):uT r nrem (SRun r (kas_count nrem p)):=by
 have a:=wH (r:=r) (p:=p) (nrem-1) 1 (Nat.le_refl 1) (fun i hi hn=>by lia)
 unfold kas_count;rw[fY];generalize SRun r (kas_asc p (nrem-1) 1)=n at a;obtain⟨a1,a2,a3,a4⟩:=a
 by_cases e:(n==nrem)=true
 ·rw[if_pos e];exact⟨hs,a1,by show n<=nrem;lia,a3⟩
 ·rw[if_neg e];have e:n≠nrem:=by simpa using e
  have hlt:=a4 (by lia)
  by_cases h2:n > 1
  ·rw[if_pos h2]
   by_cases c:Kr r p 0<Kr r p (n-1)
   ·show uT r nrem (SRun r (if decide (Kr r p 0<Kr r p (n-1))=true then _ else _))
    rw[if_pos (cN c)];exact⟨hs,a1,by show n<=nrem;lia,a3⟩
   ·show uT r nrem (SRun r (if decide (Kr r p 0<Kr r p (n-1))=true then _ else _))
    rw[if_neg (by simpa using c)]
    have all:∀ i,i<n->Kr r p i=Kr r p (n-1):=fun i hi=>by
     have l1:=a3.le (show 0<=i by lia) hi
     have l2:=a3.le (show i<=n-1 by lia) (by lia)
     lia
    have er:∀ k,Kr r (kas_rev p 0 n) k=Kr r p k:=fun k=>by
     rw[sI (by lia)]
     split
     ·rw[all _ (by lia),all k (by lia)]
     ·rfl
    exact uV a1 (by lia) (by rw[jA,hs]) (fun i hi=>by rw[er,er];exact all i hi) (by rw[er,er];exact hlt)
  ·rw[if_neg h2];have e1:n=1:=by lia
   subst e1;exact uV a1 (by lia) hs (fun i hi=>by rw[show i=1-1 by lia]) hlt
theorem pM{p:Array Nat}{k:Nat}(up:Up r p k):∀(f l u:Nat),u-l<=f->l<=u->u<=k->(∀ i,i<l->Kr r p i<=Kr r p k)->(∀ i,u<=i->i<k->Kr r p k<Kr r p i)->
 SRun r (kas_place p k f l u)<=k/\(∀ i,i<SRun r (kas_place p k f l u)->Kr r p i<=Kr r p k)/\∀ i,SRun r (kas_place p k f l u)<=i->i<k->Kr r p k<Kr r p i
 | 0,l,u,hf,hlu,huk,h1,h2=>by
   rw[kas_place.eq_1];have e:l=u:=by lia
   subst e;exact⟨huk,h1,h2⟩
 | f+1,l,u,hf,hlu,huk,h1,h2=>by
   rw[kas_place.eq_2]
   by_cases hx:l ≥ u
   ·rw[if_pos hx];have e:l=u:=by lia
    subst e;exact⟨huk,h1,h2⟩
   ·rw[if_neg hx]
    by_cases c:Kr r p k<Kr r p ((l+u)/2)
    ·have e0:∀(T1 T2:KasT Nat),SRun r (KasT.ask (p.getD k 0) (p.getD ((l+u)/2) 0) fun c=>if c=true then T1 else T2)=SRun r T1:=fun T1 T2=>by
      show SRun r (if decide (Kr r p k<Kr r p ((l+u)/2))=true then T1 else T2)=_
      rw[if_pos (cN c)]
     rw[e0];exact pM up f l ((l+u)/2) (by lia) (by lia) (by lia) h1 fun i hi hk=>by
      have:=up.le hi hk
      lia
    ·have e0:∀(T1 T2:KasT Nat),SRun r (KasT.ask (p.getD k 0) (p.getD ((l+u)/2) 0) fun c=>if c=true then T1 else T2)=SRun r T2:=fun T1 T2=>by
      show SRun r (if decide (Kr r p k<Kr r p ((l+u)/2))=true then T1 else T2)=_
      rw[if_neg (by simpa using c)]
     rw[e0];exact pM up f ((l+u)/2+1) u (by lia) (by lia) huk (fun i hi=>by
      have:=up.le (show i<=(l+u)/2 by lia) (by lia)
      lia) h2
theorem BC:∀(f:Nat) {p:Array Nat} {k:Nat},k+f<=p.size->Up r p k->Up r (SRun r (kas_bin f p k)) (k+f)
 | 0,p,k,_,h=>by
   rw[kas_bin.eq_1];exact h
 | f+1,p,k,hs,h=>by
   rw[kas_bin.eq_2,fY];have pl:=pM h k 0 k (by lia) (by lia) (Nat.le_refl k) (fun i hi=>by lia) (fun i h1 h2=>by lia)
   generalize SRun r (kas_place p k k 0 k)=l at pl;obtain⟨p1,p2,p3⟩:=pl;have up:Up r (bubble p k (k-l)) (k+1):=fun i hi hk=>by
    rw[BB (by lia) (by lia),BB (by lia) (by lia),show k-(k-l)=l by lia]
    by_cases c1:i=l
    ·rw[if_neg (by lia),if_neg (by lia),if_pos c1]
     exact p2 (i-1) (by lia)
    ·rw[if_neg c1]
     by_cases c2:l<i/\i<=k
     ·rw[if_pos c2]
      by_cases c3:i-1=l
      ·rw[if_pos c3];exact Int.le_of_lt (p3 (i-1) (by lia) (by lia))
      ·rw[if_neg c3,if_pos (by lia)]
       exact h (i-1) (by lia) (by lia)
     ·rw[if_neg c2,if_neg (by lia),if_neg (by lia)]
      exact h i hi (by lia)
   have:=BC f (p:=bubble p k (k-l)) (k:=k+1) (by rw[bubble_size];lia) up
   rw[show k+(f+1)=k+1+f by lia]
   exact this
theorem yw{n:Nat}(hn:1<=n):Up r (SRun r (kas_sort n)) n:=by
 unfold kas_sort;rw[fY];have c:=zD (r:=r) (p:=List.toArray (List.range n)) hn (by simp)
 generalize SRun r (kas_count n (List.toArray (List.range n)))=x at c;obtain⟨c1,c2,c3,c4⟩:=c
 by_cases hx:x.1<n
 ·rw[if_pos hx];have:=BC (n-max x.1 1) (p:=x.2) (k:=max x.1 1) (by lia) (by rw[show max x.1 1=x.1 by lia];exact c4)
  rw[show max x.1 1+(n-max x.1 1)=n by lia]at this
  exact this
 ·rw[if_neg hx];have e:x.1=n:=by lia
  rw[e]at c4;exact c4
end
theorem sJ:bootBuiltins "sorted"=some (.builtin "sorted"):=by kernel_rfl
def kx(z:Int×Int):Int:=z.1*1073741824+z.2
def BD(z:Int×Int):Prop:=0<=z.2/\z.2<1073741824
section
variable {X:Cx}{pq:aQ}{σ:St}{H H2:Hp}{s:Shared}
theorem Inv.DK{a:Addr}{xs:List V}{ob:Obj}(I:Inv X pq σ H s)(e:H a=some (.lst xs))(ho:s.heap.get? a=some ob):Inv X pq σ (upd H a (.m9 ob (.lst xs))) s:=by
 have ne:∀ b,H b=none->b≠a:=fun b h z=>by rw[z,e]at h;cases h
 refine⟨I.ok,I.os,I.bare,⟨I.base.keep,I.base.slot,fun b o q n hx=>?_,I.base.there,fun b xs q=>?_,fun b o u q=>?_,fun b ps q=>?_⟩,I.loc,I.cell,?_,fun x c q=>?_,fun p hp=>?_,fun b u q=>?_,I.len⟩
 ·have z:=I.base.free b o q n hx;rw[ao (ne b z)];exact z
 ·have z:=I.base.tups b xs q;rw[ao (cB z e (by intro z;cases z))]
  exact z
 ·have z:=I.base.jh b o u q;rw[ao (cB z e (by intro z;cases z))]
  exact z
 ·obtain⟨more,z⟩:=I.base.jl b ps q;exact⟨more,by rw[ao (cB z e (by intro z;cases z))];exact z⟩
 ·rw[ao (ne _ I.free)];exact I.free
 ·rw[ao (ne _ (I.dS x c q))];exact I.dS x c q
 ·obtain⟨a1,a2,a3⟩:=I.pin p hp;exact⟨a1,by rw[ao (ne _ a2)];exact a2,a3⟩
 ·by_cases hb:b=a
  ·subst hb;rw[af]at q;cases q;exact⟨ho,(I.hok b _ e).stay (fun _ _ _ q=>q) (fun c q=>by rw[ao (cB q e (by intro z;cases z))];exact q) fun c xs q=>by rw[ao (cB q e (by intro z;cases z))];exact q⟩
  ·rw[ao hb]at q;exact(I.hok b u q).stay (fun _ _ _ q=>q) (fun c q=>by rw[ao (cB q e (by intro z;cases z))];exact q) fun c xs q=>by rw[ao (cB q e (by intro z;cases z))];exact q
theorem Inv.Io{uR:aQ}{σ0:St}{s0:Shared}{a:Addr}{xs:List V}{ob:Obj}(I0:Inv X uR σ0 H s0)(e0:H a=some (.lst xs))(I:Inv X pq σ H2 s)(e:H2 a=some (.m9 ob (.lst xs))):
 Inv X pq σ (upd H2 a (.lst xs)) s:=by
 have ne:∀ b,H2 b=none->b≠a:=fun b h z=>by rw[z,e]at h;cases h
 obtain⟨ho,hd⟩:=(show bu X.prog X.w H2 s.heap a (.m9 ob (.lst xs)) from I.hok a _ e)
 refine⟨I.ok,I.os,I.bare,⟨I.base.keep,I.base.slot,fun b o q n hx=>?_,I.base.there,fun b xs q=>?_,fun b o u q=>?_,fun b ps q=>?_⟩,I.loc,I.cell,?_,fun x c q=>?_,fun p hp=>?_,fun b u q=>?_,I.len⟩
 ·have z:=I.base.free b o q n hx;rw[ao (ne b z)];exact z
 ·have z:=I.base.tups b xs q;rw[ao (cB z e (by intro z;cases z))]
  exact z
 ·have z:=I.base.jh b o u q;rw[ao (fun y=>by
   have z0:=I0.base.jh b o u q;rw[y,e0]at z0;cases z0)]
  exact z
 ·obtain⟨more,z⟩:=I.base.jl b ps q;exact⟨more,by rw[ao (cB z e (by intro z;cases z))];exact z⟩
 ·rw[ao (ne _ I.free)];exact I.free
 ·rw[ao (ne _ (I.dS x c q))];exact I.dS x c q
 ·obtain⟨a1,a2,a3⟩:=I.pin p hp;exact⟨a1,by rw[ao (ne _ a2)];exact a2,a3⟩
 ·by_cases hb:b=a
  ·subst hb;rw[af]at q;cases q;exact hd.stay (fun _ _ _ q=>q) (fun c q=>by rw[ao (cB q e (by intro z;cases z))];exact q) fun c xs q=>by rw[ao (cB q e (by intro z;cases z))];exact q
  ·rw[ao hb]at q;exact(I.hok b u q).stay (fun _ _ _ q=>q) (fun c q=>by rw[ao (cB q e (by intro z;cases z))];exact q) fun c xs q=>by rw[ao (cB q e (by intro z;cases z))];exact q
end
def rO(h:Heap)(v:Value)(z:Int×Int):Prop:=∃(a:Addr) (o:Obj) (t u:Tok) (k:Nat),v = .ref a/\h.get? a=some o/\o.cls = .type "tuple"/\o.data = .seq #[.int z.1 t,.int z.2 u] k
theorem rO.pair{h:Heap}{v:Value}{z:Int×Int}(q:rO h v z):Er h v:=let⟨a,o,t,u,k,q⟩:=q;⟨a,o,z.1,z.2,t,u,k,q⟩
theorem rP{prog:Program}{w:World}{A:Around}{s:Shared}{vs:List Value}{n:Nat}{zs:Nat->Int×Int}(hz:∀ i,i<n->BD (zs i))(hv:∀ i,i<n->rO s.heap (vs.getD i Value.none) (zs i)):
 ∀ i j C,i<n->j<n->C (decide (kx (zs i)<kx (zs j))) s->kas_ask prog w A (tuples' true) vs i j C s:=by
 intro i j C hi hj hC;unfold kas_ask;obtain⟨a,o,t,u,k,e,ho,_,hd⟩:=hv i hi;obtain⟨a',o',t',u',k',e',ho',_,hd'⟩:=hv j hj;have oi:=hz i hi;have oj:=hz j hj;generalize zs i=z at hd hC oi;generalize zs j=z' at hd' hC oj;obtain⟨x,y⟩:=z;obtain⟨x',y'⟩:=z';unfold kx at hC;unfold BD at oi oj;dsimp only at hd hd' hC oi oj;rw[e,e'];refine kat_lt ho hd ho' hd' ?_;show KatLex prog w A true _ C [(.int x t,.int x' t'),(.int y u,.int y' u')] 0 s;rw[KatLex.eq_2];refine wpAny_eqBool_int ?_
 by_cases ex:x=x'
 ·rw[show(x==x')=true by simpa using ex]
  rw[if_pos rfl,KatLex.eq_2];refine wpAny_eqBool_int ?_
  by_cases ey:y=y'
  ·rw[show(y==y')=true by simpa using ey]
   rw[if_pos rfl,KatLex.eq_1];rw[dO (by lia)]at hC
   exact hC
  ·rw[show(y==y')=false by simpa using ey]
   rw[if_neg Bool.false_ne_true];refine kat_one _ _ (lt_int ?_);have e2:decide (y<y')=decide (x*1073741824+y<x'*1073741824+y'):=decide_eq_decide.mpr (by lia)
   rw[<-e2]at hC;exact hC
 ·rw[show(x==x')=false by simpa using ex]
  rw[if_neg Bool.false_ne_true];refine oneLt_int ?_;have e2:decide (x<x')=decide (x*1073741824+y<x'*1073741824+y'):=decide_eq_decide.mpr (by lia)
  rw[<-e2]at hC;exact hC
def F5(P:Addr)(q:Str)(lp:Pos)(ta:TA)(te:TE)(js:List Nat):TE:=fun σ H Q=>ta σ H fun vs H1=>∃(a:Addr) (ns:List Int) (kf:Int->Int×Int),vs=[.ref a]/\H1 a=some (.lst (ns.map V.int))/\ns.length<64/\(∀ n∈ns,BD (kf n))/\H1 P=some (.jU (fG q lp))/\
 (∀ H3,(∀ b u,H1 b=some u->(∀ y,u≠.own y)->(∀ qs,u≠.jU qs)->H3 b=some u)->∀ n∈ns,te (some (.int n)::eA σ js) H3 fun v H4=>aq H3 H4/\∃ d,v = .ref d/\H4 d=some (.tup [.int (kf n).1,.int (kf n).2]))/\
 ∀(l:Addr) (ns' : List Int) H4,H1 l=none->aq H1 H4->H4 l=some (.lst (ns'.map V.int))->ns'.Perm ns->ns'.Pairwise (fun x y=>kx (kf x)<=kx (kf y))->Q (.ref l) H4
section
variable {X:Cx}{pq:aQ}{σ:St}{H2:Hp}
theorem zE{A:Around}{E:fD}{P:PySem.Fin->Shared->Prop}{s:Shared}{H3:Hp}{D kS:Addr}{e e1:Nat}{its:List Value}{ns:List Int}{ds:List Addr}{kf:Int->Int×Int}
 (I:Inv X ((kS,seqObj "list" (ds.map Value.ref).toArray e)::pq) σ H3 s) (oK:F4 X kS) (pK:∀ p∈pq,p.1≠kS) (hD:H3 D=some (.m9 (seqObj "list" #[] e1) (.lst []))) (rv:Vals (ns.map V.int) its) (hn:ns.length<64) (hdl:ds.length=ns.length)
 (hk:∀(j:Nat) d n,ds[j]?=some d->ns[j]?=some n->H3 d=some (.tup [.int (kf n).1,.int (kf n).2])) (hok:∀ n∈ns,BD (kf n))
 {uR:aQ} {σ0:St} {s0:Shared} {H0:Hp} (I0:Inv X uR σ0 H0 s0) (e0:H0 D=some (.lst []))
 (fin:∀(s' : Shared) (ns' : List Int),ns'.Perm ns->ns'.Pairwise (fun x y=>kx (kf x)<=kx (kf y))->Inv X pq σ (upd (upd H3 D (.lst [])) D (.lst (ns'.map V.int))) s'->P (.done (.ret .none)) s') :
 wpAny (model X.prog X.w) A (ksk_end D false its.toArray e1 (.ref kS) ((ds.map Value.ref).toArray)) P E s:=by
 have hl:its.length=ns.length:=by have:=rv.length;rw[List.length_map]at this;lia
 obtain⟨OR,_⟩:=(show bu X.prog X.w H3 s.heap D (.m9 (seqObj "list" #[] e1) (.lst [])) from I.hok D _ hD)
 have wI:=I.pin (kS,seqObj "list" (ds.map Value.ref).toArray e) (lj _ (.head _));have OS:D≠kS:=fun z=>by
  have:=wI.2.1;rw[<-z,hD]at this;cases this
 have tail:∀(st:SortSt) (ns' : List Int) (out:List Value),(arrOf st).map (·.2)=out.toArray->out.length<64->failedOf st=none->ns'.Perm ns->ns'.Pairwise (fun x y=>kx (kf x)<=kx (kf y))->Vals (ns'.map V.int) out->wpAny (model X.prog X.w) A (ksk_tail D false e1 (.ref kS) st) P E s:=by
  intro st ns' out hout hz hf hp hs hv;have s1:=Heap.SameBut.update s.heap kS (Obj.mapSeq fun _=>(#[]:Array Value))
  have Ar:(s.heap.update kS (Obj.mapSeq fun _=>(#[]:Array Value))).get? D=some (seqObj "list" #[] e1):=(s1.2 D OS).trans OR
  have s2:=Heap.SameBut.update (s.heap.update kS (Obj.mapSeq fun _=>(#[]:Array Value))) D (Obj.mapSeq fun _=>out.toArray)
  obtain⟨c2,hc2⟩:∃ c2,((s.heap.update kS (Obj.mapSeq fun _=>(#[]:Array Value))).update D (Obj.mapSeq fun _=>out.toArray)).get? D=some (seqObj "list" out.toArray c2):=⟨_,get?_update_seq Ar fun _=>out.toArray⟩
  unfold ksk_tail
  try dsimp only
  rw[hout];refine cE (listUpdate_at wI.1 rfl ?_ (by rw[List.size_toArray,List.length_map,sizeLine_eq];lia) (Nat.zero_le _))
  refine cE (wpAny_letGo ?_);refine cE (seqEpoch_at Ar rfl ?_);refine cE (listUpdate_at Ar rfl ?_ (Nat.zero_le _) (by show out.toArray.size<=_;rw[List.size_toArray,sizeLine_eq];lia))
  rw[hf];simp only[bne_self_eq_false,Bool.false_eq_true,if_false];have J1:=I.Es (t':=s.toks) (h':=s.heap.update kS (Obj.mapSeq fun _=>(#[]:Array Value))) (pb:=pq) oK (.head _) (fun c u ne e=>(s1.2 c ne).trans e) (fun p hp=>.inr ⟨.tail _ hp,pK p hp⟩)
  have J2:=Inv.Io I0 e0 J1 hD;have J3:=J2.write (x:=D) (e:=D) (o:=.lst (ns'.map V.int)) (t':=s.toks) (h':=(s.heap.update kS (Obj.mapSeq fun _=>(#[]:Array Value))).update D (Obj.mapSeq fun _=>out.toArray)) (by rw[af];trivial) (.inl rfl) (fun b u nb eb=>(s2.2 b nb).trans eb) ⟨_,hc2⟩
   ⟨by rw[List.length_map,hp.length_eq,sizeLine_eq];lia,out,c2,hv,hc2⟩
  exact wpAny_pure (fin _ ns' hp hs J3)
 by_cases h2:2<=ns.length
 ·have kv:∀ i,i<its.length->rO s.heap ((ds.map Value.ref).getD i Value.none) (kf (ns.getD i 0)):=fun i hi=>by
   have e1:ds[i]?=some (ds[i]'(by lia)):=List.getElem?_eq_getElem _
   have e2:ns[i]?=some (ns[i]'(by lia)):=List.getElem?_eq_getElem _
   have hd:=hk i _ _ e1 e2;obtain⟨ts,rt,⟨o,eo,hc,n,hdt⟩,_⟩:=I.tuple (bB.of hd);have g1:(ds.map Value.ref).getD i Value.none = .ref (ds[i]'(by lia)):=by rw[List.getD_eq_getElem?_getD,List.getElem?_map,e1];rfl
   have g2:ns.getD i 0=ns[i]'(by lia):=by rw[List.getD_eq_getElem?_getD,e2];rfl
   rw[g1,g2]
   match ts,rt with
   | [_,_],.cons ⟨t,rfl⟩ (.cons ⟨u,rfl⟩ .nil)=>exact⟨_,o,t,u,n,rfl,eo,hc,hdt⟩
  have kz:∀ i,i<its.length->BD (kf (ns.getD i 0)):=fun i hi=>by
   have e2:ns[i]?=some (ns[i]'(by lia)):=List.getElem?_eq_getElem _
   rw[List.getD_eq_getElem?_getD,e2];exact hok _ (List.getElem_mem _)
  have hlk:(ds.map Value.ref).length=its.length:=by rw[List.length_map];lia
  have hn2 : ¬ its.toArray.size<2:=by rw[List.size_toArray];lia
  unfold ksk_end
  try dsimp only
  rw[if_neg Bool.false_ne_true,if_neg hn2,if_neg hn2,if_neg Bool.false_ne_true];refine cE (rJ (by rw[List.length_map];lia) (fun v hv=>?_) ?_)
  ·obtain⟨i,hi,rfl⟩:=List.mem_iff_getElem.mp hv;have:=(kv i (by lia)).pair
   rw[List.getD_eq_getElem?_getD,List.getElem?_eq_getElem hi]at this;exact this
  refine cE (wpAny_mono (kat_run (Q:=fun st' s'=>s' = s/\∃ p:Array Nat,b9 its.length p/\Up (fun i=>kx (kf (ns.getD i 0))) p its.length/\(arrOf st').map (·.2)=(p.toList.map fun i=>its.getD i Value.none).toArray/\failedOf st' = none) (G:=fun p s'=>s' = s/\b9 its.length p/\Up (fun i=>kx (kf (ns.getD i 0))) p its.length)
   hlk (by lia) (by lia) (fun p st' s' a1 a2 a3 a4=>⟨a4.1,p,a4.2.1,a4.2.2,kat_snds hlk a2,a3⟩) ?_) ?_ fun _ _ x=>x)
  ·exact sH (r:=fun i=>kx (kf (ns.getD i 0))) (n:=its.length) (rP kz kv) (yq (by lia)) fun hg=>⟨rfl,hg,yw (by lia)⟩
  ·rintro⟨⟨⟩,st'⟩ s' ⟨rfl,p,hg,hu,har,hf⟩
   try dsimp only
   have hpl:p.toList.length=its.length:=by have:=hg.length_eq;rw[List.length_range]at this;exact this
   refine tail st' (p.toList.map fun i=>ns.getD i 0) _ har (by rw[List.length_map];lia) hf ?_ ?_ ?_
   ·have h1:=List.Perm.map (fun i=>ns.getD i 0) hg
    have h3:(List.range its.length).map (fun i=>ns.getD i 0)=ns:=by
     rw[hl];refine List.ext_getElem (by simp) fun i h1 h2=>?_
     simp[List.getD_eq_getElem?_getD,List.getElem?_eq_getElem h2]
    rw[h3]at h1;exact h1
   ·rw[List.pairwise_map,List.pairwise_iff_getElem];intro i j hi hj hij;have:=hu.le (Nat.le_of_lt hij) (by lia)
    have ga:∀ i (hi:i<p.toList.length),p.getD i 0=p.toList[i]:=fun i hi=>by
     rw[Array.getD_eq_getD_getElem?,<-Array.getElem?_toList,List.getElem?_eq_getElem hi];rfl
    unfold Kr at this;rw[ga i hi,ga j hj]at this;exact this
   ·have:∀ l:List Nat,(∀ i∈l,i<ns.length)->Vals ((l.map fun i=>ns.getD i 0).map V.int) (l.map fun i=>its.getD i Value.none):=fun l=>by
     induction l with
     | nil=>exact fun _=>.nil
     | cons i l ih =>
       intro h;refine .cons ?_ (ih fun j hj=>h j (qi _ hj))
       have hi:=h i List.mem_cons_self;have h1:(ns.map V.int)[i]?=some (.int (ns.getD i 0)):=by
        rw[List.getElem?_map,List.getD_eq_getElem?_getD,List.getElem?_eq_getElem hi];rfl
       obtain⟨u,hu,ru⟩:=rv.get h1;have gu:its.getD i Value.none=u:=by rw[List.getD_eq_getElem?_getD,hu];rfl
       show RelV (V.int (ns.getD i 0)) (its.getD i Value.none);rw[gu];exact ru
    refine this _ fun i hi=>?_
    have:=List.mem_range.mp (hg.mem_iff.mp hi)
    lia
 ·have hn2:its.toArray.size<2:=by rw[List.size_toArray];lia
  unfold ksk_end
  try dsimp only
  rw[if_neg Bool.false_ne_true,if_pos hn2,if_pos hn2,if_neg Bool.false_ne_true];refine cE (wpAny_pure ?_);refine cE (m:=pure ((),SortSt.mk' general' (((ds.map Value.ref).toArray).zip its.toArray) #[] 7 none)) (wpAny_pure ?_);refine tail _ ns its ?_ (by lia) rfl (List.Perm.refl _) ?_ rv
  ·show Array.map (fun x:Keyed=>x.snd) (((ds.map Value.ref).toArray).zip its.toArray)=its.toArray
   apply Array.toList_inj.mp;simp;exact List.map_snd_zip (by rw[List.length_map];lia)
  ·match ns,h2 with
   | [],_=>exact .nil
   | [x],_=>exact List.pairwise_singleton _ _
   | _::_::_,h2=>exact absurd (by simp:2<=_) h2
end
section
variable {X:Cx}{params:Arguments}{body e:Expr}{scope:Scope}{lp p pos kp:Pos}{fq:List Str}{js:List Nat}{x:Str}{ta:TA}{te:TE}{c0 P:Addr}{k:Nat}
theorem BE(hr:eT (k+3) X.A)(T:dm X scope [x] fq js)(hx:scope.names.lookup x=some .local)(hg:Gl X "sorted")(hm:X.mg "sorted"=none)(hcode:X.env.code = .ref c0)(hK:PySem.W.codeHdIn X.K c0 P=true)(ha:PA X [e] ta)
 (he:∀ f c s H,eT k (yv X ([x]++fq) scope f c X.A.in1.in1 s H).A->PE (yv X ([x]++fq) scope f c X.A.in1.in1 s H) body te)
 (hb:∀ c ctv u,bindArgs (Bu X params body scope c ctv) ⟨[u],[]⟩=pure [(x,u)]:=by intro _ _ _;rfl) (hco:scope.isCoroutine=false:=by rfl) (hgen:scope.isGenerator=false:=by rfl)
 (hdef:defaultsOf params X.env=([],[]):=by rfl)
 (hs:backTo pos (starEach [e] X.env)=(false,eval e X.env)::backTo pos (starEach [] X.env):=by rfl) (hs2:(backTo pos (starEach [e] X.env)).any (·.1)=false:=by rfl) :
 PE X (.Call (.Name "sorted" p) [e] [⟨some (Str.ofString "key"),.Lambda params body scope lp,kp⟩] pos) (F5 P (X.env.qual ++ "<lambda>") lp ta te js):=by
 intro pq s σ H Q I h;refine wpAny_Call_Name_kw (jn I hg hm sJ (callWith_kw (dP (ha pos pq s σ H _ I h) fun us s1 hq=>?_) hs hs2 rfl rfl))
 obtain⟨vs,H1,I1,r1,a,ns,kf,rfl,hda,h64,hok,hP,hturn,Lr⟩:=hq;obtain⟨u,rfl,rx⟩:=vals1 r1;cases rx;refine kws_cons (Bv I1 T hcode hK hP hdef fun f c oc ctv s2 hc zz hoc J=>kws_nil ?_)
 show wpAny _ X.A (call (.builtin "sorted") [.ref a] [(Str.ofString "key",.ref f)]) _ _ s2;have hla:=yu (oc:=oc) hP hc hda (by intro y z;cases z) (by intro y z;cases z)
 have JK:fP H1 P c oc (X.env.qual ++ "<lambda>") lp P=some (.jU (fG (X.env.qual ++ "<lambda>") lp++lK lp c)):=af;have Ip:fP H1 P c oc (X.env.qual ++ "<lambda>") lp c=some (.m9 oc (.own P)):=by unfold fP;rw[ao zz,af]
 have Et:∀ b,fP H1 P c oc (X.env.qual ++ "<lambda>") lp b=none->H1 b=none:=fun b hb=>by
  have bP:b≠P:=fun z=>by rw[z,JK]at hb;cases hb
  have bc:b≠c:=fun z=>by rw[z,Ip]at hb;cases hb
  unfold fP at hb
  rwa [ao bP,ao bc]at hb
 have Mz:∀ b u,H1 b=some u->(∀ y,u≠.own y)->(∀ qs,u≠.jU qs)->fP H1 P c oc (X.env.qual ++ "<lambda>") lp b=some u:=fun b u eb n1 n2=>yu hP hc eb n1 n2
 generalize OT:fP H1 P c oc (X.env.qual ++ "<lambda>") lp=HL at J hla JK Ip Et Mz;obtain⟨its,rv,⟨o,n,ho,hcl,hdt,hd⟩,hz⟩:=J.list (aR.of hla);have hl:=rv.length;rw[List.length_map]at hl;have hsl:its.length<=sizeLine:=dl (Nat.ble_eq.mpr (by lia))
 refine call_function_entry_kw kind_sorted plain_sorted entry_sorted (ksk_s1 _ _) ?_;unfold Builtin.«sorted»;refine cE (m:=checkCount "sorted" 1 1 _) (wpAny_pure ?_);refine cE (wpAny_collect_seq a (T:="list") (.inl rfl) ho hcl hd (fun h1 hk=>?_) (by rw[List.size_toArray];exact hsl))
 have J1:=J.kept (t':=s2.toks) hk;have hfr:HL h1.objs.size=none:=J1.hok.fresh (Nat.le_refl _);refine cE (wpAny_newList ?_ (by simpa using hsl))
 have e0:its.toArray.toList=its:=by simp
 rw[e0];have vN:(h1.push (seqObj "list" its.toArray 0)).get? h1.objs.size=some (seqObj "list" its.toArray 0):=Heap.get?_push_size _ rfl;have J2:Inv X ((f,gR X params body scope c ctv)::pq) σ (upd HL h1.objs.size (.lst (ns.map V.int))) { s2 with heap:=h1.push (seqObj "list" its.toArray 0)}:=by
  refine J1.laid (t':=s2.toks) (fun b o hb=>?_) (Nat.le_refl _) ⟨?_,its,0,rv,vN⟩
  ·rw[Heap.get?_push_ne _ _ _ (Nat.ne_of_lt (Heap.lt_size hb))];exact hb
  ·rw[List.length_map,hl];exact hsl
 generalize RA:h1.objs.size=D at hfr vN J2;refine cE (wpAny_holding (wpAny_call_entry_kw slot_list_sort ⟨_,vN,rfl⟩ entry_list_sort ?body (ksk_l1 _ _)));show wpAny (model X.prog X.w) X.A.in1.in1 (Builtin.«list.sort» ⟨[.ref D],[(Str.ofString "key",.ref f)]⟩) _ _ _;rw[ksk_t1];generalize h1.push (seqObj "list" its.toArray 0)=h2 at vN J2;have s1':=Heap.SameBut.update h2 D (Obj.mapSeq fun _=>(#[]:Array Value))
 obtain⟨e1,Cr⟩:∃ e1,(h2.update D (Obj.mapSeq fun _=>(#[]:Array Value))).get? D=some (seqObj "list" #[] e1):=⟨_,get?_update_seq vN fun _=>#[]⟩
 unfold ksk_tree;refine cE (listItems_at vN rfl ?_);refine cE (listUpdate_at vN rfl ?_ (by rw[List.size_toArray];exact hsl) (Nat.zero_le _))
 refine cE (seqEpoch_at Cr rfl ?_);refine cE (wpAny_newTuple ?_ (by show its.toArray.toList.length<=_;rw[e0];exact hsl))
 refine cE (wpAny_newList ?_ (Nat.zero_le _));refine wpAny_holding ?_;have J3:=J2.write (x:=D) (e:=D) (o:=.lst []) (t':=s2.toks) (h':=h2.update D (Obj.mapSeq fun _=>(#[]:Array Value))) (by rw[af];trivial) (.inl rfl) (fun b u nb eb=>(s1'.2 b nb).trans eb) ⟨_,Cr⟩ ⟨Nat.zero_le _,[],e1,.nil,Cr⟩
 have J4:=J3.DK (a:=D) af Cr;generalize GG:upd (upd (upd HL D (.lst (ns.map V.int))) D (.lst [])) D (.m9 (seqObj "list" #[] e1) (.lst []))=H2 at J4;have at2:∀ b u,HL b=some u->H2 b=some u:=fun b u eb=>by
  have nb:b≠D:=fun z=>by rw[z,hfr]at eb;cases eb
  rw[<-GG,ao nb,ao nb,ao nb];exact eb
 have sL:H2 D=some (.m9 (seqObj "list" #[] e1) (.lst [])):=by rw[<-GG,af]
 generalize h2.update D (Obj.mapSeq fun _=>(#[]:Array Value))=h3 at J3 J4
 rw[e0];have hkk:∀ b u,h3.get? b=some u->((h3.push (seqObj "tuple" its.toArray 0)).push (seqObj "list" #[] 0)).get? b=some u:=fun b u eb=>Heap.get?_push_of_some _ (Heap.get?_push_of_some _ eb)
 have hS:(h3.push (seqObj "tuple" its.toArray 0)).objs.size=h3.objs.size+1:=size_push' ..;have oK:=J4.Ln (b:=(h3.push (seqObj "tuple" its.toArray 0)).objs.size) (by show h3.objs.size<=_;rw[hS];exact Nat.le_succ _)
 have gK:((h3.push (seqObj "tuple" its.toArray 0)).push (seqObj "list" #[] 0)).get? (h3.push (seqObj "tuple" its.toArray 0)).objs.size=some (seqObj "list" #[] 0):=Heap.get?_push_size _ rfl;have OU:H2 (h3.push (seqObj "tuple" its.toArray 0)).objs.size=none:=J4.hok.fresh (by show h3.objs.size<=_;rw[hS];exact Nat.le_succ _)
 have OV:∀ q∈(f,gR X params body scope c ctv)::pq,q.1<h3.objs.size:=fun q hq=>Heap.lt_size (J4.pin q (lj _ hq)).1
 have J5:Inv X (((h3.push (seqObj "tuple" its.toArray 0)).objs.size,seqObj "list" #[] 0)::(f,gR X params body scope c ctv)::pq) σ H2 { s2 with heap:=(h3.push (seqObj "tuple" its.toArray 0)).push (seqObj "list" #[] 0)}:=by
  have K:=J4.kept (t':=s2.toks) hkk;refine K.fN fun q hq=>?_
  rcases List.mem_cons.mp hq with rfl|hq
  ·exact⟨gK,OU,oK.2.1,oK.2.2.1,fun v z=>by cases z⟩
  ·exact K.pin q (lj _ hq)
 have pK:∀ q∈(f,gR X params body scope c ctv)::pq,q.1≠(h3.push (seqObj "tuple" its.toArray 0)).objs.size:=fun q hq=>by
  have:=OV q hq;rw[hS];exact Nat.ne_of_lt (Nat.lt_succ_of_lt this)
 have MA:its.toArray.size=its.length:=List.size_toArray ..;show wpAny (model X.prog X.w) X.A.in1.in1 (ksk_rest D (.ref f) false its.toArray e1 (.ref (h3.push (seqObj "tuple" its.toArray 0)).objs.size)) _ _ { s2 with heap:=(h3.push (seqObj "tuple" its.toArray 0)).push (seqObj "list" #[] 0)}
 generalize (h3.push (seqObj "tuple" its.toArray 0)).objs.size=kS at oK J5 pK;generalize (h3.push (seqObj "tuple" its.toArray 0)).push (seqObj "list" #[] 0)=h4 at J5;unfold ksk_rest;refine cE (wpAny_rule ?_);rw[List.forIn_toArray];refine cE (ksk_fold (fun i s'=>∃ H3 ds en,aq H2 H3/\Inv X ((kS,seqObj "list" ((ds.map Value.ref).toArray) en)::(f,gR X params body scope c ctv)::pq) σ H3 s'/\ds.length=i/\∀(j:Nat) d n,ds[j]?=some d->ns[j]?=some n->H3 d=some (.tup [.int (kf n).1,.int (kf n).2]))
  its 0 _ ⟨H2,[],0,aq.refl _,J5,rfl,fun j d n z=>by cases z⟩ ?_ ?_)
 ·rintro j y s' hy ⟨H3,ds,en,GL,I3,hdl,hkeys⟩;rw[Nat.zero_add]at hdl ⊢;have hj:j<its.length:=(vM.mp hy).1;have MB:ns[j]?=some (ns[j]'(by lia)):=List.getElem?_eq_getElem _
  obtain⟨uu,hu,ru⟩:=rv.get (show(ns.map V.int)[j]?=some (.int (ns[j]'(by lia))) by rw[List.getElem?_map,MB];rfl)
  rw[hy]at hu;cases hu;obtain⟨hct,_⟩:=(show bu X.prog X.w H3 s'.heap c (.m9 oc (.own P)) from I3.hok c _ (GL _ _ (at2 _ _ Ip)))
  have hroom:X.A.in1.in1.depth<recursionLimit:=((hr.in1).in1).depth;refine cE (wpAny_attempt (wpAny_mono (By (v:=.int (ns[j]'(by lia))) I3 T hx I3.ok.frames rfl hroom (List.Mem.tail _ (.head _)) (hoc.rec hct) (hb c ctv _) hco hgen (he f c s' H3 (((hr.in1).in1).deeper _)) ru
   (hturn H3 (fun b u eb n1 n2=>GL _ _ (at2 _ _ (Mz b u eb n1 n2))) _ (List.getElem_mem _))) (fun v s3 hv=>?_) fun _ _ z=>z))
  obtain⟨w',H4,I4,rw',MC,d,rfl,OW⟩:=hv;cases rw';have wI:=I4.pin (kS,_) (lj _ (.head _));have sb:=Heap.SameBut.update s3.heap kS (Obj.mapSeq (·.push (.ref d)));have ea:((ds.map Value.ref).toArray).push (.ref d)=((ds++[d]).map Value.ref).toArray:=by simp
  obtain⟨c2,hc2⟩:∃ c2,(s3.heap.update kS (Obj.mapSeq (·.push (.ref d)))).get? kS=some (seqObj "list" (((ds++[d]).map Value.ref).toArray) c2):=⟨_,by rw[<-ea];exact get?_update_seq wI.1 (·.push (.ref d))⟩
  try dsimp only
  refine cE (listUpdate_at wI.1 rfl ?_ (by rw[List.size_toArray,List.length_map,sizeLine_eq];lia) (Nat.le_trans (Nat.le_of_eq (Array.size_push ..)) (by rw[List.size_toArray,List.length_map,sizeLine_eq];lia)))
  refine wpAny_pure ⟨rfl,H4,ds++[d],c2,fun b u z=>MC _ _ (GL _ _ z),?_,by rw[List.length_append,List.length_singleton,hdl],fun i d' n' e1 e2=>?_⟩
  ·exact I4.Es (t':=s3.toks) oK (.head _) (fun b u nb eb=>(sb.2 b nb).trans eb) fun q hq=>by
    rcases List.mem_cons.mp hq with rfl|hq
    ·exact .inl ⟨rfl,hc2,fun v z=>by cases z⟩
    ·exact .inr ⟨.tail _ hq,pK q hq⟩
  ·by_cases hi:i<ds.length
   ·rw[List.getElem?_append_left hi]at e1;exact MC _ _ (hkeys i d' n' e1 e2)
   ·rw[List.getElem?_append_right (by lia)]at e1
    have hi2:i=j:=by
     have:=(vM.mp e1).1;rw[List.length_singleton]at this
     lia
    subst hi2;rw[hdl,Nat.sub_self]at e1;have e1:d=d':=by simpa using e1
    rw[MB]at e2;cases e2;rw[<-e1];exact OW
 ·rintro s' ⟨H3,ds,en,GL,I3,hdl,hkeys⟩;rw[Nat.zero_add]at hdl;have wI:=I3.pin (kS,_) (lj _ (.head _))
  try dsimp only
  refine cE (listItems_at wI.1 rfl ?_);refine zE I3 oK pK (GL _ _ sL) rv h64 (by lia) hkeys hok J3 af fun s5 ns' hp Ls I5=>⟨_,rfl,wpAny_pure ⟨_,rfl,?_⟩⟩
  have I6:Inv X pq σ (upd (upd H3 D (.lst [])) D (.lst (ns'.map V.int))) s5:=I5.fN fun q hq=>I5.pin q (lj _ (.tail _ hq))
  have nD:∀ b u,HL b=some u->b≠D:=fun b u eb z=>by rw[z,hfr]at eb;cases eb
  have Lu:∀ b u,HL b=some u->upd (upd H3 D (.lst [])) D (.lst (ns'.map V.int)) b=some u:=fun b u eb=>by
   rw[ao (nD b u eb),ao (nD b u eb)];exact GL _ _ (at2 _ _ eb)
  have I7:=Bw I1 hP hc zz hoc I6 (Lu _ _ JK) (Lu _ _ Ip);refine⟨.ref D,_,I7,rfl,Lr D ns' _ (Et D hfr) (Bx hP hc zz (oc:=oc) fun b u eb=>Lu b u (by rw[<-OT];exact eb)) ?_ hp Ls⟩
  unfold given;rw[ao (fun z=>nD _ _ JK z.symm),ao (fun z=>nD _ _ Ip z.symm),af]
end
section
variable {X:Cx}{pq:aQ}{σ:St}{H:Hp}{s:Shared}
theorem uW{a:Addr}{ps:List (Addr×Int×Int)}{its:List Value}{E:fD}{P:PySem.Fin->Shared->Prop}{A:Around}(I:Inv X pq σ (upd H a (.lst (ps.map fun q=>V.ref q.1))) s)(ha:H a=none)(ho:s.heap.get? a=some (seqObj "list" its.toArray 0))(rv:Vals (ps.map fun q=>V.ref q.1) its)
 (hp:∀ q∈ps,H q.1=some (.tup [.int q.2.1,.int q.2.2])) (hok:∀ q∈ps,BD q.2) (h2:2<=ps.length) (hn:ps.length<64)
 (k:∀(h' : Heap) (c:Nat) (ps' : List (Addr×Int×Int)) (out:List Value),ps'.Perm ps->ps'.Pairwise (fun x y=>kx x.2<=kx y.2)->Vals (ps'.map fun q=>V.ref q.1) out->h'.get? a=some (listOf out.toArray c)->(∀ m,s.heap.Ns X.env.locals m->h'.Ns X.env.locals m)->(∀ b o,b≠X.env.locals->b≠a->s.heap.get? b=some o->h'.get? b=some o)->P (PySem.Fin.done (PySem.Flow.ret PySem.Value.none)) { s with heap:=h'}) :
 wpAny (model X.prog X.w) A (PySem.Builtin.«list.sort» { pos:=[PySem.Value.ref a]}) P E s:=by
 have hl:=rv.length;rw[List.length_map]at hl;obtain⟨m,F⟩:=I.fr;have hne:a≠X.env.locals:=fun z=>by
  have:=I.free;rw[<-z,af]at this;cases this
 have hb:X.base.get? a=none:=by
  cases e:X.base.get? a with
  | none=>rfl
  | some o =>
    have:=(I.bs a o e).2;rw[af]at this;cases this
 have N:News X.base X.env.locals s.heap (rest X.base s.heap X.env.locals a):=fun p hp=>Aw p (List.mem_filter.mp hp).1
 have at_:∀ i,i<ps.length->its.getD i Value.none = .ref (ps.getD i (0,0,0)).1/\ps.getD i (0,0,0)∈ps:=fun i hi=>by
  have h1:(ps.map fun q=>V.ref q.1)[i]?=some (.ref (ps.getD i (0,0,0)).1):=by
   rw[List.getElem?_map,List.getD_eq_getElem?_getD,List.getElem?_eq_getElem hi];rfl
  obtain⟨u,hu,ru⟩:=rv.get h1;refine⟨?_,?_⟩
  ·rw[List.getD_eq_getElem?_getD,hu];exact ru
  ·rw[List.getD_eq_getElem?_getD,List.getElem?_eq_getElem hi];exact List.getElem_mem hi
 refine kat_list_sort F N ho hne hb xJ (by lia) (by lia) fun e1 h' F' N'=>?_
 have kept:=lu (d:=a) I.bk F' fun p hp=>N' p (qi _ hp)
 have pv:∀ q∈ps,rO h' (.ref q.1) q.2:=fun q hq=>by
  have hH:=hp q hq;have ne1:q.1≠a:=fun z=>by
   rw[z,ha]at hH;cases hH
  have MD:upd H a (.lst (ps.map fun q=>V.ref q.1)) q.1=some (.tup [.int q.2.1,.int q.2.2]):=by rw[ao ne1];exact hH
  have ne2:q.1≠X.env.locals:=fun z=>by
   have:=I.free;rw[<-z,MD]at this;cases this
  obtain⟨ts,rt,⟨o,e,hc,n,hd⟩,_⟩:=I.tuple (bB.of MD)
  match ts,rt with
  | [_,_],.cons ⟨t,rfl⟩ (.cons ⟨u,rfl⟩ .nil)=>exact⟨q.1,o,t,u,n,rfl,kept _ _ ne2 ne1 e,hc,hd⟩
 have ME:∀ i,i<its.length->rO h' (its.getD i Value.none) (ps.getD i (0,0,0)).2:=fun i hi=>by
  obtain⟨e,hm⟩:=at_ i (by lia)
  rw[e];exact pv _ hm
 refine rJ (by lia) (fun v hv=>?_) (sH (r:=fun i=>kx (ps.getD i (0,0,0)).2) (n:=its.length) (rP (fun i hi=>hok _ (at_ i (by lia)).2) ME) (yq (by lia)) (fun GN=>?_))
 ·obtain⟨i,hi,rfl⟩:=List.mem_iff_getElem.mp hv;have:=(ME i hi).pair;rw[List.getD_eq_getElem?_getD,List.getElem?_eq_getElem hi]at this;exact this
 have hup:=yw (r:=fun i=>kx (ps.getD i (0,0,0)).2) (n:=its.length) (by lia)
 generalize SRun (fun i=>kx (ps.getD i (0,0,0)).2) (kas_sort its.length)=p' at GN hup ⊢
 refine KasFin.intro F' N' (UpdF.head xJ) fun h'' c MF MG=>?_
 have Iq:∀ b o,b≠X.env.locals->b≠a->s.heap.get? b=some o->h''.get? b=some o:=lu (d:=a) I.bk MF fun p hp=>MG p (qi _ hp)
 have yx:(p'.toList.map fun i=>ps.getD i (0,0,0)).Perm ps:=by
  have h1:=List.Perm.map (fun i=>ps.getD i (0,0,0)) GN
  have h2:(List.range its.length).map (fun i=>ps.getD i (0,0,0))=ps:=by
   rw[<-hl];refine List.ext_getElem (by simp) fun i h1 h2=>?_
   simp[List.getD_eq_getElem?_getD,List.getElem?_eq_getElem h2]
  rw[h2]at h1;exact h1
 have hpl:p'.toList.length=its.length:=by have:=GN.length_eq;rw[List.length_range]at this;exact this
 have F6:(p'.toList.map fun i=>ps.getD i (0,0,0)).Pairwise (fun x y=>kx x.2<=kx y.2):=by
  rw[List.pairwise_map,List.pairwise_iff_getElem];intro i j hi hj hij;have:=hup.le (Nat.le_of_lt hij) (by lia)
  have ga:∀ i (hi:i<p'.toList.length),p'.getD i 0=p'.toList[i]:=fun i hi=>by
   rw[Array.getD_eq_getD_getElem?,<-Array.getElem?_toList,List.getElem?_eq_getElem hi];rfl
  unfold Kr at this;rw[ga i hi,ga j hj]at this;exact this
 refine k h'' c _ _ yx F6 ?_ (MG _ List.mem_cons_self).1 (fun m' hm'=>?_) Iq
 ·have:∀ l:List Nat,(∀ i∈l,i<ps.length)->Vals ((l.map fun i=>ps.getD i (0,0,0)).map fun q=>V.ref q.1) (l.map fun i=>its.getD i Value.none):=fun l=>by
   induction l with
   | nil=>exact fun _=>.nil
   | cons i l ih =>
     intro h;refine .cons ?_ (ih fun j hj=>h j (qi _ hj))
     exact(at_ i (h i List.mem_cons_self)).1
  refine this _ fun i hi=>?_
  have:=List.mem_range.mp (GN.mem_iff.mp hi)
  lia
 ·rw[FY hm' F.ns];exact MF.ns
end
section
variable {X:Cx}
theorem uX(K:bw)(hK:X.K=K:=by rfl):eU X (.builtin "sorted") (fun xs H Q=>∃(p:Addr) (ps:List (Addr×Int×Int)),xs=[.ref p]/\aR K H p (ps.map fun q=>V.ref q.1)/\(∀ q∈ps,H q.1=some (.tup [.int q.2.1,.int q.2.2]))/\(∀ q∈ps,BD q.2)/\ps.length<64/\
 ∀(l:Addr) (ps' : List (Addr×Int×Int)),H l=none->ps'.Perm ps->ps'.Pairwise (fun x y=>kx x.2<=kx y.2)->Q (.ref l) (upd H l (.lst (ps'.map fun q=>V.ref q.1)))):=by
 subst hK;intro pq s σ H xs us Q I r h;obtain⟨p,ps,rfl,hq,hp,hok,hn,q⟩:=h;obtain⟨u,rfl,rx⟩:=vals1 r;cases rx;obtain⟨its,rv,⟨o,n,ho,hc,hdt,hd⟩,hz⟩:=I.list hq;have hl:=rv.length;rw[List.length_map]at hl;have hsl:its.length<=sizeLine:=dl (Nat.ble_eq.mpr (by lia))
 refine Calls.call_function_entry kind_sorted plain_sorted entry_sorted (args_sorted1 _) ?_;unfold Builtin.«sorted»;refine cE (m:=checkCount "sorted" 1 1 _) (wpAny_pure ?_);refine cE (wpAny_collect_seq p (T:="list") (.inl rfl) ho hc hd (fun h1 hk=>?_) (by rw[List.size_toArray];exact hsl))
 have I1:=I.kept (t':=s.toks) hk;have hfr:H h1.objs.size=none:=I1.hok.fresh (Nat.le_refl _);refine cE (wpAny_newList ?_ (by simpa using hsl))
 have vN:(h1.push (seqObj "list" its.toArray.toList.toArray 0)).get? h1.objs.size=some (seqObj "list" its.toArray.toList.toArray 0):=Heap.get?_push_size _ rfl;have e0:its.toArray.toList=its:=by simp
 rw[e0]at vN;have I2:Inv X pq σ (upd H h1.objs.size (.lst (ps.map fun q=>V.ref q.1))) { s with heap:=h1.push (seqObj "list" its.toArray 0)}:=by
  refine I1.laid (t':=s.toks) (fun b o hb=>?_) (Nat.le_refl _) ⟨?_,its,0,rv,vN⟩
  ·rw[Heap.get?_push_ne _ _ _ (Nat.ne_of_lt (Heap.lt_size hb))];exact hb
  ·rw[List.length_map,hl];exact hsl
 rw[e0];refine cE (wpAny_holding (wpAny_call_entry slot_list_sort ⟨_,vN,rfl⟩ entry_list_sort (?_) (args_list_sort _)));have Ir:∀ ps' : List (Addr×Int×Int),ps'.Perm ps->(ps'.map fun q=>V.ref q.1).length<=sizeLine:=fun ps' GN=>by
  rw[List.length_map,GN.length_eq,hl];exact hsl
 have kp:∀ b u,h1.get? b=some u->(h1.push (seqObj "list" its.toArray 0)).get? b=some u:=fun b u e=>by
  rw[Heap.get?_push_ne _ _ _ (Nat.ne_of_lt (Heap.lt_size e))];exact e
 by_cases h2:2<=ps.length
 ·refine uW I2 hfr vN rv hp hok h2 hn fun h' c ps' out yx F6 OX hget hns Iu=>⟨_,rfl,wpAny_pure ⟨_,rfl,?_⟩⟩
  refine⟨.ref h1.objs.size,_,I1.Il (t':=s.toks) (o:=.lst (ps'.map fun q=>V.ref q.1)) (fun b u hb e=>Iu b u hb (Nat.ne_of_lt (Heap.lt_size e)) (kp b u e)) (fun m hm=>hns m ?_) (Nat.le_refl _) ⟨Ir _ yx,out,c,OX,hget⟩,rfl,q _ ps' hfr yx F6⟩
  obtain⟨o',es,ep,e,z⟩:=hm;exact⟨o',es,ep,kp _ _ e,z⟩
 ·have few:ps.Pairwise (fun x y=>kx x.2<=kx y.2):=by
   match ps,h2 with
   | [],_=>exact .nil
   | [x],_=>exact List.pairwise_singleton _ _
   | _::_::_,h2=>exact absurd (by simp:2<=_) h2
  refine Bp vN (by lia) ⟨_,rfl,wpAny_pure ⟨_,rfl,?_⟩⟩
  obtain⟨e,he⟩:=sortedHeap_at (out:=its.toArray) vN;refine⟨.ref h1.objs.size,_,I1.laid (t':=s.toks) (o:=.lst (ps.map fun q=>V.ref q.1)) (fun b o hb=>?_) (Nat.le_refl _) ⟨Ir ps (List.Perm.refl _),its,e,rv,he⟩,rfl,q _ ps hfr (List.Perm.refl _) few⟩
  have hlt:=Heap.lt_size hb;show(sortedHeap (h1.push (seqObj "list" its.toArray 0)) h1.objs.size its its.toArray).get? b=some o;rw[sortedHeap_old (Nat.ne_of_lt hlt) (by rw[size_push'];exact Nat.lt_succ_of_lt hlt)]
  exact kp b o hb
end
end L2
namespace RM
section
variable {N:Net}
theorem DL(m t:Nat):∀{n:Nat},t<n->m.testBit t=true->cnt (fun k=>m.testBit k && !decide (k=t)) n+1=cnt (fun k=>m.testBit k) n:=by
 intro n
 induction n with
 | zero=>exact fun h=>absurd h (Nat.not_lt_zero _)
 | succ n ih =>
   intro h hb;show cnt _ n+(if(m.testBit n && !decide (n=t))=true then 1 else 0)+1=cnt _ n+(if m.testBit n=true then 1 else 0)
   by_cases e:n=t
   ·subst e;rw[hb,cN rfl];have:cnt (fun k=>m.testBit k && !decide (k=n)) n=cnt (fun k=>m.testBit k) n:=dU fun k hk=>by rw[dO (by lia),Bool.not_false,Bool.and_true]
    rw[this];rfl
   ·have:=ih (by lia) hb
    rw[dO e,Bool.not_false,Bool.and_true]
    lia
theorem pN{m:Nat}(hm:m<2^N.n)(r:N.Ring m):cnt (fun k=>m.testBit k) N.n+N.ay.length<=N.n+1:=by
 obtain⟨t,ht⟩:∃ t,m.testBit t=true:=by
  apply Classical.byContradiction;intro hn;exact r.1 (Nat.eq_of_testBit_eq fun k=>by
   rw[Nat.zero_testBit];cases h:m.testBit k with
   | false=>rfl
   | true=>exact absurd ⟨k,h⟩ hn)
 have Iv:=eE hm ht;have h:=DF (N:=N) (ks:=(List.range N.n).filter fun k=>!(m.testBit k && !decide (k=t))) fun q hq ev hz=>by
  have sub:∀ k,q.testBit k=true->m.testBit k=true/\k≠t:=fun k hk=>by
   have hkn:=eE hq hk;apply Classical.byContradiction;intro hn;have:=hz k (List.mem_filter.mpr ⟨List.mem_range.mpr hkn,by
    cases h1:m.testBit k with
    | false=>rfl
    | true =>
      by_cases e:k=t
      ·rw[cN e];rfl
      ·exact absurd ⟨h1,e⟩ hn⟩)
   rw[this]at hk;cases hk
  rcases r.2.2 q (fun k hk=>(sub k hk).1) ev with e|e
  ·exact e
  ·exact absurd rfl (sub t (by rw[e];exact ht)).2
 rw[fb]at h;have h1:=gx (fun k=>m.testBit k && !decide (k=t)) N.n
 have h2:=DL m t Iv ht
 lia
def uY:Nat->Nat->Nat
 | 0,_=>0
 | n+1,z=>z%2+uY n (z/2)
theorem pO{m:Nat}:∀ cs:List Nat,uY cs.length (code m cs)=(cs.filter fun c=>m.testBit c).length
 | []=>rfl
 | c::cs=>by
   have ih:=pO (m:=m) cs;unfold code;show((if m.testBit c=true then 1 else 0)+2*code m cs)%2+uY cs.length (((if m.testBit c=true then 1 else 0)+2*code m cs)/2)=_
   cases h:m.testBit c with
   | true =>
     rw[if_pos rfl,List.filter_cons,if_pos h,List.length_cons,<-ih];have e1:(1+2*code m cs)%2=1:=by lia
     have e2:(1+2*code m cs)/2=code m cs:=by lia
     rw[e1,e2,Nat.add_comm]
   | false =>
     rw[if_neg Bool.false_ne_true,List.filter_cons,if_neg (by rw[h];decide),<-ih]
     have e1:(0+2*code m cs)%2=0:=by lia
     have e2:(0+2*code m cs)/2=code m cs:=by lia
     rw[e1,e2,Nat.zero_add]
theorem zF{r f:Nat}(h:r+f<=9)(hr:7<=r):((List.range (2^r)).filter fun z=>decide (uY r z<=f+1)&&decide (z≠0)).length<64:=by
 have h1:r=7\/r=8\/r=9:=by lia
 rcases h1 with rfl|rfl|rfl
 ·have hf:f=0\/f=1\/f=2:=by lia
  rcases hf with rfl|rfl|rfl<;>decide +kernel
 ·have hf:f=0\/f=1:=by lia
  rcases hf with rfl|rfl<;>decide +kernel
 ·have hf:f=0:=by lia
  rcases hf with rfl
  decide +kernel
theorem lM(hn:N.n<=9){l:List Nat}(nd:l.Nodup)(h:∀ m∈l,m<2^N.n/\N.Ring m):l.length<64:=by
 by_cases h6:N.ay.length<=6
 ·exact Nat.lt_of_lt_of_le (zu nd h) (Nat.pow_le_pow_right (n:=2) (by decide) h6)
 have cl:N.ay.length<=N.n:=by
  have h1:N.ay.length<=(List.range N.n).length:=List.length_filter_le ..
  rwa [List.length_range]at h1
 have inj:∀ m q,m<2^N.n->q<2^N.n->N.cP m->N.cP q->code m N.ay=code q N.ay->m=q:=fun m q hm hq em eq e=>gj hm hq em eq fun c hc hf=>code_inj e c (bS.mpr ⟨hc,hf⟩)
 have Ll:(l.map fun m=>code m N.ay).Nodup:=by
  refine List.Pairwise.map _ (fun a b (hab:a≠b/\a∈l/\b∈l)=>?_) ?_ (R:=fun a b=>a≠b/\a∈l/\b∈l)
  ·obtain⟨h1,h2⟩:=h a hab.2.1;obtain⟨h3,h4⟩:=h b hab.2.2;exact fun e=>hab.1 (inj a b h1 h3 h2.2.1 h4.2.1 e)
  ·exact List.Pairwise.imp_of_mem (fun {a b} ha hb hne=>⟨hne,ha,hb⟩) nd
 have z0:∀ cs,code 0 cs=0:=fun cs=>by
  induction cs with
  | nil=>rfl
  | cons c cs ih =>
    unfold code;rw[Nat.zero_testBit,ih,if_neg Bool.false_ne_true]
 have:=mE (L:=(List.range (2^N.ay.length)).filter fun z=>decide (uY N.ay.length z<=(N.n-N.ay.length)+1)&&decide (z≠0)) Ll fun x hx=>by
  obtain⟨m,hm,rfl⟩:=List.mem_map.mp hx;obtain⟨h1,h2⟩:=h m hm;refine List.mem_filter.mpr ⟨List.mem_range.mpr (sF _ _),Bool.and_eq_true_iff.mpr ⟨cN ?_,cN fun e=>h2.1 (inj m 0 h1 (Nat.two_pow_pos _) h2.2.1 cP.zero (by rw[e,z0]))⟩⟩
  rw[pO];have h3:=pN h1 h2;have h4:(N.ay.filter fun c=>m.testBit c).length<=cnt (fun k=>m.testBit k) N.n:=by
   unfold Net.ay;rw[List.filter_filter,fb];exact wz fun k _ h=>(Bool.and_eq_true_iff.mp h).1
  lia
 rw[List.length_map]at this;exact Nat.lt_of_le_of_lt this (zF (by lia) (by lia))
def pP(N:Net)(j:Nat):List Nat:=(List.range (2^j)).map fun z=>N.cK z N.ay 0
theorem BF:pP N 0=[0]:=by
 unfold pP;show[N.cK 0 N.ay 0]=[0];rw[DC]
theorem F7{j c:Nat}(h:N.ay[j]?=some c):N.cK (2^j) N.ay 0=N.ring c:=by
 have hc:=bS.mp (vU h);have e1:=fm (N:=N) (z:=2^j);have hr:=zx hc.1 hc.2;have hl:N.ring c<2^N.n:=iH fun k hk=>by
  rcases jx hk with z|z
  ·rw[z];exact hc.1
  ·exact z.1
 refine gj e1.2 hl e1.1 hr.2.1 fun d hd hf=>?_
 obtain⟨i,hi⟩:=pG hd hf;rw[iJ hi,fc hc.2 hf,Nat.testBit_two_pow];refine decide_eq_decide.mpr ⟨fun e=>?_,fun e=>?_⟩
 ·subst e;rw[h]at hi;exact Option.some.inj hi
 ·subst e;obtain⟨a1,a2⟩:=vM.mp h;obtain⟨b1,b2⟩:=vM.mp hi;exact(List.getElem_inj rK).mp (a2.trans b2.symm)
theorem BG{j c:Nat}(h:N.ay[j]?=some c):pP N (j+1)=pP N j++(pP N j).map fun e=>e^^^N.ring c:=by
 unfold pP;have e:(2:Nat)^(j+1)=2^j+2^j:=by rw[Nat.pow_succ];lia
 rw[e,List.range_add,List.map_append,List.map_map,List.map_map]
 congr 1
 refine List.map_congr_left fun z hz=>?_
 have hz:=List.mem_range.mp hz;show N.cK (2^j+z) N.ay 0=N.cK z N.ay 0^^^N.ring c;rw[<-F7 h,<-wC]
 congr 1
 have e0:=Nat.two_pow_add_eq_or_of_lt hz 1;rw[Nat.mul_one]at e0;rw[Nat.xor_comm,e0];refine Nat.eq_of_testBit_eq fun i=>?_
 rw[Nat.testBit_or,Nat.testBit_xor,Nat.testBit_two_pow]
 by_cases hi:j=i
 ·subst hi;rw[Nat.testBit_lt_two_pow hz,cN rfl];rfl
 ·rw[dO hi,Bool.false_or,Bool.false_xor]
theorem yy{m:Nat}:m∈pP N N.ay.length↔N.cP m/\m<2^N.n:=by
 unfold pP;rw[List.mem_map]
 constructor
 ·rintro⟨z,_,rfl⟩;exact fm
 ·rintro⟨h1,h2⟩;obtain⟨z,hz,e⟩:=F0 h2 h1;exact⟨z,List.mem_range.mpr hz,e⟩
theorem zG:(pP N N.ay.length).Nodup:=by
 unfold pP;refine List.pairwise_map.mpr (List.Pairwise.imp_of_mem (fun {z y} hz hy h e=>?_) List.pairwise_lt_range)
 have:=DA h (List.mem_range.mp hy)
 lia
theorem zH(h:0<N.n):N.ay.length<N.n:=by
 have h0:N.jj 0=true:=by
  have e:decide (N.cM 0 (N.a 0)=N.cM 0 (N.b 0))=false:=dO (N.ne 0 h);show(!decide (N.cM 0 (N.a 0)=N.cM 0 (N.b 0)))=true;rw[e];rfl
 have h1:N.ay.length<(List.range N.n).length:=List.length_filter_lt_length_iff_exists.mpr ⟨0,List.mem_range.mpr h,by rw[h0];decide⟩
 rwa [List.length_range]at h1
theorem lN(h2:N.p=2){k x:Nat}(hk:k<N.n)(hx:x<2):N.inc k x=true:=by
 have a:=N.al k hk;have b:=N.bl k hk;have e:=N.ne k hk;rw[h2]at a b;unfold Net.inc
 by_cases h1:N.a k=x
 ·rw[cN h1,dO (by lia)]
  rfl
 ·rw[dO h1,cN (by lia)]
  rfl
theorem uZ(h2:N.p=2):N.n<=N.ay.length+1:=by
 have h:=nc (N:=N);rw[oY];have r0:N.root (fun _=>true) N.n 0=true:=cN (Nat.le_zero.mp (jZ N.n 0))
 have:0<cnt (N.root (fun _=>true) N.n) N.p:=iI (k:=0) r0 (by lia)
 lia
theorem gC{j k:Nat}(h:j<k):2^k^^^2^j=2^k+2^j:=by
 have hj:2^j<2^k:=Nat.pow_lt_pow_right (by decide) h
 have e:=Nat.two_pow_add_eq_or_of_lt hj 1;rw[Nat.mul_one]at e;rw[e];refine Nat.eq_of_testBit_eq fun i=>?_
 rw[Nat.testBit_or,Nat.testBit_xor,Nat.testBit_two_pow,Nat.testBit_two_pow]
 by_cases h1:k=i
 ·rw[cN h1,dO (show ¬ j=i by lia)]
  rfl
 ·rw[dO h1,Bool.false_xor,Bool.false_or]
theorem BH(h2:N.p=2){j k:Nat}(OY:j<k)(hk:k<N.n):N.Ring (2^k+2^j)/\2^k+2^j<2^N.n:=by
 rw[<-gC OY];have bit:∀ i,(2^k^^^2^j).testBit i=(decide (k=i)^^decide (j=i)):=fun i=>by rw[Nat.testBit_xor,Nat.testBit_two_pow,Nat.testBit_two_pow]
 refine⟨⟨fun e=>?_,fun x hx=>?_,fun q hq ev=>?_⟩,Nat.xor_lt_two_pow (Nat.pow_lt_pow_right (by decide) hk) (Nat.pow_lt_pow_right (by decide) (by lia))⟩
 ·have:=bit k;rw[e,Nat.zero_testBit,cN rfl,dO (by lia)]at this
  cases this
 ·rw[h2]at hx;rw[e8,fE hk,fE (show j<N.n by lia),lN h2 hk hx,lN h2 (by lia) hx]
  rfl
 ·have only:∀ i,q.testBit i=true->i=k\/i=j:=fun i hi=>by
   have:=hq i hi;rw[bit]at this
   by_cases h1:k=i
   ·exact .inl h1.symm
   ·rw[dO h1,Bool.false_xor]at this;exact .inr (kr this).symm
  have b0:=ev 0 (by lia)
  have sum:∀ x:Nat,q=x->N.bd x 0=false:=fun x e=>by rw[<-e];exact b0
  have e:∀ i,q.testBit i=((q.testBit k&&decide (k=i)) || (q.testBit j&&decide (j=i))):=fun i=>by
   by_cases h1:k=i
   ·subst h1;rw[cN rfl,dO (show ¬ j=k by lia),Bool.and_true,Bool.and_false,Bool.or_false]
   ·by_cases h3:j=i
    ·subst h3;rw[dO h1,cN rfl,Bool.and_false,Bool.and_true,Bool.false_or]
    ·rw[dO h1,dO h3,Bool.and_false,Bool.and_false];cases hb:q.testBit i with
     | false=>rfl
     | true=>rcases only i hb with z | z<;>lia
  cases OZ:q.testBit k<;>cases O0:q.testBit j<;>rw[OZ,O0]at e
  ·exact .inl (Nat.eq_of_testBit_eq fun i=>by rw[e,Nat.zero_testBit];rfl)
  ·have:=sum (2^j) (Nat.eq_of_testBit_eq fun i=>by rw[e,Nat.testBit_two_pow];simp)
   rw[fE (show j<N.n by lia),lN h2 (by lia) (by decide)]at this
   cases this
  ·have:=sum (2^k) (Nat.eq_of_testBit_eq fun i=>by rw[e,Nat.testBit_two_pow];simp)
   rw[fE hk,lN h2 hk (by decide)]at this
   cases this
  ·refine .inr (Nat.eq_of_testBit_eq fun i=>?_)
   rw[e,bit,Bool.true_and,Bool.true_and]
   by_cases h1:k=i
   ·rw[cN h1,dO (show ¬ j=i by lia)]
    rfl
   ·rw[dO h1,Bool.false_or,Bool.false_xor]
theorem BI(h2:N.p=2){m:Nat}(hm:m<2^N.n)(r:N.Ring m):∃ j k,j<k/\k<N.n/\m=2^k+2^j:=by
 have sh:=pN hm r;have rk:=uZ h2;have pos:0<cnt (fun i=>m.testBit i) N.n:=by
  rcases Nat.eq_zero_or_pos (cnt (fun i=>m.testBit i) N.n) with z|z
  ·exact absurd ((pC hm).mp z) r.1
  ·exact z
 obtain⟨k,hk,hb⟩:=gm pos;have c1:=uO hk hb;have hm1:m^^^2^k<2^N.n:=Nat.xor_lt_two_pow hm (Nat.pow_lt_pow_right (by decide) hk)
 have b0:=r.2.1 0 (by lia)
 have pos1:0<cnt (fun i=>(m^^^2^k).testBit i) N.n:=by
  rcases Nat.eq_zero_or_pos (cnt (fun i=>(m^^^2^k).testBit i) N.n) with z|z
  ·have e:=jz ((pC hm1).mp z);rw[e,fE hk,lN h2 hk (by decide)]at b0
   cases b0
  ·exact z
 obtain⟨j,hj,Lv⟩:=gm pos1;have c2:=uO hj Lv;have hm2:m^^^2^k^^^2^j<2^N.n:=Nat.xor_lt_two_pow hm1 (Nat.pow_lt_pow_right (by decide) hj)
 have e2:m^^^2^k^^^2^j=0:=(pC hm2).mp (by lia)
 have e3:m^^^2^k=2^j:=jz e2;have e4:m=2^j^^^2^k:=by rw[<-e3,Nat.xor_assoc,Nat.xor_self,Nat.xor_zero]
 have ne:j≠k:=fun z=>by
  rw[z,Nat.testBit_xor,hb,Nat.testBit_two_pow,cN rfl]at Lv;cases Lv
 rcases Nat.lt_or_gt_of_ne ne with h|h
 ·exact⟨j,k,h,hk,by rw[e4,Nat.xor_comm,gC h]⟩
 ·exact⟨k,j,h,hj,by rw[e4,gC h]⟩
theorem BJ{L:Nat->Int}{n j k:Nat}(h:j<k)(hk:k<n):lsum L (fun i=>(2^k+2^j).testBit i) n=L k+L j:=by
 rw[<-gC h];have:lsum L (fun i=>(2^k^^^2^j).testBit i) n=lsum L (fun i=>(2^k).testBit i^^(2^j).testBit i) n:=pH fun i _=>Nat.testBit_xor ..
 rw[this,pI fun i _ hi=>?_,uQ hk,uQ (show j<n by lia)]
 rw[Nat.testBit_two_pow]at hi ⊢;have:=kr hi;exact dO (by lia)
end
end RM
namespace L2
open PySem
theorem cQ{lo:Int}{n:Nat}{g:TG}{tb:TS}{D:Ends}{σ:St}{H:Hp}(Pv:Nat->St->Hp->Prop)(h0:Pv 0 σ H)
 (hs:∀ i,let D' : Ends:={ D with nx:=Pv (i+1),ct:=Pv (i+1),bk:=D.nx};∀ σ H,i<n->Pv i σ H->g (.int (lo+i)) σ H fun σ2 H2=>tb D' σ2 H2) (hd:∀ σ H,Pv n σ H->D.nx σ H) :
 ∃ W:Nat->Nat->St->Hp->Prop,(∃ m,W 0 m σ H)/\∀ i m σ H,W i m σ H->
   ((AG lo n).stop i H/\D.nx σ H)\/((AG lo n).go i H/\∃ N:St->Hp->Prop,(∀ σ' H',N σ' H'->∃ m',m'<m/\W (i+1) m' σ' H')/\∀ x H',(AG lo n).D0 i H x H'->g x σ H' fun σ2 H2=>tb { D with nx:=N,ct:=N,bk:=D.nx} σ2 H2) :=
 yO Pv h0 (fun i σ H hi p=>hs i σ H hi p) hd
theorem ig{K:bw}{a:Addr}{xs:List V}{g:TG}{tb:TS}{D:Ends}{σ:St}{H:Hp}(Pv:Nat->St->Hp->Prop)(h0:Pv 0 σ H)(hl:∀ i σ H,i<=xs.length->Pv i σ H->aR K H a xs)
 (hs:∀ i x,let D' : Ends:={ D with nx:=Pv (i+1),ct:=Pv (i+1),bk:=D.nx};∀ σ H,xs[i]?=some x->Pv i σ H->g x σ H fun σ2 H2=>tb D' σ2 H2) (hd:∀ σ H,Pv xs.length σ H->D.nx σ H) :
 ∃ W:Nat->Nat->St->Hp->Prop,(∃ m,W 0 m σ H)/\∀ i m σ H,W i m σ H->
   ((CH K a).stop i H/\D.nx σ H)\/((CH K a).go i H/\∃ N:St->Hp->Prop,(∀ σ' H',N σ' H'->∃ m',m'<m/\W (i+1) m' σ' H')/\∀ x H',(CH K a).D0 i H x H'->g x σ H' fun σ2 H2=>tb { D with nx:=N,ct:=N,bk:=D.nx} σ2 H2) :=
 AI Pv h0 hl (fun i x σ H hi p=>hs i x σ H hi p) hd
theorem F8{X:Cx}{e:Expr}{T:String}{r:V->List V->Hp->VK->Prop}{to:TE}{t:TA}(K:bw)(p:PE X e (KG X.K T r to t))(h:X.K=K:=by rfl):PE X e (KG K T r to t):=by subst h;exact p
theorem c8{K:bw}{H:Hp}{a:Addr}{xs:List V}{k:Int}{v:V}{R:V->Prop}(hs:bB K H a xs)(ha:xV xs k=some v)(q:R v):∃ p ys k' w,V.ref a = .ref p/\V.int k = .int k'/\bB K H p ys/\xV ys k' = some w/\R w:=⟨a,xs,k,v,rfl,rfl,hs,ha,q⟩
theorem kQ{K:bw}{H:Hp}{a:Addr}{xs:List V}{k:Int}{v:V}{R:V->Prop}(hs:aR K H a xs)(ha:xV xs k=some v)(q:R v):∃ p ys k' w,V.ref a = .ref p/\V.int k = .int k'/\aR K H p ys/\xV ys k' = some w/\R w:=⟨a,xs,k,v,rfl,rfl,hs,ha,q⟩
theorem bW{i j:Int}{R:Int->Int->Prop}(h:R i j):∃ i' j',V.int i = .int i'/\V.int j = .int j'/\R i' j':=⟨i,j,rfl,rfl,h⟩
theorem pQ{K:bw}{H:Hp}{a:Addr}{xs:List V}{E:Addr->Prop}{R:List V->Prop}(e:E a)(h:aR K H a xs\/bB K H a xs)(q:R xs):∃ p ys,E p/\(aR K H p ys\/bB K H p ys)/\R ys:=⟨a,xs,e,h,q⟩
theorem av{α:Type}{A R:α->Prop}{x:α}(h:A x)(r:R x):∃ x,A x/\R x:=⟨x,h,r⟩
open PySem PySem.Spec PyProof.Rows
section
variable {K:bw}{mg:jk}{x:Str}{st:Stmt}{f c0 p0:Addr}{fd:FuncData}{ps:List Str}{h:Heap}
structure Dc(K:bw)(mg:jk)(x:Str)(f:Addr)(fd:FuncData)(ps:List Str):Prop where
 m:mg x=some (.ref f)
 k:PySem.W.keepIn K (.ref f)=true
 b:Binds K fd ps []
structure Dk(K:bw)(x:Str)(st:Stmt)(f:Addr)(fd:FuncData):Prop where
 F:C1 K x x st f fd
 n:PySem.W.nsIn K mainGlobals x=some (some (.ref f))
structure Iw(K:bw)(x:Str)(st:Stmt)(f:Addr)(fd:FuncData)(c0 p0:Addr):Prop where
 F:wG K x x st f fd c0 p0
 n:PySem.W.nsIn K mainGlobals x=some (some (.ref f))
structure Dn(K:bw)(mg:jk)(x:Str)(st:Stmt)(f:Addr)(fd:FuncData)(ps:List Str):Prop where
 F:C1 K x x st f fd
 c:Dc K mg x f fd ps
structure GO(K:bw)(mg:jk)(x:Str)(st:Stmt)(f:Addr)(fd:FuncData)(ps:List Str)(c0 p0:Addr):Prop where
 F:wG K x x st f fd c0 p0
 c:Dc K mg x f fd ps
theorem dk{oc:Value}{od an:Option Addr}{osl:Array (Option Value)}{kV doc pm cdv ct:Value}(a:PySem.W.nsIn K mainGlobals x=some (some (.ref f)))
 (l:K.lookup f=some ⟨oc,od,.func (PySem.W.fnOf x x (cL st) (bC st) (ai st) .none kV doc pm an cdv ct),osl⟩) (c:PySem.W.codeIn K cdv x=true) (k:PySem.W.keepIn K (.ref f)=true) :
 Dk K x st f (PySem.W.fnOf x x (cL st) (bC st) (ai st) .none kV doc pm an cdv ct):=⟨Fb l c k,a⟩
theorem O1{oc:Value}{od an:Option Addr}{osl:Array (Option Value)}{kV doc pm ct:Value}(a:PySem.W.nsIn K mainGlobals x=some (some (.ref f)))
 (l:K.lookup f=some ⟨oc,od,.func (PySem.W.fnOf x x (cL st) (bC st) (ai st) .none kV doc pm an (.ref c0) ct),osl⟩) (c:PySem.W.codeIn K (.ref c0) x=true) (k:PySem.W.keepIn K (.ref f)=true) (d:PySem.W.codeHdIn K c0 p0=true) :
 Iw K x st f (PySem.W.fnOf x x (cL st) (bC st) (ai st) .none kV doc pm an (.ref c0) ct) c0 p0:=⟨DJ l c k d,a⟩
structure Ng(K:bw)(x:Str):Prop where
 n:PySem.W.nsIn K mainGlobals x=some none
def Bn(x:Str)(st:Stmt)(ps:List Str)(us:List Value):Prop:=∀(kV doc pm:Value) (an:Option Addr) (cdv ct:Value),bindArgs (PySem.W.fnOf x x (cL st) (bC st) (ai st) .none kV doc pm an cdv ct) ⟨us,[]⟩=pure (ps.zip us)
theorem Eu(h:∀ us:List Value,us.length=ps.length->Bn x st ps us)(kV doc pm:Value)(an:Option Addr)(cdv ct:Value)(us:List Value)(hl:us.length=ps.length):
 bindArgs (PySem.W.fnOf x x (cL st) (bC st) (ai st) .none kV doc pm an cdv ct) ⟨us,[]⟩=pure (ps.zip us):=h us hl kV doc pm an cdv ct
theorem Dk.dn(X:K.In h)(G:h.Ns mainGlobals mg)(D:Dk K x st f fd)(hb:∀ us:List Value,us.length=ps.length->Bn x st ps us):Dn K mg x st f fd ps:=⟨D.F,PySem.W.mg_of X G D.n,D.F.kp,D.F.binds (Eu hb)⟩
theorem Iw.dn(X:K.In h)(G:h.Ns mainGlobals mg)(D:Iw K x st f fd c0 p0)(hb:∀ us:List Value,us.length=ps.length->Bn x st ps us):GO K mg x st f fd ps c0 p0:=⟨D.F,PySem.W.mg_of X G D.n,D.F.kp,D.F.binds (Eu hb)⟩
theorem O2{y:Str}(h:∀ a,Bn x st [y] [a])(us:List Value)(hl:us.length=[y].length):Bn x st [y] us:=by obtain⟨_,rfl⟩:=K6 us hl;exact h _
theorem MH{y z:Str}(h:∀ a b,Bn x st [y,z] [a,b])(us:List Value)(hl:us.length=[y,z].length):Bn x st [y,z] us:=by obtain⟨_,_,rfl⟩:=K7 us hl;exact h _ _
theorem O3{y z u:Str}(h:∀ a b c,Bn x st [y,z,u] [a,b,c])(us:List Value)(hl:us.length=[y,z,u].length):Bn x st [y,z,u] us:=by obtain⟨_,_,_,rfl⟩:=K8 us hl;exact h _ _ _
theorem O4{y z u v:Str}(h:∀ a b c d,Bn x st [y,z,u,v] [a,b,c,d])(us:List Value)(hl:us.length=[y,z,u,v].length):Bn x st [y,z,u,v] us:=by obtain⟨_,_,_,_,rfl⟩:=K9 us hl;exact h _ _ _ _
theorem wJ{y:Str}(X:K.In h)(G:h.Ns mainGlobals mg)(D:Dk K x st f fd)(e:∀ a,Bn x st [y] [a]:=by intros;exact fun _ _ _ _ _ _=>rfl):Dn K mg x st f fd [y]:=D.dn X G (O2 e)
theorem lg{y z:Str}(X:K.In h)(G:h.Ns mainGlobals mg)(D:Dk K x st f fd)(e:∀ a b,Bn x st [y,z] [a,b]:=by intros;exact fun _ _ _ _ _ _=>rfl):Dn K mg x st f fd [y,z]:=D.dn X G (MH e)
theorem Ew{y z u:Str}(X:K.In h)(G:h.Ns mainGlobals mg)(D:Dk K x st f fd)(e:∀ a b c,Bn x st [y,z,u] [a,b,c]:=by intros;exact fun _ _ _ _ _ _=>rfl):Dn K mg x st f fd [y,z,u]:=D.dn X G (O3 e)
theorem O5{y z u v:Str}(X:K.In h)(G:h.Ns mainGlobals mg)(D:Dk K x st f fd)(e:∀ a b c d,Bn x st [y,z,u,v] [a,b,c,d]:=by intros;exact fun _ _ _ _ _ _=>rfl):Dn K mg x st f fd [y,z,u,v]:=D.dn X G (O4 e)
theorem O6{y z:Str}(X:K.In h)(G:h.Ns mainGlobals mg)(D:Iw K x st f fd c0 p0)(e:∀ a b,Bn x st [y,z] [a,b]:=by intros;exact fun _ _ _ _ _ _=>rfl):GO K mg x st f fd [y,z] c0 p0:=D.dn X G (MH e)
theorem Dn.ok{P:Program}{w:World}{base:Heap}{N:List Str}{k:Nat}{sp:Sp}(D:Dn K mg x st f fd ps)(S:aA N ps (ai st))
 (hbody:∀(cdv:Value) (A:Around) (outer:List Env) (s:Shared) (H:Hp) (vs:List V) (Q:VK) (E:XK),eT k (A.deeper (envOfC x (ai st) s.heap.objs.size f cdv))->sp vs H Q E->
  ∃ t,qg (nk xZ P w K mg base N x (ai st) f cdv A outer s H E).vO (bC st) t/\t { nx:=fun _ H'=>Q .eV H',rt:=Q} (start N vs) H)
 (len:∀ vs H Q E,sp vs H Q E->vs.length=ps.length:=by
  intro vs H Q E h
  first
  | (obtain⟨_,rfl,_⟩:=h;rfl)
  | (obtain⟨_,_,rfl,_⟩:=h;rfl)
  | (obtain⟨_,_,_,rfl,_⟩:=h;rfl)
  | (obtain⟨_,_,_,_,rfl,_⟩:=h;rfl)
  | (obtain⟨_,_,_,_,_,rfl,_⟩:=h;rfl)
  | (obtain⟨_,_,_,_,_,_,rfl,_⟩:=h;rfl)
  | (obtain⟨_,_,_,_,_,_,_,rfl,_⟩:=h;rfl)
  | (obtain⟨_,_,_,_,_,_,_,_,rfl,_⟩:=h;rfl)
  | (obtain⟨_,_,_,_,_,_,_,_,_,rfl,_⟩:=h;rfl)):jq P w K mg base xZ (k+1) f fd ps sp:=D.F.ok S len hbody
theorem GO.ok{P:Program}{w:World}{base:Heap}{N:List Str}{k:Nat}{sp:Sp}(D:GO K mg x st f fd ps c0 p0)(S:aA N ps (ai st))
 (hbody:∀(A:Around) (outer:List Env) (s:Shared) (H:Hp) (vs:List V) (Q:VK) (E:XK),eT k (A.deeper (envOfC x (ai st) s.heap.objs.size f (.ref c0)))->sp vs H Q E->
  ∃ t,qg (nk xZ P w K mg base N x (ai st) f (.ref c0) A outer s H E).vO (bC st) t/\t { nx:=fun _ H'=>Q .eV H',rt:=Q} (start N vs) H)
 (len:∀ vs H Q E,sp vs H Q E->vs.length=ps.length:=by
  intro vs H Q E h
  first
  | (obtain⟨_,rfl,_⟩:=h;rfl)
  | (obtain⟨_,_,rfl,_⟩:=h;rfl)
  | (obtain⟨_,_,_,rfl,_⟩:=h;rfl)
  | (obtain⟨_,_,_,_,rfl,_⟩:=h;rfl)
  | (obtain⟨_,_,_,_,_,rfl,_⟩:=h;rfl)
  | (obtain⟨_,_,_,_,_,_,rfl,_⟩:=h;rfl)
  | (obtain⟨_,_,_,_,_,_,_,rfl,_⟩:=h;rfl)
  | (obtain⟨_,_,_,_,_,_,_,_,rfl,_⟩:=h;rfl)
  | (obtain⟨_,_,_,_,_,_,_,_,_,rfl,_⟩:=h;rfl)):jq P w K mg base xZ (k+1) f fd ps sp:=D.F.ok S len hbody
theorem Dn.vR{P:Program}{w:World}{base:Heap}{N:List Str}{k:Nat}{sp:Sp}(D:Dn K mg x st f fd ps)(S:aA N ps (ai st))
 (hbody:∀(cdv:Value) (A:Around) (outer:List Env) (s:Shared) (H:Hp) (vs:List V) (Q:VK) (E:XK),eT k (A.deeper (envOfC x (ai st) s.heap.objs.size f cdv))->sp vs H Q E->
  ∃ t,qg (nk (vQ P w) P w K mg base N x (ai st) f cdv A outer s H E) (bC st) t/\t { nx:=fun _ H'=>Q .eV H',rt:=Q} (start N vs) H)
 (len:∀ vs H Q E,sp vs H Q E->vs.length=ps.length:=by
  intro vs H Q E h
  first
  | (obtain⟨_,rfl,_⟩:=h;rfl)
  | (obtain⟨_,_,rfl,_⟩:=h;rfl)
  | (obtain⟨_,_,_,rfl,_⟩:=h;rfl)
  | (obtain⟨_,_,_,_,rfl,_⟩:=h;rfl)
  | (obtain⟨_,_,_,_,_,rfl,_⟩:=h;rfl)
  | (obtain⟨_,_,_,_,_,_,rfl,_⟩:=h;rfl)
  | (obtain⟨_,_,_,_,_,_,_,rfl,_⟩:=h;rfl)
  | (obtain⟨_,_,_,_,_,_,_,_,rfl,_⟩:=h;rfl)
  | (obtain⟨_,_,_,_,_,_,_,_,_,rfl,_⟩:=h;rfl)):jq P w K mg base (vQ P w) (k+1) f fd ps sp:=D.F.vR S len hbody
theorem F9{y:Str}(D:Dk K x st f fd)(e:∀ a,Bn x st [y] [a]:=by intros;exact fun _ _ _ _ _ _=>rfl)(s:Shared)(v:Value):BindsTo s fd ⟨[v],[]⟩ [(y,v)]:=by
 obtain⟨oc,od,kV,doc,pm,an,cdv,ct,osl,rfl,lk,hcd⟩:=D.F.ex;exact .of_eq (e v kV doc pm an cdv ct)
end
section
variable {X:Cx}
theorem aD{CX:Ao}{k r:Nat}{f:Addr}{fd:FuncData}{ps:List Str}{sp:Sp}{x:Str}{E:XK}{e:Expr}{es:List Expr}{t:TA}{p pos:Pos}
 (F:jq X.prog X.w X.K X.mg X.base CX k f fd ps sp) (hr:eT r X.A) (D:Dc X.K X.mg x f fd ps) (hx:Passes CX X E) (ha:PA X (e::es) t) (hk:k<=r:=by decide) (hg:Gl X x:=by rfl)
 (hdb:(x==("__debug__":Str))=false:=by decide) (he:starEach (e::es) X.env=(false,eval e X.env)::starEach es X.env:=by rfl) (hpl:(backTo pos (starEach es X.env)).any (·.1)=false:=by rfl) :
 PE X (.Call (.Name x p) (e::es) [] pos) (Ea sp [] E t):=CM F (hr.mono hk) hg D.m D.k D.b .nil hx ha hdb he hpl
theorem mF(l:List Str)(h:l.Nodup:=by decide +kernel):l.Nodup:=h
theorem bT{p pos:Pos}{e:Expr}{es:List Expr}{t:TA}(K:bw)(hm:X.mg "len"=none)(ha:PA X (e::es) t)(hK:X.K=K:=by rfl)(hg:Gl X "len":=by rfl)
 (he:starEach (e::es) X.env=(false,eval e X.env)::starEach es X.env:=by rfl) (hpl:(backTo pos (starEach es X.env)).any (·.1)=false:=by rfl):PE X (.Call (.Name "len" p) (e::es) [] pos) (Ky (HQ K) t) :=
 bE (KN K hK) hg hm PySem.boot_len ha (by decide) (by decide) he hpl
theorem aH{a b:Expr}{ta tb:TE}{pos:Pos}{r:R2}(hr:GF X r)(ha:PE X a ta)(hb:PE X b tb)(hs:xY b:=by exact fun _ _=>rfl):PE X (.Subscript a b pos) (Hj r ta tb):=Hw hr ha hb hs
theorem bU{x:Str}{pos:Pos}(i:Nat)(hN:X.N.Nodup)(hi:X.N[i]?=some x:=by exact rfl)(hx:Loc X.env.scope x:=by exact Or.inl rfl)(hf:X.fn x=true\/X.env.scope.names.lookup x=some .local:=by first | exact .inl rfl | exact .inr rfl | assumption):PG X (.Name x pos) (AB i):=rY hN hi hx hf
end
end L2
set_option maxHeartbeats 4000000
namespace K33
open PySem L2 Ring
local macro_rules | `(tactic| trivial)=>`(tactic| exact⟨rfl,rfl,rfl,by decide +kernel,rfl,by decide +kernel,by decide +kernel⟩)
def top(i:Nat):Stmt:=PySem.Challenge.pw_ringbase_k33_all_rings_told.main.body.getD i (.Pass ⟨0,0,0,0⟩)
section
variable {iA jf j9 qh As Cv Ex Ey Ez JL DM Iz IA IB IC ID:TS}{lW Cw JC:TT}{tZ JM:TI}{t8 JN:TG}{D:Ends}{σ:St}{H:Hp}
abbrev mG:Stmt:=top 7
theorem wK:aA ["tie_set","tie"] ["tie_set","tie"] (ai mG):=by trivial
abbrev kc:Stmt:=top 8
theorem wL:aA ["tie_set"] ["tie_set"] (ai kc):=by trivial
abbrev kR:Stmt:=top 9
theorem u0:aA ["web"] ["web"] (ai kR):=by trivial
abbrev pR:Stmt:=top 10
theorem zI:aA ["web","number"] ["web","number"] (ai pR):=by trivial
abbrev jB:Stmt:=top 11
theorem sM:aA ["web","tie_set"] ["web","tie_set"] (ai jB):=by trivial
theorem lO(h:let c9:=iA;(bX lW c9 aW) D σ H):(bX lW iA aW) D σ H:=h
abbrev fQ:Stmt:=top 12
theorem qu:aA ["web","tie_set"] ["web","tie_set"] (ai fQ):=by trivial
theorem gS(h:let c9:=iA;(az jf c9) D σ H):(az jf iA) D σ H:=h
abbrev gD:Stmt:=top 13
theorem sN:aA ["web","tie_set"] ["web","tie_set"] (ai gD):=by trivial
abbrev fR:Stmt:=top 14
theorem dz:aA ["web","tie_set","ends","one","other","length"] ["web","tie_set"] (ai fR):=by trivial
theorem kE(h:let c9:=iA;let eS:=jf;let fM:=(az j9 eS);let jg:=(az (fO tZ t8 fM) c9);(az qh jg) D σ H):(az qh (az (fO tZ t8 (az j9 jf)) iA)) D σ H:=h
abbrev cT:Stmt:=top 15
theorem eF:aA ["leasts","one","other","low","high"] ["leasts","one","other"] (ai cT):=by trivial
theorem gE(h:let c9:=iA;let eS:=(az jf c9);(az j9 eS) D σ H):(az j9 (az jf iA)) D σ H:=h
abbrev lP:Stmt:=top 16
theorem dX:aA ["web","tie_set","leasts","one","other","length","found","start"] ["web","tie_set"] (ai lP):=by trivial
theorem zJ(h:let c9:=iA;let eS:=jf;let fM:=(bX lW eS aW);let jg:=(az (fO tZ t8 fM) c9);let ny:=(az j9 jg);let u3:=qh;let u4:=(az (fO JM JN u3) ny);(az As u4) D σ H):(az As (az (fO JM JN qh) (az j9 (az (fO tZ t8 (bX lW jf aW)) iA)))) D σ H:=h
abbrev wM:Stmt:=top 17
theorem DN:aA ["web"] ["web"] (ai wM):=by trivial
abbrev mH:Stmt:=top 19
theorem wN:aA ["web","tie_set"] ["web","tie_set"] (ai mH):=by trivial
abbrev dG:Stmt:=top 20
theorem aS:aA ["web","leasts","trails","tie","one","other","bridge","moved"] ["web"] (ai dG):=by trivial
theorem mJ(h:let c9:=iA;let eS:=jf;let fM:=(az j9 eS);let jg:=(az qh fM);let ny:=(az As jg);let u3:=(bX lW ny aW);let u4:=(az Cv u3);let yz:=(az Ex u4);let BK:=(az (fO tZ t8 yz) c9);let BL:=(az Ey BK);(az Ez BL) D σ H):(az Ez (az Ey (az (fO tZ t8 (az Ex (az Cv (bX lW (az As (az qh (az j9 jf))) aW)))) iA))) D σ H:=h
abbrev pS:Stmt:=top 21
theorem kg:aA ["web","found","trail"] ["web"] (ai pS):=by trivial
theorem zK(h:let c9:=iA;let eS:=jf;let fM:=(az (fO tZ t8 eS) c9);(az j9 fM) D σ H):(az j9 (az (fO tZ t8 jf) iA)) D σ H:=h
abbrev pT:Stmt:=top 22
theorem zL:aA ["web"] ["web"] (ai pT):=by trivial
abbrev gU:Stmt:=top 23
theorem jC:aA ["web","trails","chord","tie"] ["web","trails","chord"] (ai gU):=by trivial
abbrev iK:Stmt:=top 24
theorem qv:aA ["web","tie"] ["web","tie"] (ai iK):=by trivial
theorem kF(h:let c9:=iA;let eS:=jf;(az (bX lW eS aW) c9) D σ H):(az (bX lW jf aW) iA) D σ H:=h
abbrev kh:Stmt:=top 26
theorem pU:aA ["web","tie_set","touched"] ["web","tie_set"] (ai kh):=by trivial
theorem wO(h:let c9:=iA;let eS:=(az jf c9);let fM:=j9;(az (bX lW fM aW) eS) D σ H):(az (bX lW j9 aW) (az jf iA)) D σ H:=h
abbrev ik:Stmt:=top 27
abbrev iL:Stmt:=top 28
theorem qw:aA ["web","ring"] ["web","ring"] (ai iL):=by trivial
abbrev gF:Stmt:=top 29
theorem sO:aA ["web","rings"] ["web","rings"] (ai gF):=by trivial
def cU:Pos:=⟨91,29,91,70⟩
abbrev u5:Stmt:=top 31
abbrev kG:Stmt:=top 32
abbrev mK:Stmt:=top 34
theorem wQ:aA ["rows","tie_set","left","used","lead","row","places"] ["rows","tie_set"] (ai mK):=by trivial
abbrev pV:Stmt:=top 35
abbrev mL:Stmt:=top 36
theorem wR:aA ["sets","rows","place","tie_set","rest"] ["sets"] (ai mL):=by trivial
abbrev iM:Stmt:=top 39
theorem qx:aA ["web"] ["web"] (ai iM):=by trivial
abbrev gG:Stmt:=top 40
theorem eG:aA ["web","found","chord","ring"] ["web"] (ai gG):=by trivial
abbrev gH:Stmt:=top 41
theorem sP:aA ["web"] ["web"] (ai gH):=by trivial
abbrev iN:Stmt:=top 42
theorem gV:aA ["web","taken","ring"] ["web"] (ai iN):=by trivial
theorem kH(h:let c9:=iA;let eS:=jf;let fM:=(bX lW eS aW);let jg:=(az (fO tZ t8 fM) c9);(az j9 jg) D σ H):(az j9 (az (fO tZ t8 (bX lW jf aW)) iA)) D σ H:=h
abbrev fH:Stmt:=top 44
theorem mO:aA ["web","ring","length"] ["web","ring"] (ai fH):=by trivial
abbrev gW:Stmt:=top 45
theorem pW:aA ["web","ring","length"] ["web","ring"] (ai gW):=by trivial
abbrev kT:Stmt:=top 46
theorem u6:aA ["rings","rows","ring"] ["rings","rows","ring"] (ai kT):=by trivial
abbrev fJ:Stmt:=top 47
theorem mP:aA ["rows","ring","tie","marks","lead","row","places"] ["rows","ring"] (ai fJ):=by trivial
abbrev iO:Stmt:=top 48
theorem dB:aA ["web","ring","shorter","rows","others","more_rows"] ["web","ring"] (ai iO):=by trivial
theorem qy(h:let c9:=iA;let eS:=jf;let fM:=(az (bX lW eS aW) c9);let jg:=(az j9 fM);let ny:=(az qh jg);let u3:=As;let u4:=(az (bX Cw u3 aW) ny);let yz:=(az Cv u4);let BK:=(az Ex yz);let BL:=(az Ey BK);(az Ez BL) D σ H):(az Ez (az Ey (az Ex (az Cv (az (bX Cw As aW) (az qh (az j9 (az (bX lW jf aW) iA)))))))) D σ H:=h
abbrev jD:Stmt:=top 49
theorem sQ:aA ["ring","rings","total","place","other"] ["ring","rings"] (ai jD):=by trivial
abbrev dc:Stmt:=top 50
theorem jE:aA ["web","ring","rings","length"] ["web","ring","rings"] (ai dc):=by trivial
abbrev eH:Stmt:=top 51
theorem kU:aA ["web","ring","rings","length"] ["web","ring","rings"] (ai eH):=by trivial
theorem kW(h:let c9:=iA;let eS:=jf;let fM:=(az (bX lW eS aW) c9);(az j9 fM) D σ H):(az j9 (az (bX lW jf aW) iA)) D σ H:=h
abbrev iP:Stmt:=top 52
theorem qz:aA ["web","marks","ring","rings"] ["web","marks","ring","rings"] (ai iP):=by trivial
abbrev gn:Stmt:=top 53
theorem nA:aA ["web","ring","paper"] ["web","ring","paper"] (ai gn):=by trivial
theorem nB(h:let c9:=iA;let eS:=jf;let fM:=(az (bX lW eS aW) c9);let jg:=j9;let ny:=(az (bX Cw jg aW) fM);let u3:=qh;let u4:=(az (bX JC u3 aW) ny);let yz:=(az As u4);(az Cv yz) D σ H):(az Cv (az As (az (bX JC qh aW) (az (bX Cw j9 aW) (az (bX lW jf aW) iA))))) D σ H:=h
abbrev gX:Stmt:=top 55
theorem pX:aA ["script","k"] ["script","k"] (ai gX):=by trivial
abbrev jF:Stmt:=top 56
theorem iQ:aA ["cell","k","near","stir"] ["cell","k"] (ai jF):=by trivial
abbrev iR:Stmt:=top 57
theorem qA:aA ["cell","way"] ["cell","way"] (ai iR):=by trivial
theorem qB(h:let c9:=iA;let eS:=jf;let fM:=(az (bX lW eS aW) c9);let jg:=j9;(az (bX Cw jg aW) fM) D σ H):(az (bX Cw j9 aW) (az (bX lW jf aW) iA)) D σ H:=h
abbrev mQ:Stmt:=top 58
theorem iS:aA ["cell","points","way","one","other"] ["cell","points","way"] (ai mQ):=by trivial
theorem wU(h:let c9:=iA;let eS:=(az jf c9);let fM:=(az j9 eS);(az qh fM) D σ H):(az qh (az j9 (az jf iA))) D σ H:=h
abbrev ff:Stmt:=top 59
theorem aV:aA ["script","most","ranked","head","points","way","cells","ties","marks","free","cell","tie","joined","old"] ["script","most","ranked"] (ai ff):=by trivial
theorem wV(h:let c9:=iA;let eS:=jf;let fM:=(az j9 eS);let jg:=(az qh fM);let ny:=(az As jg);let u3:=(bX lW ny aW);let u4:=(az Cv u3);let yz:=(az Ex u4);let BK:=(az (fO tZ t8 yz) c9);let BL:=(az Ey BK);let BN:=(az Ez BL);let zM:=(az JL BN);let BO:=DM;let IE:=(az Iz BO);let IF:=(az (bX Cw IE aW) zM);let IG:=(az IA IF);let II:=(az IB IG);let IJ:=(az IC II);(az ID IJ) D σ H):(az ID (az IC (az IB (az IA (az (bX Cw (az Iz DM) aW) (az JL (az Ez (az Ey (az (fO tZ t8 (az Ex (az Cv (bX lW (az As (az qh (az j9 jf))) aW)))) iA))))))))) D σ H:=h
abbrev jG:Stmt:=top 60
theorem sR:aA ["found"] ["found"] (ai jG):=by trivial
abbrev iT:Stmt:=top 61
theorem gY:aA ["web","some","counts","k"] ["web","some"] (ai iT):=by trivial
theorem kI(h:let c9:=iA;let eS:=jf;let fM:=(az j9 eS);let jg:=(bX lW fM aW);let ny:=(az (fO tZ t8 jg) c9);(az qh ny) D σ H):(az qh (az (fO tZ t8 (bX lW (az j9 jf) aW)) iA)) D σ H:=h
abbrev eI:Stmt:=top 62
theorem dD:aA ["web","some","marks","k","old"] ["web","some"] (ai eI):=by trivial
abbrev iU:Stmt:=top 64
theorem u7:aA ["web","some"] ["web","some"] (ai iU):=by trivial
abbrev gp:Stmt:=top 65
theorem ni:aA ["web","some","counts"] ["web","some"] (ai gp):=by trivial
abbrev iV:Stmt:=top 66
theorem u9:aA ["web","some"] ["web","some"] (ai iV):=by trivial
abbrev dH:Stmt:=top 68
theorem fg:aA ["web","found","some"] ["web"] (ai dH):=by trivial
abbrev gZ:Stmt:=top 69
theorem eJ:aA ["web","way","caught","e"] ["web","way"] (ai gZ):=by trivial
theorem pY(h:let c9:=iA;let eS:=jf;let fM:=(az (bX lW eS aW) c9);let jg:=(az j9 fM);(az qh jg) D σ H):(az qh (az j9 (az (bX lW jf aW) iA))) D σ H:=h
abbrev gI:Stmt:=top 70
theorem eK:aA ["web","found","k","j","some"] ["web"] (ai gI):=by trivial
theorem sS(h:let c9:=iA;let eS:=jf;let fM:=(az j9 eS);let jg:=(fO JM JN fM);let ny:=(az (fO tZ t8 jg) c9);(az qh ny) D σ H):(az qh (az (fO tZ t8 (fO JM JN (az j9 jf))) iA)) D σ H:=h
abbrev rQ:Stmt:=top 71
theorem iW:aA ["script","web","due","turn","found","head","many","ties","wide"] ["script"] (ai rQ):=by trivial
theorem Ga(h:let c9:=iA;let eS:=jf;let fM:=(az (bX lW eS aW) c9);let jg:=(az j9 fM);let ny:=(az qh jg);let u3:=(az As ny);let u4:=(az Cv u3);let yz:=Ex;let BK:=Ey;let BL:=(az (bX Cw BK aW) yz);let BN:=(az Ez BL);let zM:=(az (fO tZ t8 BN) u4);let BO:=(az JL zM);(az DM BO) D σ H):(az DM (az JL (az (fO tZ t8 (az Ez (az (bX Cw Ey aW) Ex))) (az Cv (az As (az qh (az j9 (az (bX lW jf aW) iA)))))))) D σ H:=h
end
set_option genInjectivity false
set_option genSizeOf false
structure Lw where
 zN:Addr
 zO:FuncData
 zP:Addr
 zQ:FuncData
 wW:Addr
 wX:FuncData
 BP:Addr
 BQ:FuncData
 vc:Addr
 vd:FuncData
 sU:Addr
 sV:FuncData
 ve:Addr
 vf:FuncData
 sW:Addr
 sX:FuncData
 mR:Addr
 mS:FuncData
 BR:Addr
 BS:FuncData
 Gb:Addr
 Gd:FuncData
 zR:Addr
 zS:FuncData
 nC:Addr
 nE:FuncData
 BU:Addr
 BV:FuncData
 BW:Addr
 BX:FuncData
 qC:Addr
 qD:FuncData
 sY:Addr
 sZ:FuncData
 zT:Addr
 zU:FuncData
 mT:Addr
 mU:FuncData
 tu:Addr
 tw:FuncData
 vg:Addr
 vh:FuncData
 BY:Addr
 BZ:FuncData
 qF:Addr
 qG:FuncData
 zV:Addr
 zW:FuncData
 wY:Addr
 wZ:FuncData
 zX:Addr
 zY:FuncData
 tD:Addr
 tE:FuncData
 vj:Addr
 vm:FuncData
 vn:Addr
 vo:FuncData
 tF:Addr
 tG:FuncData
 nF:Addr
 nG:FuncData
 qH:Addr
 qI:FuncData
 w4:Addr
 w5:FuncData
 nH:Addr
 nI:FuncData
 tH:Addr
 tI:FuncData
 vp:Addr
 vq:FuncData
 ku:Addr
 kA:FuncData
 lQ:Addr
 lR:FuncData
 tJ:Addr
 tK:FuncData
 pZ:Addr
 p5:FuncData
 qJ:Addr
 qK:FuncData
 vt:Addr
 vv:FuncData
 tL:Addr
 tM:FuncData
 zZ:Addr
 z4:FuncData
 z5:Addr
 z7:FuncData
 vy:Addr
 vz:FuncData
 tN:Addr
 tO:FuncData
 tP:Addr
 tQ:FuncData
 w6:Addr
 w9:FuncData
 xg:Addr
 xh:FuncData
 xj:Addr
 xm:FuncData
 nJ:Addr
 nK:FuncData
 qL:Addr
 qM:FuncData
 vA:Addr
 vB:FuncData
 IK:Addr
 IL:FuncData
 nj:Addr
 dF:Addr
 rR:Addr
 ki:Addr
 aO:Addr
 vC:Addr
 dY:Addr
structure Txt(P:Program)(w:World)(base:Heap)(K:bw)(mg:jk)(a:Lw):Prop where
 mV:Dn K mg "has_tie" mG a.zN a.zO ["tie_set","tie"]
 iq:Dn K mg "ties_in" kc a.zP a.zQ ["tie_set"]
 gq:Dn K mg "all_ties" kR a.wW a.wX ["web"]
 p7:Dn K mg "is_set" pR a.BP a.BQ ["web","number"]
 jH:Dn K mg "check_set" jB a.vc a.vd ["web","tie_set"]
 eM:Dn K mg "triples_in" fQ a.sU a.sV ["web","tie_set"]
 jI:Dn K mg "length_of" gD a.ve a.vf ["web","tie_set"]
 iX:Dn K mg "odd_points" fR a.sW a.sX ["web","tie_set"]
 cV:Dn K mg "drawn_together" cT a.mR a.mS ["leasts","one","other"]
 lS:Dn K mg "pieces" lP a.BR a.BS ["web","tie_set"]
 xn:Dn K mg "rank" wM a.Gb a.Gd ["web"]
 mW:Dn K mg "is_even" mH a.zR a.zS ["web","tie_set"]
 dI:Dn K mg "forest_trails" dG a.nC a.nE ["web"]
 p8:Dn K mg "forest" pS a.BU a.BV ["web"]
 lT:Dn K mg "chords" pT a.BW a.BX ["web"]
 g5:Dn K mg "ring_closed" gU a.qC a.qD ["web","trails","chord"]
 iY:Dn K mg "chord_ring" iK a.sY a.sZ ["web","tie"]
 mX:Dn K mg "is_ring" kh a.zT a.zU ["web","tie_set"]
 z8:Dn K mg "is_ring_number" ik a.mT a.mU ["web","number"]
 fS:Dn K mg "check_ring" iL a.tu a.tw ["web","ring"]
 gJ:GO K mg "by_length" gF a.vg a.vh ["web","rings"] a.vC a.dY
 IM:Dn K mg "common" u5 a.BY a.BZ ["one","other"]
 Cy:Dn K mg "bears_oddly" kG a.qF a.qG ["tie_set","marks"]
 ir:Dn K mg "reduced" mK a.zV a.zW ["rows","tie_set"]
 Ge:Dn K mg "with_row" pV a.wY a.wZ ["rows","added"]
 iw:Dn K mg "rows_of" mL a.zX a.zY ["sets"]
 eN:Dn K mg "check_rank" iM a.tD a.tE ["web"]
 jJ:Dn K mg "even_sets" gG a.vj a.vm ["web"]
 dZ:Dn K mg "all_rings" gH a.vn a.vo ["web"]
 iZ:Dn K mg "first_base" iN a.tF a.tG ["web"]
 dJ:Dn K mg "shorter_rings" fH a.nF a.nG ["web","ring"]
 fu:Dn K mg "other_rings" gW a.qH a.qI ["web","ring"]
 i0:Dn K mg "parts_of" kT a.w4 a.w5 ["rings","rows","ring"]
 dM:Dn K mg "marks_against" fJ a.nH a.nI ["rows","ring"]
 i3:Dn K mg "ring_paper" iO a.tH a.tI ["web","ring"]
 gM:Dn K mg "is_sum_of" jD a.vp a.vq ["ring","rings"]
 dh:Dn K mg "all_rings_shorter" dc a.ku a.kA ["web","ring","rings"]
 eO:Dn K mg "all_rings_other" eH a.lQ a.lR ["web","ring","rings"]
 fT:Dn K mg "marks_part" iP a.tJ a.tK ["web","marks","ring","rings"]
 gr:Dn K mg "paper_judged" gn a.pZ a.p5 ["web","ring","paper"]
 fB:Dn K mg "_law_cell_at" gX a.qJ a.qK ["script","k"]
 ef:Dn K mg "_law_mixed" jF a.vt a.vv ["cell","k"]
 i4:Dn K mg "_law_length" iR a.tL a.tM ["cell","way"]
 mY:Dn K mg "_law_tie" mQ a.zZ a.z4 ["cell","points","way"]
 mZ:Dn K mg "_law_web" ff a.z5 a.z7 ["script","most","ranked"]
 jK:Dn K mg "_law_whole" jG a.vy a.vz ["found"]
 fU:Dn K mg "_law_counts" iT a.tN a.tO ["web","some"]
 i5:Dn K mg "_law_pieces" eI a.tP a.tQ ["web","some"]
 kX:Dn K mg "_law_even" iU a.w6 a.w9 ["web","some"]
 kY:Dn K mg "_law_ring" gp a.xg a.xh ["web","some"]
 kZ:Dn K mg "_law_long" iV a.xj a.xm ["web","some"]
 fK:Dn K mg "_law_all_rings" dH a.nJ a.nK ["web"]
 g6:Dn K mg "_law_refused" gZ a.qL a.qM ["web","way"]
 jL:Dn K mg "_law_pairs" gI a.vA a.vB ["web"]
 EA:Dn K mg "law" rQ a.IK a.IL ["script"]
 tR:mg "ValueError"=none
 MI:mg "all"=none
 MJ:mg "any"=none
 Gf:mg "bool"=none
 vD:mg "enumerate"=none
 yC:mg "int"=none
 cy:mg "isinstance"=none
 c5:mg "len"=none
 xo:mg "list"=none
 EB:mg "max"=none
 IP:mg "min"=none
 bH:mg "range"=none
 IQ:mg "set"=none
 p9:mg "sorted"=none
 EC:mg "sum"=none
 yD:mg "tuple"=none
 IS:mg "zip"=none
 vE:∃ t,mg "MOST_RANK"=some (.int 8 t)
 vF:mg "RingError"=some (.ref a.nj)
 B3:mg "BadSet"=some (.ref a.dF)
 z9:mg "NotRing"=some (.ref a.rR)
 GP:mg "NoChord"=some (.ref a.ki)
 Aa:mg "TooMany"=some (.ref a.aO)
 B4:∀ h:Heap,K.In h->h.Ns mainGlobals mg->PyProof.Rows.OwnCls "BadSet" a.dF [.type "ValueError",.type "Exception",.type "BaseException",.type "object"] "ValueError.__new__" mg h
 Ab:∀ h:Heap,K.In h->h.Ns mainGlobals mg->PyProof.Rows.OwnCls "NoChord" a.ki [.type "ValueError",.type "Exception",.type "BaseException",.type "object"] "ValueError.__new__" mg h
 Ac:∀ h:Heap,K.In h->h.Ns mainGlobals mg->PyProof.Rows.OwnCls "TooMany" a.aO [.type "ValueError",.type "Exception",.type "BaseException",.type "object"] "ValueError.__new__" mg h
 kj:sy K a.aO
 Ad:PySem.W.exmOne K (.ref a.aO) (.ref a.nj)=some true
 xq:PySem.W.kitOne K (.ref a.aO) (.type "ValueError")=some true
 q_TooMany_BadSet:PySem.W.kitOne K (.ref a.aO) (.ref a.dF)=some false
 q_TooMany_NotRing:PySem.W.kitOne K (.ref a.aO) (.ref a.rR)=some false
 q_TooMany_NoChord:PySem.W.kitOne K (.ref a.aO) (.ref a.ki)=some false
 q_TooMany_TooMany:PySem.W.kitOne K (.ref a.aO) (.ref a.aO)=some true
section
variable {P:Program}{w:World}{K:bw}{mg:jk}{base:Heap}{a:Lw}{x:Str}{st:Stmt}{f c0 p0:Addr}{fd:FuncData}{ps:List Str}
abbrev Ok(_:Txt P w base K mg a)(_:Dn K mg x st f fd ps)(k:Nat)(sp:Sp):=jq P w K mg base xZ k f fd ps sp
abbrev yE(_:Txt P w base K mg a)(_:Dn K mg x st f fd ps)(k:Nat)(sp:Sp):=jq P w K mg base (vQ P w) k f fd ps sp
abbrev O7(_:Txt P w base K mg a)(_:GO K mg x st f fd ps c0 p0)(k:Nat)(sp:Sp):=jq P w K mg base xZ k f fd ps sp
end
def xr:Sp:=fun vs H Q _=>∃(S:Int) (k:Nat),vs=[.int S,.int (k:Int)]/\Q (.bl (bit S k)) H
def xu:Sp:=fun vs H Q _=>∃ m:Nat,vs=[.int (m:Int)]/\Builtin.Int.intBits (m:Int)<=1000/\∀ D H',H D=none->aq H H'->H' D=some (.lst (aJ (bG (m:Int))))->Q (.ref D) H'
def vG:Sp:=fun vs H Q _=>∃ w p ts,vs=[.ref w]/\bg H w p ts/\Em p ts/\Q (.int (2^ts.length-1)) H
def Ae:Sp:=fun vs H Q _=>∃ w p ts S,vs=[.ref w,.int S]/\bg H w p ts/\Em p ts/\Q (.bl (decide (0<=S/\S<2^ts.length))) H
def qa(ts:List cJ)(S:Int)(bad:Prop)(R:Nat->Prop):Prop:=(∃ m:Nat,S=(m:Int)/\m<2^ts.length/\R m)\/((S<0\/2^ts.length<=S)/\bad)
def tS(C:Addr):Sp:=fun vs H Q E=>∃ w p ts S,vs=[.ref w,.int S]/\bg H w p ts/\Em p ts/\qa ts S (E (.ref C) none H) fun _=>Q .eV H
def qN(C:Addr):Sp:=fun vs H Q E=>∃ w p ts S,vs=[.ref w,.int S]/\bg H w p ts/\Em p ts/\qa ts S (E (.ref C) none H) fun m =>
 ∀ D ys H',H D=none->aq H H'->H' D=some (.lst ys)->Paired (TupAt H') ys ((bG (m:Int)).map (bz ts))->Q (.ref D) H'
def qO(C:Addr):Sp:=fun vs H Q E=>∃ w p ts S,vs=[.ref w,.int S]/\bg H w p ts/\Em p ts/\qa ts S (∀ H',aq H H'->E (.ref C) none H') fun m =>
 ∀ D H',aq H H'->H' D=some (.lst (aJ (oQ p ts (m:Int))))->Q (.ref D) H'
def xw(C:Addr):Sp:=fun vs H Q E=>∃ w p ts S,vs=[.ref w,.int S]/\bg H w p ts/\Em p ts/\qa ts S (∀ H',aq H H'->E (.ref C) none H') fun m=>∀ H',aq H H'->Q (.bl (decide (oQ p ts (m:Int)=[]))) H'
section
variable {P:Program}{w:World}{K:bw}{mg:jk}{base:Heap}{a:Lw}(T:Txt P w base K mg a)
theorem m3:Ok T T.mV 1 xr:=by
 refine T.mV.ok wK fun _ A _ s H vs Q E hr h=>?_
 ·obtain⟨S,k,rfl,q⟩:=h;refine⟨_,(au (aI (cR cC (aE EZ (aE rZ (pv 0) (pv 1)) ah) ah (aM _)))),?_⟩;refine(av rfl (av rfl (bW ⟨(by lia),bW ⟨rfl,?_⟩⟩)))
  rw[Int.toNat_natCast,FJ];exact q
theorem cW:Ok T T.iq 2 xu:=by
 have m3:=m3 T;refine T.iq.ok wL fun _ A _ s H vs Q E hr h=>?_
 ·obtain⟨m,rfl,hm,k⟩:=h;refine⟨_,(au (aI (bA (own:=["tie"]) (fq:=["tie_set"]) (js:=[0]) (aF (ai kc) ["tie_set"]) rfl (bq (by rfl) T.bH (aa (E9 PySem.F.plainAttrs_int PyProof.Rows.slot_int_bit_length PyProof.Rows.type_int_bit_length C4 (pv 0)) ae)) (fun _ _ _ _=>(bU 0 (mF ["tie","tie_set"]))) (fun _ _ _ _=>(fk (eW (aD m3 hr T.mV.c aL (aa (pv 1) (aa (pv 0) ae)))))) (fun _ _ _ _=>(pv 0))))),?_⟩
  refine(av rfl ⟨rfl,av rfl ⟨rfl,av rfl ⟨(by lia),(by lia),fun D hD=>cu (lo:=0) (m:=Builtin.Int.intBits (m:Int)) (lF (bit (m:Int)) H D) (.start hD) (fun i acc H2 _ p=>p.len) (dl (Nat.ble_eq.mpr hm)) ?_ ?_⟩⟩⟩)
  ·intro i acc H2 hi p;rw[Int.zero_add];refine⟨rfl,av rfl (av rfl ⟨(m:Int),i,rfl,av rfl (?_)⟩)⟩;cases hb:bit (m:Int) i with
   | true=>exact(av rfl (p.yes hD (aq.refl _) hb))
   | false=>exact p.no (aq.refl _) hb
  ·intro acc H2 p;exact k D H2 hD p.1 (by rw[p.2.1,p.2.2];rfl)
theorem cz:Ok T T.gq 1 vG:=by
 refine T.gq.ok u0 fun _ A _ s H vs Q E hr h=>?_
 ·obtain⟨wb,p,ts,rfl,hw,W,q⟩:=h;refine⟨_,(au (aI (aE oE (aE l5 ah (bT K T.c5 (aa (aH (cA K) (pv 0) ah) ae))) ah))),?_⟩;obtain⟨b,xs,h1,h2,h3⟩:=hw.ex;have hl:=h3.length;have wl:=W.len;refine(av rfl (c8 (bB.of h1) (ak (j:=1) rfl) (pQ rfl (.inr (bB.of h2)) (bW ⟨⟨by lia,by lia,by decide⟩,bW (?_)⟩))))
  rw[Int.toNat_natCast,hl,Int.one_mul];exact q
theorem qb:Ok T T.p7 2 Ae:=by
 have cz:=cz T;refine T.p7.ok zI fun _ A _ s H vs Q E hr h=>?_
 ·obtain⟨wb,p,ts,S,rfl,hw,W,q⟩:=h;refine⟨_,(au (aI (lY (cR Hq (pv 1) ah (aM _)) (lX (cR D9 (pv 1) (aD cz hr T.gq.c aL (aa (pv 0) ae)) (aM _)))))),?_⟩;refine(av rfl (bW (av rfl (lA (fun hlt=>?_) (fun hlt=>?_)))))
  ·have hlt:0<=S:=kr hlt;refine(av rfl (av rfl ⟨wb,p,ts,rfl,hw,W,_,_,rfl,rfl,?_⟩));have e:decide (S<=2^ts.length-1)=decide (0<=S/\S<2^ts.length):=decide_eq_decide.mpr ⟨fun z=>⟨hlt,by lia⟩,fun z=>by lia⟩
   rw[<-e]at q;exact q
  ·have hlt : ¬ 0<=S:=fun z=>hlt (cN z)
   rw[dO (fun z=>hlt z.1)]at q
   exact q
theorem jM:yE T T.jH 3 (tS a.dF):=by
 have qb:=qb T;refine T.jH.vR sM fun _ A _ s H vs Q E hr h=>?_
 ·obtain⟨wb,p,ts,S,rfl,hw,W,q⟩:=h;refine⟨_,(au (bY (jo (eW (aD qb hr T.p7.c aL (aa (pv 0) (aa (pv 1) ae))))) (au (oO c7.KZ rfl (by rfl) T.B4 PySem.F.excBase_ValueError (aa iB ae))) aZ)),?_⟩
  refine lO ?_;intro c9;refine(av rfl (av rfl ⟨wb,p,ts,S,rfl,hw,W,?_⟩));have h2:((2:Int)^ts.length)=((2^ts.length:Nat):Int):=by simp
  rcases q with⟨m,rfl,hm,q⟩|⟨hS,q⟩
  ·rw[cN ⟨by lia,by lia⟩]
   exact(av rfl (g9 q))
  ·rw[dO (by lia)]
   exact(av rfl (jr ⟨dl rfl,q⟩))
theorem bI:yE T T.eM 4 (qN a.dF):=by
 have jM:=jM T;have cW:=cW T;refine T.eM.vR qu fun _ A _ s H vs Q E hr h=>?_
 ·obtain⟨wb,p,ts,S,rfl,hw,W,q⟩:=h;refine⟨_,(aj (bR (aD jM hr T.jH.c c7.passes (aa (pv 0) (aa (pv 1) ae))))
   (au (aI (bA (own:=["tie"]) (fq:=["web"]) (js:=[0]) (aF (ai fQ) ["web","tie_set"]) rfl (q9 K (aD cW hr T.iq.c aL (aa (pv 1) ae))) (fun _ _ _ _=>(bU 0 (mF ["tie","web"]))) (fun _ _ _ _=>cg) (fun _ _ _ _=>(aH (cA K) (aH (cA K) (pv 1) ah) (pv 0))))))),?_⟩
  refine gS ?_;intro c9;refine(av rfl (av rfl ⟨wb,p,ts,S,rfl,hw,W,?_⟩));rcases q with⟨m,rfl,hm,q⟩|⟨hS,q⟩
  ·refine .inl ⟨m,rfl,hm,?_⟩;have wl:=W.len;have hb:Builtin.Int.intBits (m:Int)<=ts.length:=bits_le hm;refine(av rfl ⟨m,rfl,by lia,fun L H1 _ s1 hL=>⟨L,rfl,⟨_,aR.of hL⟩,fun D hD=>?_⟩⟩)
   obtain⟨b,xs,h1,h2,h3⟩:=(hw.same s1).ex;have xx:=h3.length;refine bD (xs:=aJ (bG (m:Int))) (fun i acc H2=>aq H1 H2/\H2 D=some (.lst acc)/\Paired (TupAt H2) acc (((bG (m:Int)).take i).map (bz ts))/\acc.length=i) ⟨aq.new hD,af,.nil,rfl⟩ ?_ ?_ ?_ ?_
   ·rintro i acc H2 _ ⟨s2,hd,pr,hac⟩;exact⟨aR.of (s2 _ _ hL),hd,Nat.le_of_eq hac⟩
   ·rw[aN];refine dl (Nat.ble_eq.mpr (Nat.le_trans (List.length_filter_le _ _) ?_));rw[List.length_range]
    lia
   ·rintro i x acc H2 hx ⟨s2,hd,pr,hac⟩;obtain⟨k,hk,rfl⟩:=fW hx;have kM:k<ts.length:=nW hm (vU hk);have hkx:k<xs.length:=by lia
    obtain⟨t,ht,c,hc,hct⟩:=Paired.uw h3 (i:=k) (x:=xs[k]) (by simp[hkx])
    have Ij:bz ts k=t:=by
     unfold bz;rw[List.getD_eq_getElem?_getD,ht];rfl
    refine⟨rfl,av rfl (c8 (bB.of (s2 _ _ h1)) (ak (j:=1) rfl) (av rfl (c8 (v:=xs[k]) (bB.of (s2 _ _ h2)) (ak (j:=k) (by simp[hkx])) (?_))))⟩
    rw[hc];refine⟨hd,s2.put hD,af,?_,by rw[List.length_append,List.length_singleton,hac]⟩
    rw[List.take_add_one,hk,List.map_append];refine Paired.snoc (Paired.imp' (fun _ _ z=>z.tups (jt.put hd)) pr) ?_
    rw[Ij];exact⟨c,rfl,jt.put hd _ _ (s2 _ _ hct)⟩
   ·rintro acc H2 ⟨s2,hd,pr,hac⟩;rw[aN,List.take_length]at pr;exact q D acc H2 (s1.free hD) (s1.trans s2) hd pr
  ·exact .inr ⟨hS,q⟩
theorem i6:yE T T.iX 5 (qO a.dF):=by
 have bI:=bI T;refine T.iX.vR dz fun _ A _ s H vs Q E hr h=>?_
 ·obtain⟨wb,p,ts,S,rfl,hw,W,q⟩:=h;refine⟨_,(aj (aG (i:=2) dz.nd rfl (Or.inr rfl) (aE v8 (dQ (aa ah ae)) (aH (cA K) (pv 0) ah)))
   (aj (nV rfl (q9 K (aD bI hr T.eM.c c7.passes (aa (pv 0) (aa (pv 1) ae)))) (JA K (n:=3) rfl (dj (bU 3 dz.nd) (dj (bU 4 dz.nd) (dj (bU 5 dz.nd) nR))))
   (aj (xN (pv 2) (pv 3) (getL K) ah xO set_list)
   (au (xN (pv 2) (pv 4) (getL K) ah xO set_list))))
   (au (aI (bA (own:=["point"]) (fq:=["ends"]) (js:=[2]) (aF (ai fR) ["web","tie_set","ends","one","other","length"]) rfl (bq (by rfl) T.bH (aa (aH (cA K) (pv 0) ah) ae)) (fun _ _ _ _=>(bU 0 (mF ["point","ends"]))) (fun _ _ _ _=>(fk (aP cC (aE bM (aH (k9 K) (pv 1) (pv 0)) ah) ah (aM _)))) (fun _ _ _ _=>(pv 0))))))),?_⟩
  refine kE ?_;intro c9 eS fM jg;obtain⟨b,xs,h1,h2,h3⟩:=id hw.ex;have wp:=W.Mr;refine⟨dl rfl,fun l0 Fd=>?_⟩
  have s0:aq H (upd H l0 (.lst [.int 0])):=aq.new Fd;refine(av rfl (c8 (bB.of (s0 _ _ h1)) (ak (j:=0) rfl) ⟨l0,(p:Int),av rfl ⟨rfl,af,by lia,by lia,(by rw[Int.toNat_natCast];show 1*p<=sizeLine;exact dl (Nat.ble_eq.mpr (by lia))),fun e he=>?_⟩⟩))
  have s1:=s0.trans (aq.new (o:=.lst (List.replicate (p:Int).toNat [V.int 0]).flatten) he);have JO:upd (upd H l0 (.lst [.int 0])) e (.lst (List.replicate (p:Int).toNat [V.int 0]).flatten) e=some (.lst (ju (List.replicate p 0))):=by
   rw[af,Int.toNat_natCast,A8]
  generalize upd (upd H l0 (.lst [.int 0])) e (.lst (List.replicate (p:Int).toNat [V.int 0]).flatten)=H1 at s1 JO;have IT:H e=none:=s0.free he;refine(av rfl (av rfl ⟨wb,p,ts,S,rfl,hw.same s1,W,?_⟩));rcases q with⟨m,rfl,hm,q⟩|⟨hS,q⟩
  ·refine .inl ⟨m,rfl,hm,fun L ys H2 MK s2 hL pr=>⟨L,rfl,⟨_,aR.of hL⟩,?_⟩⟩
   have s12:=s1.trans s2;have heL:e≠L:=aU JO MK;have IU:ys.length<=24:=by
    rw[pr.length,List.length_map];have hb:Builtin.Int.intBits (m:Int)<=ts.length:=bits_le hm;have wl:=W.len;have:=List.length_filter_le (bit (m:Int)) (List.range (Builtin.Int.intBits (m:Int)));rw[List.length_range]at this;exact Nat.le_trans this (by lia)
   refine ig (K:=K) (a:=L) (xs:=ys) (fun i σ H3=>∃ v1 v2 v3,σ=[some (.ref wb),some (.int (m:Int)),some (.ref e),v1,v2,v3]/\(∀ x o,H2 x=some o->x≠e->H3 x=some o)/\H3 e=some (.lst (ju ((((bG (m:Int)).map (bz ts)).take i).foldl stepT (List.replicate p 0)))))
    ⟨none,none,none,rfl,fun _ _ z _=>z,s2 _ _ JO⟩ (fun i σ H3 _ ⟨_,_,_,_,z,_⟩=>aR.of (z _ _ hL (Ne.symm heL))) ?_ ?_
   ·rintro i y D' σ H3 hi ⟨v1,v2,v3,rfl,z3,Af⟩;obtain⟨t,ht,c,rfl,hc⟩:=Paired.uw pr hi;have hce:c≠e:=cB hc (s2 _ _ JO) (by intro z;cases z)
    have hc3:=z3 _ _ hc hce;have O8:t∈ts:=by
     obtain⟨k,hk,rfl⟩:=List.mem_map.mp (vU ht);unfold bz;have kM:=nW hm hk;rw[List.getD_eq_getElem?_getD];simp[kM]
    obtain⟨a0,a1,b0,b1⟩:=W.Mq.ends t O8;obtain⟨t1,t2,t3⟩:=t;dsimp only at a0 a1 b0 b1;obtain⟨j1,rfl⟩:=Int.eq_ofNat_of_zero_le a0;obtain⟨j2,rfl⟩:=Int.eq_ofNat_of_zero_le b0;generalize hE:(((bG (m:Int)).map (bz ts)).take i).foldl stepT (List.replicate p 0)=EE at Af;have ML:EE.length=p:=by rw[<-hE,mj,List.length_replicate]
    have MM:j1<EE.length:=by lia
    have MN:j2<(bump EE (j1:Int)).length:=by rw[ia];lia
    refine⟨c,_,rfl,bB.of hc3,rfl,_,_,rfl,_,_,rfl,_,_,rfl,rfl,?_⟩;refine(av rfl (av rfl ⟨e,_,j1,_,rfl,rfl,aR.of Af,mq MM,_,_,rfl,rfl,e,_,_,j1,rfl,rfl,Af,nX (by rw[ju,List.length_map];exact MM),?_⟩))
    rw[oR];refine(av rfl (av rfl ⟨e,_,j2,_,rfl,rfl,aR.of af,mq MN,_,_,rfl,rfl,e,_,_,j2,rfl,rfl,af,nX (by rw[ju,List.length_map];exact MN),?_⟩))
    rw[oR];refine⟨_,_,_,rfl,fun x o z hx=>by rw[ao hx,ao hx];exact z3 x o z hx,?_⟩
    rw[af,List.take_add_one,ht,List.foldl_append,hE];rfl
   ·rintro σ H3 ⟨v1,v2,v3,rfl,z3,Af⟩;have RB:wb≠e:=aU h1 IT;have rS:aq H H3:=fun x o z=>z3 x o (s12 x o z) (aU z IT)
    have hE:H3 e=some (.lst (ju (gQ p ts (m:Int)))):=by
     rw[Af,List.take_of_length_le (by rw[<-pr.length];exact Nat.le_refl _),rj hm]
    have ML:(gQ p ts (m:Int)).length=p:=by rw[rj hm,mj,List.length_replicate]
    refine(av rfl (c8 (bB.of (rS _ _ h1)) (ak (j:=0) rfl) (av rfl ⟨(by lia),(by lia),fun D hD=>cu (lo:=0) (m:=p) (lF (fun i=>decide ((gQ p ts (m:Int)).getD i 0%2=1)) H3 D) (.start hD) (fun i acc H4 _ p=>p.len) (dl (Nat.ble_eq.mpr (by lia))) ?_ ?_⟩)))
    ·intro i acc H4 hi pk;rw[Int.zero_add];refine⟨rfl,av rfl (av rfl (kQ (aR.of (pk.1 _ _ hE)) (ak (j:=i) (mq (by rw[ML];exact hi))) (bW ⟨(iD rfl),rfl,av rfl (?_)⟩)))⟩
     rw[Dm];cases hb:decide ((gQ p ts (m:Int)).getD i 0%2=1) with
     | true=>exact(av rfl (pk.yes hD (aq.refl _) hb))
     | false=>exact pk.no (aq.refl _) hb
    ·intro acc H4 pk;exact q D H4 (rS.trans pk.1) (by rw[pk.2.1,pk.2.2];rfl)
  ·exact .inr ⟨hS,q _ s1⟩
theorem m4:yE T T.mW 6 (xw a.dF):=by
 have i6:=i6 T;refine T.mW.vR wN fun _ A _ s H vs Q E hr h=>?_
 ·obtain⟨wb,p,ts,S,rfl,hw,W,q⟩:=h;refine⟨_,(au (aI (cR (AV K hr.units) (aD i6 hr T.iX.c c7.passes (aa (pv 0) (aa (pv 1) ae))) (dQ ae) (aM _)))),?_⟩;refine(av rfl (av rfl ⟨wb,p,ts,S,rfl,hw,W,?_⟩));rcases q with⟨m,rfl,hm,q⟩|⟨hS,q⟩
  ·refine .inl ⟨m,rfl,hm,fun D H1 s1 hD=>⟨dl rfl,fun l hl=>?_⟩⟩
   have s2:aq H1 (upd H1 l (.lst [])):=aq.new hl;refine⟨_,_,.lst (aR.of (s2 _ _ hD)) (uC _),.lst (aR.of af) .nil,uE _,rfl,?_⟩;rw[Dl];exact q _ (s1.trans s2)
  ·exact .inr ⟨hS,q⟩
def B5:Sp:=fun vs H Q _=>∃(l:Addr) (L:Nat->Nat) (p u v:Nat),vs=[.ref l,.int (u:Int),.int (v:Int)]/\H l=some (.lst (bF L p))/\p<=10/\u<p/\v<p/\
 ∀ D H',H D=none->aq H H'->H' D=some (.lst (bF (RM.join L u v) p))->Q (.ref D) H'
def Ag(C:Addr):Sp:=fun vs H Q E=>∃ w p ts,∃ g:aB p ts,∃ S,vs=[.ref w,.int S]/\bg H w p ts/\qa ts S (∀ H',aq H H'->E (.ref C) none H') fun m =>
 ∀ D ys H',H D=none->aq H H'->H' D=some (.lst ys)->Paired (En D H H') ys ((cS (aY p ts g m) p).map (pieceOf (aY p ts g m) p))->Q (.ref D) H'
def DO:Sp:=fun vs H Q _=>∃ w p ts,∃ g:aB p ts,vs=[.ref w]/\bg H w p ts/\∀ H',aq H H'->Q (.int (g.N.ay.length:Int)) H'
theorem bL:Ok T T.cV 1 B5:=by
 refine T.cV.ok eF fun _ A _ s H vs Q E hr h=>?_
 ·obtain⟨l,L,p,u,v,rfl,hl,hp,hu,hv,q⟩:=h;refine⟨_,(aj (aG (i:=3) eF.nd rfl (Or.inr rfl) (bE (yQ rfl) (by rfl) T.IP PyProof.Rows.boot_min (aa (aH (k9 K) (pv 0) (pv 1)) (aa (aH (k9 K) (pv 0) (pv 2)) ae))))
   (aj (aG (i:=4) eF.nd rfl (Or.inr rfl) (bE (qU rfl) (by rfl) T.EB PyProof.Rows.boot_max (aa (aH (k9 K) (pv 0) (pv 1)) (aa (aH (k9 K) (pv 0) (pv 2)) ae))))
   (au (aI (bA (own:=["least"]) (fq:=["low","high"]) (js:=[3,4]) (aF (ai cT) ["leasts","one","other","low","high"]) rfl (q9 K (pv 0)) (fun _ _ _ _=>(bU 0 (mF ["least","low","high"]))) (fun _ _ _ _=>cg) (fun _ _ _ _=>(uf (aP cC (pv 0) (pv 2) (aM _)) (pv 1) (pv 0)))))))),?_⟩
  refine gE ?_;intro c9 eS;refine(av rfl (av rfl (kQ (aR.of hl) (ak (j:=u) (bj hu)) (av rfl (av rfl (kQ (aR.of hl) (ak (j:=v) (bj hv)) ⟨_,_,rfl,?_⟩))))));refine(av rfl (av rfl (kQ (aR.of hl) (ak (j:=u) (bj hu)) (av rfl (av rfl (kQ (aR.of hl) (ak (j:=v) (bj hv)) ⟨_,_,rfl,?_⟩))))));refine(av rfl ⟨l,rfl,⟨_,aR.of hl⟩,fun D hD=>bD (xs:=bF L p) (o4 (RM.join L u v) H D) (.start hD) (fun i acc H2 _ pd=>⟨aR.of (pd.1 _ _ hl),pd.len⟩) (by rw[bh];exact dl (Nat.ble_eq.mpr (by lia))) ?_ ?_⟩)
  ·intro i x acc H2 hx pd;obtain⟨hi,rfl⟩:=gz hx;refine⟨rfl,av rfl (av rfl ⟨rfl,av rfl (?_)⟩)⟩;rw[yh,gA]
   by_cases hm:L i=max (L u) (L v)
   ·rw[cN hm];refine jr (av rfl (pd.next hD (aq.refl _) ?_));rw[Dt];unfold RM.join;rw[if_pos hm]
   ·rw[dO hm];refine g9 (av rfl (pd.next hD (aq.refl _) ?_));unfold RM.join;rw[if_neg hm]
  ·intro acc H2 pd;rw[bh]at pd;exact q D H2 hD pd.1 (by rw[pd.2.1,pd.2.2])
theorem iy:yE T T.lS 5 (Ag a.dF):=by
 have bI:=bI T;have bL:=bL T;refine T.lS.vR dX fun _ A _ s H vs Q E hr h=>?_
 ·obtain⟨wb,p,ts,g,S,rfl,hw,q⟩:=h;refine⟨_,(aj (aG (i:=2) dX.nd rfl (Or.inr rfl) (cF (El rfl) (by rfl) T.xo PyProof.Rows.boot_list (aa (cF uy (by rfl) T.bH PyProof.Rows.boot_range (aa (aH (cA K) (pv 0) ah) ae)) ae)))
   (aj (nV rfl (q9 K (aD bI hr T.eM.c c7.passes (aa (pv 0) (aa (pv 1) ae)))) (JA K (n:=3) rfl (dj (bU 3 dX.nd) (dj (bU 4 dX.nd) (dj (bU 5 dX.nd) nR))))
   (au (aG (i:=2) dX.nd rfl (Or.inr rfl) (aD bL hr T.cV.c aL (aa (pv 2) (aa (pv 3) (aa (pv 4) ae)))))))
   (aj (aG (i:=6) dX.nd rfl (Or.inl rfl) (dQ ae))
   (aj (nV rfl (bq (by rfl) T.bH (aa (aH (cA K) (pv 0) ah) ae)) (rY (i:=7) dX.nd rfl (Or.inr rfl))
   (au (bY (aP cC (aH (k9 K) (pv 2) (pv 7)) (pv 7) (aM _)) (au (bR (F8 K (oH PySem.F.plainAttrs_list PySem.F.slot_list_append PySem.F.type_list_append eY (pv 6) (aa (bA (own:=["point"]) (fq:=["leasts","start"]) (js:=[2,7]) (aF (ai lP) ["web","tie_set","leasts","one","other","length","found","start"]) rfl (bq (by rfl) T.bH (aa (aH (cA K) (pv 0) ah) ae)) (fun _ _ _ _=>(bU 0 (mF ["point","leasts","start"]))) (fun _ _ _ _=>(fk (aP cC (aH (k9 K) (pv 1) (pv 0)) (pv 2) (aM _)))) (fun _ _ _ _=>(pv 0))) ae))))) aZ)))
   (au (aI (pv 6))))))),?_⟩
  refine zJ ?_;intro c9 eS fM jg ny u3 u4;obtain⟨b,xs,h1,h2,h3⟩:=id hw.ex;have W:=g.GJ;have wp:=W.Mr;have wl:=W.len;refine(av rfl (c8 (bB.of h1) (ak (j:=0) rfl) (av rfl (fun r hr=>⟨r,p,rfl,af,by lia,fun l hl=>?_⟩))))
  have s1:aq H (upd (upd H r (.yH 0 (p:Int))) l (.lst (qo p))):=(aq.new hr).trans (aq.new hl);have hl1:upd (upd H r (.yH 0 (p:Int))) l (.lst (qo p)) l=some (.lst (bF (fun x=>x) p)):=af
  generalize upd (upd H r (.yH 0 (p:Int))) l (.lst (qo p))=H1 at s1 hl1;refine(av rfl (av rfl ⟨wb,p,ts,S,rfl,hw.same s1,W,?_⟩));rcases q with⟨m,rfl,hm,q⟩|⟨hS,q⟩
  ·refine .inl ⟨m,rfl,hm,fun T0 ys H2 Ml s2 hT pr=>⟨T0,rfl,⟨_,aR.of hT⟩,?_⟩⟩
   have IU:ys.length<=24:=by
    rw[pr.length,List.length_map];have hb:Builtin.Int.intBits (m:Int)<=ts.length:=bits_le hm;have:=List.length_filter_le (bit (m:Int)) (List.range (Builtin.Int.intBits (m:Int)));rw[List.length_range]at this;exact Nat.le_trans this (by lia)
   refine ig (K:=K) (a:=T0) (xs:=ys) (fun i σ H3=>∃ la v3 v4 v5,σ=[some (.ref wb),some (.int (m:Int)),some (.ref la),v3,v4,v5,none,none]/\aq H2 H3/\H3 la=some (.lst (bF (ng p ts g ((bG (m:Int)).take i)) p)))
    ⟨l,none,none,none,rfl,aq.refl _,s2 _ _ hl1⟩ (fun i σ H3 _ ⟨_,_,_,_,_,z,_⟩=>aR.of (z _ _ hT)) ?_ ?_
   ·rintro i y D' σ H3 hi ⟨la,v3,v4,v5,rfl,s3,hla⟩;obtain⟨t,ht,c,rfl,hc⟩:=Paired.uw pr hi;have hc3:=s3 _ _ hc;rw[List.getElem?_map]at ht;obtain⟨k,hk,hkt⟩:=DW.mp ht;have kM:=nW hm (vU hk);have ea:=ye (g:=g) kM;have eb:=yf (g:=g) kM;rw[hkt]at ea eb;have la':=g.N.al k kM;have lb':=g.N.bl k kM;refine⟨c,_,rfl,bB.of hc3,rfl,_,_,rfl,_,_,rfl,_,_,rfl,rfl,?_⟩;refine(av rfl (av rfl (av rfl ⟨la,ng p ts g ((bG (m:Int)).take i),p,g.N.a k,g.N.b k,?_,hla,wp,la',lb',fun D H4 Gg s4 hD=>?_⟩)))
    ·rw[<-ea,<-eb];rfl
    ·refine⟨D,_,_,_,rfl,s3.trans s4,?_⟩;rw[hD,List.take_add_one,hk];show _=some (HO.lst (bF (ng p ts g ((bG (m:Int)).take i++[k])) p));rw[wm]
   ·rintro σ H3 ⟨la,v3,v4,v5,rfl,s3,hla⟩;have hys:ys.length=(bG (m:Int)).length:=by rw[pr.length,List.length_map]
    rw[hys,List.take_length,wo hm]at hla;have rS:aq H H3:=(s1.trans s2).trans s3;refine⟨dl rfl,fun D hD=>?_⟩
    have t0:o6 (aY p ts g m) p H3 D 0 (upd H3 D (.lst [])):=o6.start hD;generalize upd H3 D (.lst [])=H4 at t0;refine(av rfl (c8 (bB.of (t0.1 _ _ (rS _ _ h1))) (ak (j:=0) rfl) (av rfl ⟨(by lia),(by lia),?_⟩)))
    refine cQ (lo:=0) (n:=(p:Int).toNat) (fun i σ H5=>∃ v7,σ=[some (.ref wb),some (.int (m:Int)),some (.ref la),v3,v4,v5,some (.ref D),v7]/\o6 (aY p ts g m) p H3 D i H5) ⟨none,rfl,t0⟩ ?_ ?_
    ·rintro i D' σ H5 hi ⟨v7,rfl,t5⟩;rw[Int.toNat_natCast]at hi;rw[Int.zero_add];have IV:=t5.1 _ _ hla;refine(av rfl (av rfl (kQ (aR.of IV) (ak (j:=i) (bj hi)) (av rfl ⟨rfl,av rfl (?_)⟩))));rw[gA]
     by_cases hr:aY p ts g m i=i
     ·rw[cN hr];obtain⟨RC,Lx⟩:∃ ys,H5 D=some (.lst ys):=let⟨_,ys,z,_⟩:=t5;⟨ys,z⟩;refine jr (av rfl ⟨.inl ⟨rfl,_,aR.of Lx⟩,av rfl (c8 (bB.of (t5.1 _ _ (rS _ _ h1))) (ak (j:=0) rfl) (av rfl ⟨(by lia),(by lia),fun B hB=>cu (lo:=0) (m:=(p:Int).toNat) (lF (fun x=>decide (aY p ts g m x=i)) H5 B) (.start hB) (fun i acc H6 _ pk=>pk.len) (dl (Nat.ble_eq.mpr (by lia))) ?_ ?_⟩))⟩)
      ·intro x acc H6 hx pk;rw[Int.toNat_natCast]at hx;rw[Int.zero_add];refine⟨rfl,av rfl (av rfl (kQ (aR.of (pk.1 _ _ IV)) (ak (j:=x) (bj hx)) (av rfl ⟨rfl,av rfl (?_)⟩)))⟩;rw[gA];cases hb:decide (aY p ts g m x=i) with
       | true=>exact(av rfl (pk.yes hB (aq.refl _) hb))
       | false=>exact pk.no (aq.refl _) hb
      ·intro acc H6 pk;have O9:H6 B=some (.lst (aJ (pieceOf (aY p ts g m) p i))):=by rw[pk.2.1,pk.2.2,Int.toNat_natCast];rfl
       obtain⟨Pa,Pb,hl1,t7⟩:=t5.push hD hr pk.1 hB O9;exact⟨D,Pa,_,rfl,rfl,Pb,e7 (by lia),av rfl (t7)⟩
     ·rw[dO hr];exact g9 (av rfl (t5.skip hr))
    ·rintro σ H5 ⟨v7,rfl,t5⟩;rw[Int.toNat_natCast]at t5;obtain⟨s5,Pc,Lx,Pd,RD⟩:=t5;exact(av rfl (q D Pc H5 (rS.free hD) (rS.trans s5) Lx (Paired.imp' (fun _ _ ⟨e,he,hn,h0,z⟩=>⟨e,he,hn,rS.free h0,z⟩) Pd)))
  ·exact .inr ⟨hS,q _ s1⟩
theorem xy:Ok T T.xn 6 DO:=by
 have iy:=iy T;have cz:=cz T;refine T.xn.ok DN fun _ A _ s H vs Q E hr h=>?_
 ·obtain⟨wb,p,ts,g,rfl,hw,q⟩:=h;refine⟨_,(au (aI (aE bZ (aE oE (bT K T.c5 (aa (aH (cA K) (pv 0) ah) ae)) (aH (cA K) (pv 0) ah)) (bT K T.c5 (aa (aD iy hr T.lS.c rf (aa (pv 0) (aa (aD cz hr T.gq.c aL (aa (pv 0) ae)) ae))) ae))))),?_⟩;obtain⟨b,xs,h1,h2,h3⟩:=id hw.ex;have xx:=h3.length;have e2:((2:Int)^ts.length-1)=((2^ts.length-1:Nat):Int):=by
   have h:((2:Int)^ts.length)=((2^ts.length:Nat):Int):=by simp
   have:=Nat.two_pow_pos ts.length
   lia
  have hlt:2^ts.length-1<2^ts.length:=by have:=Nat.two_pow_pos ts.length;lia
  refine(av rfl (c8 (bB.of h1) (ak (j:=1) rfl) (pQ rfl (.inr (bB.of h2)) (av rfl (c8 (bB.of h1) (ak (j:=0) rfl) (bW (?_)))))));refine(av rfl (av rfl ⟨wb,p,ts,rfl,hw,g.GJ,wb,p,ts,g,_,rfl,hw,.inl ⟨2^ts.length-1,e2,hlt,fun D ys H' Gg s' hD pr=>(pQ rfl (.inl (aR.of hD)) (bW (?_)))⟩⟩))
  have hv:=Ds (g:=g);have hy:ys.length=(cS (aY p ts g (2^ts.length-1)) p).length:=by rw[pr.length,List.length_map]
  show Q (.int ((xs.length:Int)-(p:Int)+(ys.length:Int))) H';rw[xx,hy,hv];exact q H' s'
def xA(C:Addr):Sp:=fun vs H Q E=>∃ w p ts,∃ g:aB p ts,∃ S,vs=[.ref w,.int S]/\bg H w p ts/\qa ts S (∀ H',aq H H'->E (.ref C) none H') fun m=>∀ H',aq H H'->Q (.bl (je p ts g m)) H'
theorem m5:yE T T.mX 7 (xA a.dF):=by
 have m4:=m4 T;have iy:=iy T;have cW:=cW T;refine T.mX.vR pU fun _ A _ s H vs Q E hr h=>?_
 ·obtain⟨wb,p,ts,g,S,rfl,hw,q⟩:=h;refine⟨_,(aj (bY (jo (eW (aD m4 hr T.mW.c c7.passes (aa (pv 0) (aa (pv 1) ae))))) (au (aI ud)) aZ)
   (aj (nU (i:=2) pU.nd rfl rfl (own:=["piece"]) (fq:=[]) (js:=[]) (aF (ai kh) ["web","tie_set","touched"]) rfl (q9 K (aD iy hr T.lS.c c7.passes (aa (pv 0) (aa (pv 1) ae)))) (fun _ _ _ _=>(bU 0 (mF ["piece"]))) (fun _ _ _ _=>(fk (aP qT (bT K T.c5 (aa (pv 0) ae)) ah (aM _)))) (fun _ _ _ _=>(pv 0)))
   (au (aI (lY (cR cC (bT K T.c5 (aa (pv 2) ae)) ah (aM _)) (lX (cR cC (bT K T.c5 (aa (aH (k9 K) (pv 2) ah) ae)) (bT K T.c5 (aa (aD cW hr T.iq.c aL (aa (pv 1) ae)) ae)) (aM _)))))))),?_⟩
  refine wO ?_;intro c9 eS fM;have W:=g.GJ;have wp:=g.p2;have wl:=g.len;refine(av rfl (av rfl ⟨wb,p,ts,S,rfl,hw,W,?_⟩));rcases q with⟨m,rfl,hm,q⟩|⟨hS,q⟩
  ·refine .inl ⟨m,rfl,hm,fun H1 s1=>(av rfl (?_))⟩
   by_cases ev:oQ p ts (m:Int)=[]
   ·rw[cN ev];rw[wA ev]at q;refine g9 (av rfl (av rfl ⟨wb,p,ts,g,_,rfl,hw.same s1,.inl ⟨m,rfl,hm,fun D ys H2 Gg s2 hD pr=>⟨D,rfl,⟨_,aR.of hD⟩,fun C hC=>?_⟩⟩⟩))
    have IU:ys.length<=10:=by
     rw[pr.length,List.length_map];unfold cS;have:=List.length_filter_le (fun x=>decide (aY p ts g m x=x)) (List.range p)
     rw[List.length_range]at this;exact Nat.le_trans this wp
    refine bD (xs:=ys) (pB (fun l=>decide (1<l.length)) ((cS (aY p ts g m) p).map (pieceOf (aY p ts g m) p)) H2 C) (.start hC) (fun i acc H3 _ sf=>⟨aR.of (sf.1 _ _ hD),sf.len⟩) (eB (by lia)) ?_ ?_
    ·intro i x acc H3 hx sf;obtain⟨l,hl,b,rfl,hbn,hb0,hb⟩:=Paired.uw pr hx;refine⟨rfl,av rfl (pQ rfl (.inl (aR.of (sf.1 _ _ hb))) (bW (av rfl (?_))))⟩;cases JP:decide (1<l.length) with
     | true =>
       have e:decide ((1:Int)<((aJ l).length:Int))=true:=cN (by have:=kr JP;rw[aN];lia)
       show if decide ((1:Int)<((aJ l).length:Int))=true then _ else _
       rw[e];exact jr (av rfl (sf.yes hC hl JP ⟨b,rfl,hb⟩))
     | false =>
       have e:decide ((1:Int)<((aJ l).length:Int))=false:=dO (by have:=of_decide_eq_false JP;rw[aN];lia)
       show if decide ((1:Int)<((aJ l).length:Int))=true then _ else _
       rw[e];exact g9 (sf.no hl JP)
    ·intro acc H3 sf;have pa:Paired (FU H2) acc ((cG (aY p ts g m) p).map (pieceOf (aY p ts g m) p)):=by
      have h:=sf.2.2;rw[pr.length,List.take_length,List.filter_map]at h;exact h
     have hal:=pa.length;rw[List.length_map]at hal;refine(av rfl (pQ rfl (.inl (aR.of sf.2.1)) ⟨rfl,av rfl (?_)⟩));have rS:=(s1.trans s2).trans sf.1;have Pe:Builtin.Int.intBits (m:Int)<=ts.length:=bits_le hm;generalize cG (aY p ts g m) p=tl at q pa hal;cases tl with
     | nil =>
       have hal:acc.length=0:=hal;rw[hal];exact g9 (q H3 rS)
     | cons s r =>
       cases r with
       | nil =>
         cases pa with
         | cons hy pn =>
           cases pn;obtain⟨b,rfl,hb⟩:=hy;refine jr (av rfl (kQ (aR.of sf.2.1) (ak (j:=0) rfl) (pQ rfl (.inl (aR.of (sf.1 _ _ hb))) (av rfl ⟨m,rfl,by lia,fun D4 H4 RE s4 nL=>(pQ rfl (.inl (aR.of nL)) ⟨rfl,?_⟩)⟩))))
           rw[aN,aN,gA];exact q H4 (rS.trans s4)
       | cons t r =>
         have hal:acc.length=r.length+2:=hal;have e:decide (V.int ((acc.length:Nat):Int)=V.int 1)=false:=dO fun z=>by
          have:=V.int.inj z
          lia
         rw[e];exact g9 (q H3 rS)
   ·rw[dO ev];have er:je p ts g m=false:=by
     unfold je;rw[dO ev,Bool.false_and]
    rw[er]at q;exact jr (q H1 s1)
  ·exact .inr ⟨hS,q⟩
def Ah:Sp:=fun vs H Q _=>∃ w p ts,∃ g:aB p ts,vs=[.ref w]/\bg H w p ts/\∀ D H',H D=none->aq H H'->H' D=some (.lst (bF (g.N.trail ts.length) p))->Q (.ref D) H'
def Ai:Sp:=fun vs H Q _=>∃ w p ts,∃ g:aB p ts,vs=[.ref w]/\bg H w p ts/\∀ H',aq H H'->Q (.int ((gB p ts g:Nat):Int)) H'
def Aj:Sp:=fun vs H Q _=>∃ w p ts,∃ g:aB p ts,vs=[.ref w]/\bg H w p ts/\∀ D H',H D=none->aq H H'->H' D=some (.lst (aJ g.N.ay))->Q (.ref D) H'
def qe:Sp:=fun vs H Q _=>∃ w p ts,∃ g:aB p ts,∃(D:Addr) (c:Nat),vs=[.ref w,.ref D,.int (c:Int)]/\bg H w p ts/\H D=some (.lst (bF (g.N.trail ts.length) p))/\c<ts.length/\Q (.int ((g.N.ring c:Nat):Int)) H
theorem B6{H:Hp}{xs:List V}{p:Nat}{ts:List cJ}{g:aB p ts}{k:Nat}(h3:Paired (TupAt H) xs ts)(hk:k<ts.length):∃ c,xs[k]?=some (.ref c)/\H c=some (.tup [.int ((g.N.a k:Nat):Int),.int ((g.N.b k:Nat):Int),.int (bz ts k).2.2]):=by
 have hkx:k<xs.length:=by rw[h3.length];exact hk
 obtain⟨t,ht,c,hc,hct⟩:=Paired.uw h3 (i:=k) (x:=xs[k]) (by simp[hkx])
 have Ij:t=bz ts k:=by
  have z:=my hk;rw[ht]at z;exact Option.some.inj z
 refine⟨c,by rw[<-hc];simp[hkx],?_⟩
 rw[hct,<-ye hk,<-yf hk,Ij];rfl
theorem bN:Ok T T.dI 2 Ah:=by
 have bL:=bL T;refine T.dI.ok aS fun _ A _ s H vs Q E hr h=>?_
 ·obtain⟨wb,p,ts,g,rfl,hw,q⟩:=h;refine⟨_,(aj (aG (i:=1) aS.nd rfl (Or.inl rfl) (cF (El rfl) (by rfl) T.xo PyProof.Rows.boot_list (aa (cF uy (by rfl) T.bH PyProof.Rows.boot_range (aa (aH (cA K) (pv 0) ah) ae)) ae)))
   (aj (aG (i:=2) aS.nd rfl (Or.inl rfl) (aE v8 (dQ (aa ah ae)) (aH (cA K) (pv 0) ah)))
   (aj (gP PassesOwn.never rfl (bq (by rfl) T.bH (aa (bT K T.c5 (aa (aH (cA K) (pv 0) ah) ae)) ae)) (bU 3 aS.nd)
   (aj (aG (i:=4) aS.nd rfl (Or.inl rfl) (aH (cA K) (aH (cA K) (aH (cA K) (pv 0) ah) (pv 3)) ah))
   (aj (aG (i:=5) aS.nd rfl (Or.inl rfl) (aH (cA K) (aH (cA K) (aH (cA K) (pv 0) ah) (pv 3)) ah))
   (au (bY (aP D8 (aH (k9 K) (pv 1) (pv 4)) (aH (k9 K) (pv 1) (pv 5)) (aM _)) (aj (aG (i:=6) aS.nd rfl (Or.inr rfl) (aE kK (aE kK (aH (k9 K) (pv 2) (pv 4)) (aH (k9 K) (pv 2) (pv 5))) (aE l5 ah (pv 3))))
   (aj (aG (i:=7) aS.nd rfl (Or.inr rfl) (bE (qU rfl) (by rfl) T.EB PyProof.Rows.boot_max (aa (aH (k9 K) (pv 1) (pv 4)) (aa (aH (k9 K) (pv 1) (pv 5)) ae))))
   (aj (nU (i:=2) aS.nd rfl rfl (own:=["trail","least"]) (fq:=["bridge","moved"]) (js:=[6,7]) (aF (ai dG) ["web","leasts","trails","tie","one","other","bridge","moved"]) rfl (FH K (by rfl) T.IS (aa (pv 2) (aa (pv 1) ae))) (fun _ _ _ _=>(JA K (n:=2) rfl (dj (bU 0 (mF ["trail","least","bridge","moved"])) (dj (bU 1 (mF ["trail","least","bridge","moved"])) nR)))) (fun _ _ _ _=>cg) (fun _ _ _ _=>(uf (aP cC (pv 1) (pv 3) (aM _)) (aE kK (pv 0) (pv 2)) (pv 0))))
   (au (aG (i:=1) aS.nd rfl (Or.inl rfl) (aD bL hr T.cV.c aL (aa (pv 1) (aa (pv 4) (aa (pv 5) ae))))))))) aZ)))))
   (au (aI (pv 2)))))),?_⟩
  refine mJ ?_;intro c9 eS fM jg ny u3 u4 yz BK BL;obtain⟨bt,xs,h1,h2,h3⟩:=id hw.ex;have wp:=g.p2;have wl:=g.len;have xx:=h3.length;refine(av rfl (c8 (bB.of h1) (ak (j:=0) rfl) (av rfl (fun r hr=>⟨r,p,rfl,af,by lia,fun l hl=>?_⟩))))
  have s1:aq H (upd (upd H r (.yH 0 (p:Int))) l (.lst (qo p))):=(aq.new hr).trans (aq.new hl);have hl1:upd (upd H r (.yH 0 (p:Int))) l (.lst (qo p)) l=some (.lst (bF (g.N.cM 0) p)):=af;generalize upd (upd H r (.yH 0 (p:Int))) l (.lst (qo p))=H1 at s1 hl1;refine⟨dl rfl,fun l0 Fd=>?_⟩
  have s0:aq H1 (upd H1 l0 (.lst [.int 0])):=aq.new Fd;refine(av rfl (c8 (bB.of (s0 _ _ (s1 _ _ h1))) (ak (j:=0) rfl) ⟨l0,(p:Int),av rfl ⟨rfl,af,by lia,by lia,(by rw[Int.toNat_natCast];show 1*p<=sizeLine;exact dl (Nat.ble_eq.mpr (by lia))),fun e he=>?_⟩⟩))
  have s2:=s0.trans (aq.new (o:=.lst (List.replicate (p:Int).toNat [V.int 0]).flatten) he);have FG:upd (upd H1 l0 (.lst [.int 0])) e (.lst (List.replicate (p:Int).toNat [V.int 0]).flatten) e=some (.lst (bF (g.N.trail 0) p)):=by
   rw[af,Int.toNat_natCast,uJ];rfl
  generalize upd (upd H1 l0 (.lst [.int 0])) e (.lst (List.replicate (p:Int).toNat [V.int 0]).flatten)=H2 at s2 FG;refine(av rfl (c8 (bB.of ((s1.trans s2) _ _ h1)) (ak (j:=1) rfl) (pQ rfl (.inr (bB.of ((s1.trans s2) _ _ h2))) (av rfl ⟨(by lia),(by lia),?_⟩))))
  refine cQ (lo:=0) (n:=(xs.length:Int).toNat) (fun k σ H3=>∃ la ta v3 v4 v5 v6 v7,σ=[some (.ref wb),some (.ref la),some (.ref ta),v3,v4,v5,v6,v7]/\aq H H3/\H3 la=some (.lst (bF (g.N.cM k) p))/\H3 ta=some (.lst (bF (g.N.trail k) p))/\H ta=none)
   ⟨l,e,none,none,none,none,none,rfl,s1.trans s2,s2 _ _ hl1,FG,s1.free (s0.free he)⟩ ?_ ?_
  ·rintro k D' σ H3 hk ⟨la,ta,v3,v4,v5,v6,v7,rfl,s3,hla,ED,Iv⟩;rw[Int.toNat_natCast,xx]at hk;rw[Int.zero_add];obtain⟨c,hxc,hct⟩:=B6 (g:=g) h3 hk;have hA:=g.N.al k hk;have hB:=g.N.bl k hk;have hls:=RM.uF (N:=g.N) k;have DP:g.N.jj k = !decide (g.N.cM k (g.N.a k)=g.N.cM k (g.N.b k)):=rfl;have htr:g.N.trail (k+1)=if g.N.jj k=true then fun v=>if g.N.cM k v=max (g.N.cM k (g.N.a k)) (g.N.cM k (g.N.b k)) then g.N.trail k v^^^(g.N.trail k (g.N.a k)^^^g.N.trail k (g.N.b k)^^^2^k) else g.N.trail k v else g.N.trail k:=rfl
   generalize g.N.a k=A0 at *;generalize g.N.b k=B0 at *;refine(av rfl (c8 (bB.of (s3 _ _ h1)) (ak (j:=1) rfl) (av rfl (c8 (bB.of (s3 _ _ h2)) (ak (j:=k) hxc) (c8 (bB.of (s3 _ _ hct)) (ak (j:=0) rfl) (?_))))));refine(av rfl (c8 (bB.of (s3 _ _ h1)) (ak (j:=1) rfl) (av rfl (c8 (bB.of (s3 _ _ h2)) (ak (j:=k) hxc) (c8 (bB.of (s3 _ _ hct)) (ak (j:=1) rfl) (?_))))));refine(av rfl (av rfl (kQ (aR.of hla) (ak (j:=A0) (bj hA)) (av rfl (av rfl (kQ (aR.of hla) (ak (j:=B0) (bj hB)) ⟨rfl,av rfl (?_)⟩))))));rw[gA]
   by_cases he:g.N.cM k A0=g.N.cM k B0
   ·rw[cN he]at DP;rw[DP,if_neg (by decide)]at hls htr
    rw[cN he];exact g9 ⟨la,ta,_,_,_,_,_,rfl,s3,by rw[hls];exact hla,by rw[htr];exact ED,Iv⟩
   ·rw[dO he]at DP;rw[DP,if_pos (by rfl)]at hls htr
    rw[dO he];have Pf:Builtin.bitXor (Builtin.bitXor ((g.N.trail k A0:Nat):Int) ((g.N.trail k B0:Nat):Int)) (1*2^(k:Int).toNat)=((g.N.trail k A0^^^g.N.trail k B0^^^2^k:Nat):Int):=by
     rw[lI,xor_int,xor_int]
    refine jr (av rfl (av rfl (kQ (aR.of ED) (ak (j:=A0) (bj hA)) (av rfl (av rfl (kQ (aR.of ED) (ak (j:=B0) (bj hB)) (bW (av rfl (bW ⟨⟨by lia,by lia,by decide⟩,bW (?_)⟩)))))))))
    refine(av rfl (av rfl (kQ (aR.of hla) (ak (j:=A0) (bj hA)) (av rfl (av rfl (kQ (aR.of hla) (ak (j:=B0) (bj hB)) ⟨_,_,rfl,?_⟩))))));refine(av rfl (av rfl ⟨ta,la,rfl,⟨_,aR.of ED⟩,⟨_,aR.of hla⟩,fun D hD=>A3 (xs:=bF (g.N.trail k) p) (ys:=bF (g.N.cM k) p) (by rw[bh,bh]) (o4 (g.N.trail (k+1)) H3 D) (.start hD) (fun i acc H4 _ pd=>⟨aR.of (pd.1 _ _ ED),aR.of (pd.1 _ _ hla),pd.len⟩) (by rw[bh];exact dl (Nat.ble_eq.mpr (by lia))) ?_ ?_⟩))
    ·intro i x y T0 acc H4 hx hy pd hT;obtain⟨hi,rfl⟩:=gz hx;obtain⟨_,rfl⟩:=gz hy;refine⟨T0,_,rfl,bB.of af,rfl,_,_,rfl,_,_,rfl,rfl,rfl,av rfl (av rfl ⟨rfl,av rfl (?_)⟩)⟩;rw[yh,gA]
     by_cases hm:g.N.cM k i=max (g.N.cM k A0) (g.N.cM k B0)
     ·rw[cN hm];refine jr (av rfl (av rfl (bW (pd.next hD (aq.new hT) ?_))));show V.int (Builtin.bitXor _ (Builtin.bitXor (Builtin.bitXor _ _) _))=_;rw[Pf,xor_int,htr];show _=V.int (((if _ then _ else _:Nat)):Int)
      rw[if_pos hm]
     ·rw[dO hm];refine g9 (av rfl (pd.next hD (aq.new hT) ?_));rw[htr];show _=V.int (((if _ then _ else _:Nat)):Int)
      rw[if_neg hm]
    ·intro acc H4 pd;rw[bh]at pd;have nL:H4 D=some (.lst (bF (g.N.trail (k+1)) p)):=by rw[pd.2.1,pd.2.2]
     refine(av rfl (av rfl (av rfl ⟨la,g.N.cM k,p,A0,B0,rfl,pd.1 _ _ hla,wp,hA,hB,fun D2 H5 RG s5 sL=>?_⟩)))
     exact⟨D2,D,_,_,_,_,_,rfl,(s3.trans pd.1).trans s5,by rw[hls];exact sL,s5 _ _ nL,s3.free hD⟩
  ·rintro σ H3 ⟨la,ta,v3,v4,v5,v6,v7,rfl,s3,hla,ED,Iv⟩;rw[Int.toNat_natCast,xx]at ED;exact(av rfl (q ta H3 Iv s3 ED))
theorem qf:Ok T T.p8 3 Ai:=by
 have bN:=bN T;refine T.p8.ok kg fun _ A _ s H vs Q E hr h=>?_
 ·obtain⟨wb,p,ts,g,rfl,hw,q⟩:=h;refine⟨_,(aj (aG (i:=1) kg.nd rfl (Or.inl rfl) ah)
   (aj (gP PassesOwn.never rfl (q9 K (aD bN hr T.dI.c aL (aa (pv 0) ae))) (bU 2 kg.nd)
   (au (EV (i:=1) kg.nd rfl (Or.inl rfl) (pv 2) E2)))
   (au (aI (pv 1))))),?_⟩
  refine zK ?_;intro c9 eS fM;refine(av rfl ⟨wb,p,ts,g,rfl,hw,fun D H1 Gg s1 hD=>⟨D,rfl,⟨_,aR.of hD⟩,?_⟩⟩)
  refine ig (K:=K) (a:=D) (xs:=bF (g.N.trail ts.length) p) (fun i σ H2=>∃ v2,σ=[some (.ref wb),some (.int ((GK (g.N.trail ts.length) i:Nat):Int)),v2]/\H2=H1) ⟨none,rfl,rfl⟩ (fun i σ H2 _ ⟨_,_,z⟩=>by rw[z];exact aR.of hD) ?_ ?_
  ·rintro i x D' σ H2 hx ⟨v2,rfl,rfl⟩;obtain⟨hi,rfl⟩:=gz hx;refine(av rfl (av rfl (bW ⟨some (.int ((g.N.trail ts.length i:Nat):Int)),?_,rfl⟩)));show[_,some (V.int (Builtin.bitOr _ _)),_]=_;rw[or_int];rfl
  ·rintro σ H2 ⟨v2,rfl,rfl⟩;rw[bh,wq];exact(av rfl (q _ s1))
theorem iz:Ok T T.lT 4 Aj:=by
 have qf:=qf T;have cz:=cz T;have cW:=cW T;refine T.lT.ok zL fun _ A _ s H vs Q E hr h=>?_
 ·obtain⟨wb,p,ts,g,rfl,hw,q⟩:=h;refine⟨_,(au (aI (aD cW hr T.iq.c aL (aa (aE kK (aD cz hr T.gq.c aL (aa (pv 0) ae)) (aD qf hr T.p8.c aL (aa (pv 0) ae))) ae)))),?_⟩;have wl:=g.len;refine(av rfl ⟨wb,p,ts,rfl,hw,g.GJ,_,rfl,wb,p,ts,g,rfl,hw,fun H1 s1=>(bW ⟨(2^ts.length-1)^^^gB p ts g,?_,?_,fun D H2 Gg s2 hD=>?_⟩)⟩)
  ·show[V.int (Builtin.bitXor _ _)]=_;rw[Dw,xor_int]
  ·exact Nat.le_trans (bits_le rF) (by lia)
  ·rw[uK]at hD;exact q D H2 (s1.free Gg) (s1.trans s2) hD
theorem g7:Ok T T.g5 1 qe:=by
 refine T.g5.ok jC fun _ A _ s H vs Q E hr h=>?_
 ·obtain⟨wb,p,ts,g,D,c,rfl,hw,hD,hc,q⟩:=h;refine⟨_,(aj (aG (i:=3) jC.nd rfl (Or.inl rfl) (aH (cA K) (aH (cA K) (pv 0) ah) (pv 2)))
   (au (aI (aE kK (aE kK (aH (k9 K) (pv 1) (aH (cA K) (pv 3) ah)) (aH (k9 K) (pv 1) (aH (cA K) (pv 3) ah))) (aE l5 ah (pv 2)))))),?_⟩
  refine gS ?_;intro c9;obtain⟨bt,xs,h1,h2,h3⟩:=id hw.ex;have wl:=g.len;obtain⟨b,hxc,hct⟩:=B6 (g:=g) h3 hc;have hA:=g.N.al c hc;have hB:=g.N.bl c hc;refine(av rfl (c8 (bB.of h1) (ak (j:=1) rfl) (av rfl (c8 (bB.of h2) (ak (j:=c) hxc) (?_)))));refine(av rfl (av rfl (c8 (bB.of hct) (ak (j:=0) rfl) (kQ (aR.of hD) (ak (j:=g.N.a c) (bj hA)) (av rfl (av rfl (c8 (bB.of hct) (ak (j:=1) rfl) (kQ (aR.of hD) (ak (j:=g.N.b c) (bj hB)) (bW (av rfl (bW ⟨⟨by lia,by lia,by decide⟩,bW (?_)⟩)))))))))))
  show Q (V.int (Builtin.bitXor (Builtin.bitXor _ _) _)) H;rw[lI,xor_int,xor_int];exact q
def qP(C:Addr):Sp:=fun vs H Q E=>∃ w p ts,∃ g:aB p ts,∃ S,vs=[.ref w,.int S]/\bg H w p ts/\
 ((∃ c:Nat,S=(c:Int)/\c∈g.N.ay/\∀ H',aq H H'->Q (.int ((g.N.ring c:Nat):Int)) H')\/((∀ c∈g.N.ay,S≠((c:Nat):Int))/\∀ H',aq H H'->E (.ref C) none H'))
theorem i7:yE T T.iY 5 (qP a.ki):=by
 have iz:=iz T;have bN:=bN T;have g7:=g7 T;refine T.iY.vR qv fun _ A _ s H vs Q E hr h=>?_
 ·obtain⟨wb,p,ts,g,S,rfl,hw,q⟩:=h;refine⟨_,(aj (bY (aP (v9 K) (pv 1) (aD iz hr T.lT.c aL (aa (pv 0) ae)) (by with_unfolding_all rfl)) (au (oO c7.KZ rfl (by rfl) T.Ab PySem.F.excBase_ValueError (aa iB ae))) aZ)
   (au (aI (aD g7 hr T.g5.c aL (aa (pv 0) (aa (aD bN hr T.dI.c aL (aa (pv 0) ae)) (aa (pv 1) ae))))))),?_⟩
  refine kF ?_;intro c9 eS;refine(av rfl (av rfl ⟨wb,p,ts,g,rfl,hw,fun D H1 Gg s1 hD=>(pQ rfl (.inl (aR.of hD)) ⟨rfl,rE _,_,rfl,?_⟩)⟩))
  rcases q with⟨c,rfl,hc,q⟩|⟨hS,q⟩
  ·rw[o8,cN hc];refine g9 (av rfl (av rfl ⟨wb,p,ts,g,rfl,hw.same s1,fun D2 H2 hn2 s2 sL=>(av rfl ⟨wb,p,ts,g,D2,c,rfl,hw.same (s1.trans s2),sL,(RM.bS.mp hc).1,q _ (s1.trans s2)⟩)⟩))
  ·rw[FQ hS];exact jr ⟨dl rfl,q _ s1⟩
def tT(C:Addr):Sp:=fun vs H Q E=>∃ w p ts S,vs=[.ref w,.int S]/\bg H w p ts/\Em p ts/\qa ts S (∀ H',aq H H'->E (.ref C) none H') fun m=>∀ H',aq H H'->Q (.int (lenOf ts m)) H'
theorem jN:yE T T.jI 5 (tT a.dF):=by
 have bI:=bI T;refine T.jI.vR sN fun _ A _ s H vs Q E hr h=>?_
 ·obtain⟨wb,p,ts,S,rfl,hw,W,q⟩:=h;refine⟨_,(au (aI (bE (sumK K rfl) (by rfl) T.EC PyProof.Rows.boot_sum (aa (bA (own:=["tie"]) (fq:=[]) (js:=[]) (aF (ai gD) ["web","tie_set"]) rfl (q9 K (aD bI hr T.eM.c c7.passes (aa (pv 0) (aa (pv 1) ae)))) (fun _ _ _ _=>(bU 0 (mF ["tie"]))) (fun _ _ _ _=>cg) (fun _ _ _ _=>(aH (cA K) (pv 0) ah))) ae)))),?_⟩
  refine(av rfl (av rfl ⟨wb,p,ts,S,rfl,hw,W,?_⟩));rcases q with⟨m,rfl,hm,q⟩|⟨hS,q⟩
  ·refine .inl ⟨m,rfl,hm,fun L ys H1 MK s1 hL pr=>⟨L,rfl,⟨_,aR.of hL⟩,fun D hD=>?_⟩⟩
   have wl:=W.len;have IU:ys.length=(bG (m:Int)).length:=by rw[pr.length,List.length_map]
   have Ly:ys.length<=24:=by
    rw[IU];have hb:Builtin.Int.intBits (m:Int)<=ts.length:=bits_le hm;have:=List.length_filter_le (bit (m:Int)) (List.range (Builtin.Int.intBits (m:Int)));rw[List.length_range]at this;exact Nat.le_trans this (by lia)
   refine bD (xs:=ys) (qp (fun k=>(bz ts k).2.2) (bG (m:Int)) H1 D) (.start hD) (fun i acc H2 _ pm=>⟨aR.of (pm.1 _ _ hL),pm.len⟩) (eB Ly) ?_ ?_
   ·intro i x acc H2 hx pm;obtain⟨t,ht,c,rfl,hc⟩:=Paired.uw pr hx;rw[List.getElem?_map]at ht;obtain⟨k,hk,rfl⟩:=DW.mp ht;exact⟨rfl,av rfl (c8 (bB.of (pm.1 _ _ hc)) (ak (j:=2) rfl) (pm.next hD (aq.refl _) hk rfl))⟩
   ·intro acc H2 pm;rw[IU]at pm;exact⟨D,_,rfl,aR.of pm.fin,q H2 (s1.trans pm.1)⟩
  ·exact .inr ⟨hS,q _ (aq.refl _)⟩
def jO(ts:List cJ)(x y:Nat):Prop:=lenOf ts x<lenOf ts y\/(lenOf ts x=lenOf ts y/\x<=y)
def B7(t:Addr)(lp:Pos):Sp:=fun vs H Q _=>∃ w p ts,∃ g:aB p ts,∃(l:Addr) (ms:List Nat),vs=[.ref w,.ref l]/\bg H w p ts/\H l=some (.lst (aJ ms))/\ms.length<64/\(∀ m∈ms,m<2^ts.length)/\H t=some (.jU (fG (zC "by_length") lp))/\
 ∀ D ms' H',H D=none->aq H H'->H' D=some (.lst (aJ ms'))->ms'.Perm ms->ms'.Pairwise (jO ts)->Q (.ref D) H'
theorem EF:∀{l:List Int},(∀ x∈l,0<=x)->∃ ms:List Nat,l=ms.map (fun x=>((x:Nat):Int))
 | [],_=>⟨[],rfl⟩
 | x::r,h=>by
   obtain⟨ms,e⟩:=EF (l:=r) fun y hy=>h y (qi _ hy)
   have hx:=h x List.mem_cons_self;refine⟨x.toNat::ms,?_⟩;rw[List.map_cons,<-e]
   congr 1
   lia
theorem jP:O7 T T.gJ 9 (B7 a.dY cU):=by
 have jN:=jN T;refine T.gJ.ok sO fun A _ s H vs Q E hr h=>?_
 ·obtain⟨wb,p,ts,g,l,ms,rfl,hw,hl,h64,hms,htb,q⟩:=h;refine⟨_,(au (aI (BE (x:="ring") (fq:=["web"]) (js:=[0]) hr (aF (ai gF) ["web","rings"]) rfl (by rfl) T.p9 rfl T.gJ.F.hd (aa (pv 1) ae) (fun _ _ _ _ hr=>(eg (aa (aD jN hr T.jI.c rf (aa (pv 1) (aa (pv 0) ae))) (aa (pv 0) ae))))))),?_⟩
  have W:=g.GJ;have wl:=g.len;have big:(2:Nat)^ts.length<=2^24:=Nat.pow_le_pow_right (by decide) wl
  have Gh:∀ n,n∈ms.map (fun x=>((x:Nat):Int))->∃ m:Nat,n=(m:Int)/\m∈ms:=fun n hn=>by
   obtain⟨m,hm,rfl⟩:=List.mem_map.mp hn;exact⟨m,rfl,hm⟩
  refine(av rfl ⟨l,ms.map (fun x=>((x:Nat):Int)),fun z=>(lenOf ts z.toNat,z),rfl,by rw[<-kO];exact hl,by rw[List.length_map];exact h64,fun n hn=>?_,htb,fun H3 hk n hn=>?_,fun D ns' H4 hD s4 nL hp hs=>?_⟩)
  ·obtain⟨m,rfl,hm⟩:=Gh n hn;have:=hms m hm;exact⟨by show(0:Int)<=(m:Int);lia,by show(m:Int)<1073741824;lia⟩
  ·obtain⟨m,rfl,hm⟩:=Gh n hn;have tp:jt H H3:=fun b xs e=>hk b _ e (fun y z=>nomatch z) (fun y z=>nomatch z)
   refine(av rfl (av rfl ⟨wb,p,ts,_,rfl,hw.tups tp,W,.inl ⟨m,rfl,hms m hm,fun H4 s4=>(av rfl ⟨dl rfl,fun d hd=>?_⟩)⟩⟩))
   exact⟨s4.trans (aq.new hd),d,rfl,af⟩
  ·obtain⟨ms',rfl⟩:∃ ms' : List Nat,ns' = ms'.map (fun x=>((x:Nat):Int)):=by
    refine EF fun x hx=>?_
    obtain⟨m,rfl,_⟩:=Gh x (hp.mem_iff.mp hx)
    lia
   have Lz:ms'.Perm ms:=by
    have:=hp.map Int.toNat;rw[List.map_map,List.map_map]at this;have e:∀ l:List Nat,l.map (Int.toNat∘fun x=>((x:Nat):Int))=l:=fun l=>by
     induction l with
     | nil=>rfl
     | cons x r ih=>rw[List.map_cons,ih];rfl
    rw[e,e]at this;exact this
   refine q D ms' H4 hD s4 (by rw[kO];exact nL) Lz ?_
   rw[List.pairwise_map]at hs;refine List.Pairwise.imp_of_mem (fun {x y} hx hy h=>?_) hs
   have hx:=hms x (Lz.mem_iff.mp hx);have hy:=hms y (Lz.mem_iff.mp hy);have h:lenOf ts x*1073741824+(x:Int)<=lenOf ts y*1073741824+(y:Int):=h;unfold jO
   lia
structure qQ(p:Nat)(ts:List cJ)(g:aB p ts)(l:List Nat):Prop where
 pw:l.Pairwise (jO ts)
 nd:l.Nodup
 all:∀ r,r∈l↔r<2^ts.length/\g.N.Ring r
theorem qQ.few{p:Nat}{ts:List cJ}{g:aB p ts}{l:List Nat}(h:qQ p ts g l)(h9:ts.length<=9):l.length<64:=RM.lM (N:=g.N) h9 h.nd fun m hm=>(h.all m).mp hm
theorem xB{ts:List cJ}{l l' : List Nat}(h9:ts.length<=24)(hp:l.Perm l')(lt:∀ r∈l,r<2^ts.length)(pw:l.Pairwise (jO ts))(Pg:l'.Pairwise (jO ts)):l=l':=by
 have big:(2:Nat)^ts.length<=2^24:=Nat.pow_le_pow_right (by decide) h9
 have lt' : ∀ r∈l',r<2^ts.length:=fun r hr=>lt r (hp.mem_iff.mpr hr)
 have MO:∀{rs:List Nat},(∀ r∈rs,r<2^ts.length)->rs.Pairwise (jO ts)->(rs.map fun r=>lenOf ts r*1073741824+(r:Int)).Pairwise (·<=·):=fun {rs} hlt F6=>by
  rw[List.pairwise_map];refine List.Pairwise.imp_of_mem (fun {x y} hx hy h=>?_) F6
  have hx:=hlt x hx;have hy:=hlt y hy;unfold jO at h
  lia
 have e:=PySem.W.lks_uniq (hp.map fun r=>lenOf ts r*1073741824+(r:Int)) (MO lt pw) (MO lt' Pg)
 refine List.ext_getElem hp.length_eq fun i a b=>?_
 have e1:=congrArg (fun l=>l[i]?) e
 rw[List.getElem?_map,List.getElem?_map,List.getElem?_eq_getElem a,List.getElem?_eq_getElem b]at e1;have e1:lenOf ts l[i]*1073741824+(l[i]:Int)=lenOf ts l'[i]*1073741824+(l'[i]:Int):=Option.some.inj e1;have b1:=lt _ (List.getElem_mem a);have b2:=lt' _ (List.getElem_mem b)
 lia
theorem qQ.uniq{p:Nat}{ts:List cJ}{g:aB p ts}{l l' : List Nat}(h:qQ p ts g l)(h' : qQ p ts g l'):l=l' :=
 xB g.len ((List.perm_ext_iff_of_nodup h.nd h'.nd).mpr fun r=>(h.all r).trans (h'.all r).symm) (fun r hr=>((h.all r).mp hr).1) h.pw h'.pw
def qR(C:Addr):Sp:=fun vs H Q E=>∃ w p ts,∃ g:aB p ts,vs=[.ref w]/\bg H w p ts/\((g.N.ay.length<=8/\∀ H',aq H H'->Q .eV H')\/(8<g.N.ay.length/\∀ H',aq H H'->E (.ref C) none H'))
def tU:Sp:=fun vs H Q _=>∃ w p ts,∃ g:aB p ts,vs=[.ref w]/\bg H w p ts/\g.N.ay.length<=8/\∀ D H',H D=none->aq H H'->H' D=some (.lst (aJ (RM.pP g.N g.N.ay.length)))->Q (.ref D) H'
def tV(C t:Addr)(lp:Pos):Sp:=fun vs H Q E=>∃ w p ts,∃ g:aB p ts,vs=[.ref w]/\bg H w p ts/\H t=some (.jU (fG (zC "by_length") lp))/\
 ((g.N.ay.length<=8/\ts.length<=9/\∀ D l H',H D=none->aq H H'->H' D=some (.lst (aJ l))->qQ p ts g l->Q (.ref D) H')\/(8<g.N.ay.length/\∀ H',aq H H'->E (.ref C) none H'))
theorem bJ:yE T T.eN 7 (qR a.aO):=by
 have xy:=xy T;refine T.eN.vR qx fun _ A _ s H vs Q E hr h=>?_
 ·obtain⟨wb,p,ts,g,rfl,hw,q⟩:=h;refine⟨_,(au (bY (aP qT (aD xy hr T.xn.c aL (aa (pv 0) ae)) (C5 (by rfl) T.vE) (aM _)) (au (oO c7.KZ rfl (by rfl) T.Ac PySem.F.excBase_ValueError (aa iB ae))) aZ)),?_⟩
  refine lO ?_;intro c9;refine(av rfl ⟨wb,p,ts,g,rfl,hw,fun H1 s1=>(bW (av rfl (?_)))⟩)
  rcases q with⟨h8,q⟩|⟨h8,q⟩
  ·rw[dO (by lia)]
   exact g9 (q H1 s1)
  ·rw[cN (by lia)]
   exact jr ⟨dl rfl,q H1 s1⟩
theorem jQ:Ok T T.jJ 6 tU:=by
 have iz:=iz T;have i7:=i7 T;refine T.jJ.ok eG fun _ A _ s H vs Q E hr h=>?_
 ·obtain⟨wb,p,ts,g,rfl,hw,h8,q⟩:=h;refine⟨_,(aj (aG (i:=1) eG.nd rfl (Or.inl rfl) (dQ (aa ah ae)))
   (aj (gP PassesOwn.never rfl (q9 K (aD iz hr T.lT.c aL (aa (pv 0) ae))) (bU 2 eG.nd)
   (aj (aG (i:=3) eG.nd rfl (Or.inr rfl) (aD i7 hr T.iY.c rf (aa (pv 0) (aa (pv 2) ae))))
   (au (aG (i:=1) eG.nd rfl (Or.inl rfl) (aE (K5 K) (pv 1) (bA (own:=["even"]) (fq:=["ring"]) (js:=[3]) (aF (ai gG) ["web","found","chord","ring"]) rfl (q9 K (pv 1)) (fun _ _ _ _=>(bU 0 (mF ["even","ring"]))) (fun _ _ _ _=>cg) (fun _ _ _ _=>(aE kK (pv 0) (pv 1)))))))))
   (au (aI (pv 1))))),?_⟩
  refine kE ?_;intro c9 eS fM jg;have wl:=g.len;refine⟨dl rfl,fun F hF=>?_⟩
  have s1:aq H (upd H F (.lst [.int 0])):=aq.new hF;have IW:upd H F (.lst [.int 0]) F=some (.lst (aJ (RM.pP g.N 0))):=by rw[RM.BF];exact af
  generalize upd H F (.lst [.int 0])=H1 at s1 IW;refine(av rfl ⟨wb,p,ts,g,rfl,hw.same s1,fun C H2 hC s2 xC=>?_⟩)
  refine⟨C,rfl,⟨_,aR.of xC⟩,ig (K:=K) (a:=C) (xs:=aJ g.N.ay) (fun i σ H3=>∃ D v2 v3,σ=[some (.ref wb),some (.ref D),v2,v3]/\H D=none/\aq H H3/\H3 C=some (.lst (aJ g.N.ay))/\H3 D=some (.lst (aJ (RM.pP g.N i)))) ⟨F,none,none,rfl,hF,s1.trans s2,xC,s2 _ _ IW⟩ (fun i σ H3 _ ⟨_,_,_,_,_,_,z,_⟩=>aR.of z) ?_ ?_⟩
  ·rintro i y D' σ H3 hi ⟨D,v2,v3,rfl,hD,s3,MP,yY⟩;obtain⟨c,LA,rfl⟩:=fW hi;have K0:=vU LA;have DB:=(vM.mp LA).1;have el:(RM.pP g.N i).length=2^i:=by unfold RM.pP;rw[List.length_map,List.length_range]
   have pw:(2:Nat)^i<=2^7:=Nat.pow_le_pow_right (by decide) (by lia)
   refine(av rfl (av rfl ⟨wb,p,ts,g,_,rfl,hw.same s3,.inl ⟨c,rfl,K0,fun H4 s4=>?_⟩⟩))
   have nL:=s4 _ _ yY;refine(av rfl (av rfl ⟨D,rfl,⟨_,aR.of nL⟩,fun X hX=>bD (K:=K) (a:=D) (xs:=aJ (RM.pP g.N i)) (fun k acc H5=>aq H4 H5/\H5 X=some (.lst acc)/\acc=aJ (((RM.pP g.N i).take k).map fun e=>e^^^g.N.ring c)) ⟨aq.new hX,af,rfl⟩ (fun k acc H5 _ z=>⟨aR.of (z.1 _ _ nL),z.2.1,by rw[z.2.2,aN,List.length_map,List.length_take];lia⟩) (Nat.le_of_lt (e7 (by rw[aN];lia))) ?_ ?_⟩))
   ·rintro k x acc H5 hx ⟨s5,JQ,rfl⟩;obtain⟨e,Ph,rfl⟩:=fW hx;refine⟨rfl,av rfl (av rfl (bW ⟨JQ,s5.put hX,af,?_⟩))⟩;rw[take3 Ph,List.map_append,List.map_singleton,dR];show _++[V.int (Builtin.bitXor _ _)]=_;rw[xor_int]
   ·rintro acc H5 ⟨s5,JQ,rfl⟩;rw[aN,List.take_length]at JQ;have MQ:=s3.trans (s4.trans s5);refine⟨D,X,_,_,rfl,rfl,aR.of (s5 _ _ nL),aR.of JQ,?_,fun l hl=>?_⟩
    ·rw[aN,aN,List.length_map];exact Nat.le_of_lt (e7 (by lia))
    ·refine⟨l,_,_,rfl,MQ.free hl,MQ.trans (aq.new hl),?_,?_⟩
     ·exact aq.new hl _ _ ((s4.trans s5) _ _ MP)
     ·rw[af,RM.BG LA];unfold aJ;rw[List.map_append]
  ·rintro σ H3 ⟨D,v2,v3,rfl,hD,s3,MP,yY⟩;rw[aN]at yY;exact(av rfl (q D H3 hD s3 yY))
theorem bK:yE T T.dZ 10 (tV a.aO a.dY cU):=by
 have bJ:=bJ T;have jQ:=jQ T;have m5:=m5 T;have jP:=jP T;refine T.dZ.vR sP fun _ A _ s H vs Q E hr h=>?_
 ·obtain⟨wb,p,ts,g,rfl,hw,htb,q⟩:=h;refine⟨_,(aj (bR (aD bJ hr T.eN.c c7.passes (aa (pv 0) ae)))
   (au (aI (aD jP hr T.gJ.c aL (aa (pv 0) (aa (bA (own:=["even"]) (fq:=["web"]) (js:=[0]) (aF (ai gH) ["web"]) rfl (q9 K (aD jQ hr T.jJ.c aL (aa (pv 0) ae))) (fun _ _ _ _=>(bU 0 (mF ["even","web"]))) (fun _ _ _ _=>(fk (eW (aD m5 hr T.mX.c rf (aa (pv 1) (aa (pv 0) ae)))))) (fun _ _ _ _=>(pv 0))) ae)))))),?_⟩
  refine gS ?_;intro c9;rcases q with⟨h8,h9,q⟩|⟨h8,q⟩
  ·refine(av rfl ⟨wb,p,ts,g,rfl,hw,.inl ⟨h8,fun H1 s1=>?_⟩⟩)
   refine(av rfl (av rfl ⟨wb,p,ts,g,rfl,hw.same s1,h8,fun D H2 hD s2 sL=>?_⟩))
   have el:(RM.pP g.N g.N.ay.length).length=2^g.N.ay.length:=by unfold RM.pP;rw[List.length_map,List.length_range]
   have pw:(2:Nat)^g.N.ay.length<=2^8:=Nat.pow_le_pow_right (by decide) h8
   refine⟨D,rfl,⟨_,aR.of sL⟩,fun X hX=>bD (K:=K) (a:=D) (xs:=aJ (RM.pP g.N g.N.ay.length)) (fun i acc H3=>aq H2 H3/\H3 X=some (.lst acc)/\acc=aJ (((RM.pP g.N g.N.ay.length).take i).filter fun e=>je p ts g e)) ⟨aq.new hX,af,rfl⟩ (fun i acc H3 _ z=>⟨aR.of (z.1 _ _ sL),z.2.1,?_⟩) (Nat.le_of_lt (e7 (by rw[aN];lia))) ?_ ?_⟩
   ·rw[z.2.2,aN];exact Nat.le_trans (List.length_filter_le _ _) (by rw[List.length_take];lia)
   ·rintro i x acc H3 hx ⟨s3,IX,rfl⟩;obtain⟨e,hei,rfl⟩:=fW hx;have he:=RM.yy.mp (vU hei);refine⟨rfl,av rfl (av rfl ⟨wb,p,ts,g,_,rfl,hw.same ((s1.trans s2).trans s3),.inl ⟨e,rfl,he.2,fun H4 s4=>(av rfl (?_))⟩⟩)⟩
    cases hb:je p ts g e with
    | true =>
      refine jr (av rfl ⟨s4 _ _ IX,(s3.trans s4).put hX,af,?_⟩);rw[take3 hei,List.filter_append,List.filter_cons,if_pos hb];exact(dR _ _).symm
    | false =>
      refine g9 ⟨s3.trans s4,s4 _ _ IX,?_⟩;rw[take3 hei,List.filter_append,List.filter_cons,if_neg (by rw[hb];decide),List.filter_nil,List.append_nil]
   ·rintro acc H3 ⟨s3,IX,rfl⟩;rw[aN,List.take_length]at IX;have rS:=(s1.trans s2).trans s3;have mem:∀ m,m∈((RM.pP g.N g.N.ay.length).filter fun e=>je p ts g e)↔m<2^ts.length/\g.N.Ring m:=fun m=>by
     rw[List.mem_filter,RM.yy];exact⟨fun z=>⟨z.1.2,(rH g z.1.2).mp z.2⟩,fun z=>⟨⟨z.2.2.1,z.1⟩,(rH g z.1).mpr z.2⟩⟩
    have nd:((RM.pP g.N g.N.ay.length).filter fun e=>je p ts g e).Nodup:=List.Pairwise.filter _ RM.zG
    refine⟨wb,p,ts,g,X,_,rfl,hw.same rS,IX,RM.lM (N:=g.N) h9 nd fun m hm=>(mem m).mp hm,fun m hm=>((mem m).mp hm).1,rS _ _ htb,fun D2 l H4 LB s4 nL pm Pj=>?_⟩
    exact q D2 l H4 (rS.free LB) (rS.trans s4) nL ⟨Pj,pm.nodup_iff.mpr nd,fun r=>by rw[pm.mem_iff];exact mem r⟩
  ·exact(av rfl ⟨wb,p,ts,g,rfl,hw,.inr ⟨h8,q⟩⟩)
def B8:Sp:=fun _ _ _ _=>False
def Gi(C t:Addr)(lp:Pos):Sp:=fun vs H Q E=>∃ w p ts,∃ g:aB p ts,vs=[.ref w]/\bg H w p ts/\H t=some (.jU (fG (zC "by_length") lp))/\8<g.N.ay.length/\∀ H',aq H H'->E (.ref C) none H'
def Gj(C:Addr):Sp:=fun vs H Q E=>∃ w p ts,∃ g:aB p ts,∃ S:Int,vs=[.ref w,.int S]/\bg H w p ts/\8<g.N.ay.length/\∀ H',aq H H'->E (.ref C) none H'
def Gk(C:Addr):Sp:=fun vs H Q E=>∃ w p ts,∃ g:aB p ts,∃(S:Int) (v:V),vs=[.ref w,.int S,v]/\bg H w p ts/\8<g.N.ay.length/\∀ H',aq H H'->E (.ref C) none H'
theorem cX:yE T T.fS 8 B8:=by
 exact T.fS.F.vR qw (fun vs H Q E h=>h.elim) (fun cdv A outer s H vs Q E hr h=>h.elim)
theorem fh:Ok T T.ir 2 B8:=by
 exact T.ir.F.ok wQ (fun vs H Q E h=>h.elim) (fun cdv A outer s H vs Q E hr h=>h.elim)
theorem fj:Ok T T.iw 3 B8:=by
 exact T.iw.F.ok wR (fun vs H Q E h=>h.elim) (fun cdv A outer s H vs Q E hr h=>h.elim)
theorem bO:Ok T T.dJ 11 B8:=by
 exact T.dJ.F.ok mO (fun vs H Q E h=>h.elim) (fun cdv A outer s H vs Q E hr h=>h.elim)
theorem cH:Ok T T.fu 11 B8:=by
 exact T.fu.F.ok pW (fun vs H Q E h=>h.elim) (fun cdv A outer s H vs Q E hr h=>h.elim)
theorem i8:Ok T T.i0 3 B8:=by
 exact T.i0.F.ok u6 (fun vs H Q E h=>h.elim) (fun cdv A outer s H vs Q E hr h=>h.elim)
theorem dN:Ok T T.dM 3 B8:=by
 exact T.dM.F.ok mP (fun vs H Q E h=>h.elim) (fun cdv A outer s H vs Q E hr h=>h.elim)
theorem gO:Ok T T.gM 1 B8:=by
 exact T.gM.F.ok sQ (fun vs H Q E h=>h.elim) (fun cdv A outer s H vs Q E hr h=>h.elim)
theorem di:Ok T T.dh 9 B8:=by
 exact T.dh.F.ok jE (fun vs H Q E h=>h.elim) (fun cdv A outer s H vs Q E hr h=>h.elim)
theorem eR:Ok T T.eO 9 B8:=by
 exact T.eO.F.ok kU (fun vs H Q E h=>h.elim) (fun cdv A outer s H vs Q E hr h=>h.elim)
theorem fV:Ok T T.fT 5 B8:=by
 exact T.fT.F.ok qz (fun vs H Q E h=>h.elim) (fun cdv A outer s H vs Q E hr h=>h.elim)
theorem i9:yE T T.iZ 11 (Gi a.aO a.dY cU):=by
 have bK:=bK T;have fj:=fj T;have fh:=fh T;refine T.iZ.vR gV fun _ A _ s H vs Q E hr h=>?_
 ·obtain⟨wb,p,ts,g,rfl,hw,htb,h8,q⟩:=h;refine⟨_,(aj (aG (i:=1) gV.nd rfl (Or.inl rfl) (dQ ae))
   (aj (nV rfl (q9 K (aD bK hr T.dZ.c c7.passes (aa (pv 0) ae))) (bU 2 gV.nd)
   (au (bY (aP qT (aH (cA K) (aD fh hr T.ir.c aL (aa (aD fj hr T.iw.c aL (aa (pv 1) ae)) (aa (pv 2) ae))) ah) ah (aM _)) (au (bR (F8 K (oH PySem.F.plainAttrs_list PySem.F.slot_list_append PySem.F.type_list_append eY (pv 1) (aa (pv 2) ae))))) aZ)))
   (au (aI (pv 1))))),?_⟩
  refine kH ?_;intro c9 eS fM jg;exact⟨dl rfl,fun F hF=>(av rfl ⟨wb,p,ts,g,rfl,hw.same (aq.new hF),aq.new hF _ _ htb,.inr ⟨h8,fun H' s'=>q H' ((aq.new hF).trans s')⟩⟩)⟩
theorem ja:yE T T.i3 12 (Gj a.aO):=by
 have bJ:=bJ T;have cX:=cX T;have bO:=bO T;have fj:=fj T;have fh:=fh T;have i8:=i8 T;have cH:=cH T;have dN:=dN T;refine T.i3.vR dB fun _ A _ s H vs Q E hr h=>?_
 ·obtain⟨wb,p,ts,g,S,rfl,hw,h8,q⟩:=h;refine⟨_,(aj (bR (aD bJ hr T.eN.c c7.passes (aa (pv 0) ae)))
   (aj (bR (aD cX hr T.fS.c c7.passes (aa (pv 0) (aa (pv 1) ae))))
   (aj (aG (i:=2) dB.nd rfl (Or.inl rfl) (aD bO hr T.dJ.c aL (aa (pv 0) (aa (pv 1) ae))))
   (aj (aG (i:=3) dB.nd rfl (Or.inl rfl) (aD fj hr T.iw.c aL (aa (pv 2) ae)))
   (aj (bY (aP cC (aH (cA K) (aD fh hr T.ir.c aL (aa (pv 3) (aa (pv 1) ae))) ah) ah (aM _)) (au (aI (eg (aa iB (aa (aD i8 hr T.i0.c aL (aa (pv 2) (aa (pv 3) (aa (pv 1) ae)))) ae))))) aZ)
   (aj (aG (i:=4) dB.nd rfl (Or.inl rfl) (aD cH hr T.fu.c aL (aa (pv 0) (aa (pv 1) ae))))
   (aj (aG (i:=5) dB.nd rfl (Or.inl rfl) (aD fj hr T.iw.c aL (aa (pv 4) ae)))
   (aj (bY (aP qT (aH (cA K) (aD fh hr T.ir.c aL (aa (pv 5) (aa (pv 1) ae))) ah) ah (aM _)) (au (aI (eg (aa iB (aa (aD dN hr T.dM.c aL (aa (pv 5) (aa (pv 1) ae))) ae))))) aZ)
   (au (aI (eg (aa iB (aa (aD dN hr T.dM.c aL (aa (pv 3) (aa (pv 1) ae))) (aa (aD i8 hr T.i0.c aL (aa (pv 4) (aa (pv 5) (aa (pv 1) ae)))) ae)))))))))))))),?_⟩
  refine qy ?_;intro c9 eS fM jg ny u3 u4 yz BK BL;exact(av rfl ⟨wb,p,ts,g,rfl,hw,.inr ⟨h8,q⟩⟩)
theorem gv:yE T T.gr 12 (Gk a.aO):=by
 have bJ:=bJ T;have cX:=cX T;have bO:=bO T;have cH:=cH T;have gO:=gO T;have di:=di T;have eR:=eR T;have fV:=fV T;refine T.gr.vR nA fun _ A _ s H vs Q E hr h=>?_
 ·obtain⟨wb,p,ts,g,S,v,rfl,hw,h8,q⟩:=h;refine⟨_,(aj (bR (aD bJ hr T.eN.c c7.passes (aa (pv 0) ae)))
   (aj (bR (aD cX hr T.fS.c c7.passes (aa (pv 0) (aa (pv 1) ae))))
   (aj (bY (aP cC (aH (cA K) (pv 2) ah) iB (aM _)) (au (aI (lY (aD di hr T.dh.c aL (aa (pv 0) (aa (pv 1) (aa (aH (cA K) (pv 2) ah) ae)))) (lX (aD gO hr T.gM.c aL (aa (pv 1) (aa (aH (cA K) (pv 2) ah) ae))))))) aZ)
   (aj (bY (aP cC (aH (cA K) (pv 2) ah) iB (aM _)) (au (aI (aD fV hr T.fT.c aL (aa (pv 0) (aa (aH (cA K) (pv 2) ah) (aa (pv 1) (aa (aD cH hr T.fu.c aL (aa (pv 0) (aa (pv 1) ae))) ae))))))) aZ)
   (aj (bY (jo (eW (aD fV hr T.fT.c aL (aa (pv 0) (aa (aH (cA K) (pv 2) ah) (aa (pv 1) (aa (aD bO hr T.dJ.c aL (aa (pv 0) (aa (pv 1) ae))) ae))))))) (au (aI ud)) aZ)
   (au (aI (lY (aD eR hr T.eO.c aL (aa (pv 0) (aa (pv 1) (aa (aH (cA K) (pv 2) ah) ae)))) (lX (aD gO hr T.gM.c aL (aa (pv 1) (aa (aH (cA K) (pv 2) ah) ae)))))))))))),?_⟩
  refine nB ?_;intro c9 eS fM jg ny u3 u4 yz;exact(av rfl ⟨wb,p,ts,g,rfl,hw,.inr ⟨h8,q⟩⟩)
def DQ(K:bw):Sp:=fun vs H Q _=>∃(a:Addr) (ns:List Int) (k:Int),vs=[.ref a,.int k]/\0<=k/\aR K H a (ns.map V.int)/\∀ z,Q (.int z) H
def B9:Sp:=fun vs H Q _=>∃(c k:Int),vs=[.int c,.int k]/\0<=k/\k<=1000/\∀ z,0<=z->z<1000000007->Q (.int z) H
def DR:Sp:=fun vs H Q _=>∃(c:Int) (k:Nat),vs=[.int c,.int (k:Int)]/\∀ z,1<=z->z<=1000000000000000000000000000000->Q (.int z) H
def Gm:Sp:=fun vs H Q _=>∃(c:Int) (p m:Nat),vs=[.int c,.int (p:Int),.int (m:Int)]/\2<=p/\p<=10/\∀ t b H',aq H H'->jY (p:Int) t->H' b=some (.tup (Dj t))->Q (.ref b) H'
def Gn(K:bw):Sp:=fun vs H Q _=>∃(a:Addr) (ns:List Int) (mt rk:Nat),vs=[.ref a,.int (mt:Int),.int (rk:Int)]/\aR K H a (ns.map V.int)/\ns.length<=63/\mt<=24/\
 ∀ w p ts H',aq H H'->aB p ts->2<=p->p<=6->ts.length<=mt->bg H' w p ts->Q (.ref w) H'
def IY(H:Hp)(D:Addr)(n p:Nat):Prop:=∃ ks:List Nat,H D=some (.lst (aJ ks))/\ks.length=n/\∀ k∈ks,k<p
theorem cI:Ok T T.fB 1 (DQ K):=by
 refine T.fB.ok pX fun _ A _ s H vs Q E hr h=>?_
 ·obtain⟨b,ns,k,rfl,hk0,hS,q⟩:=h;refine⟨_,(aj (bY (aP xS (pv 1) (bT K T.c5 (aa (pv 0) ae)) (aM _)) (au (aI (aH (k9 K) (pv 0) (pv 1)))) aZ)
   (au (aI ah))),?_⟩
  refine kF ?_;intro c9 eS;refine(av rfl (av rfl ⟨b,_,rfl,.inl hS,_,_,rfl,rfl,av rfl (lA (fun hlt=>?_) (fun _=>q 0))⟩))
  have hlt:=kr hlt;rw[List.length_map]at hlt;obtain⟨k,rfl⟩:=Int.eq_ofNat_of_zero_le hk0;exact(av rfl (av rfl ⟨b,_,_,_,rfl,rfl,hS,ak (j:=k) (Dp (by lia)),q _⟩))
theorem cf:Ok T T.ef 1 B9:=by
 refine T.ef.ok iQ fun _ A _ s H vs Q E hr h=>?_
 ·obtain⟨c,k,rfl,hk,hk2,q⟩:=h;refine⟨_,(aj (aG (i:=2) iQ.nd rfl (Or.inl rfl) (aE bZ (aE bM (pv 0) ah) (aE vY ah (pv 1))))
   (aj (aG (i:=3) iQ.nd rfl (Or.inl rfl) (aE bM (aE vY (aE bZ (pv 2) ah) (aE bZ (pv 2) ah)) ah))
   (au (aI (aE jW (aE bM (aE vY (pv 3) (pv 3)) ah) ah))))),?_⟩
  refine gE ?_;intro c9 eS;have h1:=kC c 1000000007 (by decide)
  refine(av rfl (bW ⟨(iD rfl),av rfl (bW ⟨.inl ⟨by decide,by decide⟩,bW (?_)⟩)⟩))
  refine(av rfl (bW (av rfl (bW (bW ⟨.inl ⟨by lia,by lia⟩,bW ⟨(iD rfl),?_⟩⟩)))))
  have h2:=kC ((c%1000000007+7919*k+11)*(c%1000000007+7919*k+48271)) 998244353 (by decide)
  dsimp only;generalize (c%1000000007+7919*k+11)*(c%1000000007+7919*k+48271)%998244353=st at h2;refine(av rfl (av rfl (bW ⟨.inl ⟨by lia,by lia⟩,bW ⟨(iD rfl),bW ⟨⟨by decide,by decide⟩,?_⟩⟩⟩)))
  have h3:=kC (st*st) 1000000007 (by decide)
  dsimp only;generalize st*st%1000000007=y at h3;exact q _ (by lia) (by lia)
theorem jc:Ok T T.i4 1 DR:=by
 refine T.i4.ok qA fun _ A _ s H vs Q E hr h=>?_
 ·obtain⟨c,k,rfl,q⟩:=h;refine⟨_,(aj (bY (aP cC (pv 1) ah (aM _)) (au (aI (aE bZ ah (aE bM (pv 0) ah)))) aZ)
   (aj (bY (aP cC (pv 1) ah (aM _)) (au (aI (aE bZ ah (aE bM (pv 0) ah)))) aZ)
   (au (aI (aE bZ ah (aE bM (pv 0) (aE EY ah ah))))))),?_⟩
  refine qB ?_;intro c9 eS fM jg;have h9:=kC c 9 (by decide)
  have h3:=kC c 3 (by decide)
  have RH:=kC c (10^(30:Int).toNat) (by decide)
  have e:(10:Int)^(30:Int).toNat=1000000000000000000000000000000:=by decide
  refine(av rfl ⟨rfl,av rfl (lA (fun _=>(av rfl (bW ⟨(iD rfl),bW (q _ (by lia) (by lia))⟩))) (fun _=>(av rfl ⟨rfl,av rfl (lA (fun _=>(av rfl (bW ⟨(iD rfl),bW (q _ (by lia) (by lia))⟩))) (fun _=>(av rfl (bW ⟨⟨by decide,by decide,by decide⟩,bW ⟨(iD (by decide)),bW (q _ (by lia) (by lia))⟩⟩))))⟩)))⟩)
theorem m6:Ok T T.mY 2 Gm:=by
 have jc:=jc T;refine T.mY.ok iS fun _ A _ s H vs Q E hr h=>?_
 ·obtain⟨c,p,m,rfl,hp,Mc,q⟩:=h;refine⟨_,(aj (aG (i:=3) iS.nd rfl (Or.inl rfl) (aE bM (pv 0) (pv 1)))
   (aj (aG (i:=0) iS.nd rfl (Or.inl rfl) (aE jW (pv 0) (pv 1)))
   (aj (aG (i:=4) iS.nd rfl (Or.inl rfl) (aE bM (aE bZ (aE bZ (pv 3) ah) (aE bM (pv 0) (aE oE (pv 1) ah))) (pv 1)))
   (au (aI (eg (aa (pv 3) (aa (pv 4) (aa (aD jc hr T.i4.c aL (aa (aE jW (pv 0) (aE oE (pv 1) ah)) (aa (pv 2) ae))) ae))))))))),?_⟩
  refine wU ?_;intro c9 eS fM;obtain⟨h1,h2⟩:=kC c (p:Int) (by lia)
  obtain⟨h3,h4⟩:=kC (c/(p:Int)) ((p:Int)-1) (by lia)
  obtain⟨g1,g2,g3⟩:=A9 h1 h2 h3 h4;refine(av rfl (av rfl (bW ⟨(by lia),?_⟩)))
  refine(av rfl (av rfl (bW ⟨⟨by lia,by lia⟩,?_⟩)))
  refine(av rfl (bW (av rfl (av rfl (bW (bW ⟨(by lia),bW (av rfl (bW ⟨(by lia),?_⟩))⟩))))))
  refine(av rfl (av rfl (av rfl (av rfl (bW (bW ⟨⟨by lia,by lia⟩,av rfl ⟨_,m,rfl,fun z hz hz2=>⟨dl rfl,fun b hb=>?_⟩⟩⟩))))))
  exact q (_,_,z) b _ (aq.new hb) ⟨h1,h2,g1,g2,g3,hz,hz2⟩ af
theorem m7:Ok T T.mZ 3 (Gn K):=by
 have cI:=cI T;have cf:=cf T;have m6:=m6 T;refine T.mZ.ok aV fun _ A _ s H vs Q E hr h=>?_
 ·obtain⟨b,ns,mt,rk,rfl,hS,hn,hmt,q⟩:=h;refine⟨_,(aj (aG (i:=3) aV.nd rfl (Or.inr rfl) (aD cI hr T.fB.c aL (aa (pv 0) (aa ah ae))))
   (aj (aG (i:=4) aV.nd rfl (Or.inl rfl) (aE bZ ah (aE bM (pv 3) ah)))
   (aj (aG (i:=5) aV.nd rfl (Or.inl rfl) (aE bM (aE jW (pv 3) ah) ah))
   (aj (aG (i:=6) aV.nd rfl (Or.inl rfl) (um (Me K) (pv 0) (xU ah) xT))
   (aj (bY (aP cC (aE bM (aE jW (pv 3) ah) ah) ah (aM _)) (aj (nU (i:=6) aV.nd rfl rfl (own:=["k","cell"]) (fq:=[]) (js:=[]) (aF (ai ff) ["script","most","ranked","head","points","way","cells","ties","marks","free","cell","tie","joined","old"]) rfl (Dh K (by rfl) T.vD (aa (um (Me K) (pv 0) (xU ah) xT) ae)) (fun _ _ _ _=>(JA K (n:=2) rfl (dj (bU 0 (mF ["k","cell"])) (dj (bU 1 (mF ["k","cell"])) nR)))) (fun _ _ _ _=>cg) (fun _ _ _ _=>(aD cf hr T.ef.c aL (aa (pv 1) (aa (pv 0) ae)))))
   (au (bR (F8 K (oH PySem.F.plainAttrs_list PySem.F.slot_list_extend PySem.F.type_list_extend yV (pv 6) (aa (bA (own:=["k"]) (fq:=["head"]) (js:=[3]) (aF (ai ff) ["script","most","ranked","head","points","way","cells","ties","marks","free","cell","tie","joined","old"]) rfl (bq (by rfl) T.bH (aa ah ae)) (fun _ _ _ _=>(bU 0 (mF ["k","head"]))) (fun _ _ _ _=>cg) (fun _ _ _ _=>(aD cf hr T.ef.c aL (aa (pv 1) (aa (aE bZ ah (pv 0)) ae))))) ae)))))) aZ)
   (aj (aG (i:=7) aV.nd rfl (Or.inl rfl) (dQ ae))
   (aj (aG (i:=8) aV.nd rfl (Or.inr rfl) (bA (own:=["point"]) (fq:=[]) (js:=[]) (aF (ai ff) ["script","most","ranked","head","points","way","cells","ties","marks","free","cell","tie","joined","old"]) rfl (bq (by rfl) T.bH (aa (pv 4) ae)) (fun _ _ _ _=>(bU 0 (mF ["point"]))) (fun _ _ _ _=>cg) (fun _ _ _ _=>(pv 0))))
   (aj (aG (i:=9) aV.nd rfl (Or.inl rfl) ah)
   (aj (gP PassesOwn.never rfl (q9 K (pv 6)) (bU 10 aV.nd)
   (aj (aG (i:=11) aV.nd rfl (Or.inr rfl) (aD m6 hr T.mY.c aL (aa (pv 10) (aa (pv 4) (aa (pv 5) ae)))))
   (aj (aG (i:=12) aV.nd rfl (Or.inl rfl) (cR D8 (aH (k9 K) (pv 8) (aH (cA K) (pv 11) ah)) (aH (k9 K) (pv 8) (aH (cA K) (pv 11) ah)) (aM _)))
   (au (bY (PW.pt (Az (aP xS (bT K T.c5 (aa (pv 7) ae)) (pv 1) (aM _)) (xM (PW.pt (ue (eW (pv 12)) (rW (aP xS (pv 9) (pv 2) (aM _)))))))) (aj (bR (F8 K (oH PySem.F.plainAttrs_list PySem.F.slot_list_append PySem.F.type_list_append eY (pv 7) (aa (pv 11) ae))))
   (aj (aG (i:=9) aV.nd rfl (Or.inl rfl) (aE bZ (pv 9) (cF l6 (by rfl) T.yC PyProof.Rows.boot_int (aa (rX (pv 12)) ae))))
   (aj (aG (i:=13) aV.nd rfl (Or.inr rfl) (aH (k9 K) (pv 8) (aH (cA K) (pv 11) ah)))
   (au (aG (i:=8) aV.nd rfl (Or.inr rfl) (bA (own:=["mark"]) (fq:=["marks","tie","old"]) (js:=[8,11,13]) (aF (ai ff) ["script","most","ranked","head","points","way","cells","ties","marks","free","cell","tie","joined","old"]) rfl (q9 K (pv 8)) (fun _ _ _ _=>(bU 0 (mF ["mark","marks","tie","old"]))) (fun _ _ _ _=>cg) (fun _ _ _ _=>(aH (k9 K) (dQ (aa (pv 0) (aa (aH (k9 K) (pv 1) (aH (cA K) (pv 2) ah)) ae))) (cF l6 (by rfl) T.yC PyProof.Rows.boot_int (aa (cR cC (pv 0) (pv 3) (aM _)) ae)))))))))) aZ)))))
   (au (aI (eg (aa (pv 4) (aa (cF (Eg K) (by rfl) T.yD PyProof.Rows.boot_tuple (aa (pv 7) ae)) ae)))))))))))))),?_⟩
  refine wV ?_;intro c9 eS fM jg ny u3 u4 yz BK BL BN zM BO IE IF IG II IJ;refine(av rfl ⟨b,ns,0,rfl,(by decide),hS,fun z=>?_⟩)
  refine(av rfl (bW ⟨(iD rfl),bW (?_)⟩));obtain⟨p,hp,p1,p2⟩:∃ p:Nat,2+z%5=(p:Int)/\2<=p/\p<=6:=by
   obtain⟨h1,h2⟩:=kC z 5 (by decide)
   exact⟨(2+z%5).toNat,by lia,by lia,by lia⟩
  dsimp only;rw[hp];refine(av rfl (bW ⟨⟨by decide,by decide⟩,bW ⟨(iD rfl),?_⟩⟩))
  obtain⟨wy,Pk⟩:∃ y:Nat,z/5%3=(y:Int):=by
   obtain⟨h1,h2⟩:=kC (z/5) 3 (by decide)
   exact⟨(z/5%3).toNat,by lia⟩
  dsimp only;rw[Pk];refine(av rfl (av rfl ⟨b,_,rfl,hS,fun c hc=>?_⟩))
  have Gp:=AU ns (some 1) none;have hml:((ns.drop (HT.nS ns.length 0 (some 1))).take (HT.nS ns.length ns.length none-HT.nS ns.length 0 (some 1))).length<=63:=by
   rw[List.length_take,List.length_drop]
   lia
  generalize (ns.drop (HT.nS ns.length 0 (some 1))).take (HT.nS ns.length ns.length none-HT.nS ns.length 0 (some 1))=ms at Gp hml;rw[Gp];have cont:∀(c1:Addr) (ms1:List Int) (H1:Hp),aq H H1->H1 c1=some (.lst (ms1.map V.int))->zM { nx:=fun _ H'=>Q V.eV H',rt:=Q} [some (.ref b),some (.int (mt:Int)),some (.int (rk:Int)),some (.int z),some (.int (p:Int)),some (.int (wy:Int)),some (.ref c1),none,none,none,none,none,none,none] H1:=by
   intro c1 ms1 H1 s1 hc1;refine⟨dl rfl,fun L hL=>?_⟩
   have t2:nu (p:Int) H1 L 0 (upd H1 L (.lst [])):=.start hL;generalize upd H1 L (.lst [])=H2 at t2;refine(av rfl (av rfl ⟨(by lia),(by lia),fun M hM=>cu (lo:=0) (m:=(p:Int).toNat) (lF (fun _=>true) H2 M) (.start hM) (fun i acc H3 _ pk=>pk.len) (eB (by lia)) ?_ ?_⟩))
   ·intro i acc H3 hi pk;rw[Int.zero_add];exact⟨rfl,av rfl (pk.yes hM (aq.refl _) rfl)⟩
   intro acc H3 pk;have b3:IY H3 M p p:=by
    refine⟨(List.range p).filter (fun _=>true),by rw[pk.2.1,pk.2.2,Int.toNat_natCast],?_,fun k hk=>List.mem_range.mp (List.mem_filter.mp hk).1⟩
    rw[List.filter_eq_self.mpr (fun _ _=>rfl),List.length_range]
   have t3:nu (p:Int) H1 L 0 H3:=by
    obtain⟨a1,acc,ts,a2,a3,a4⟩:=t2;exact⟨a1.trans pk.1,acc,ts,pk.1 _ _ a2,Paired.imp' (fun _ _ z=>z.tups pk.1.tups) a3,a4⟩
   clear pk;have fr:H1 M=none:=t2.1.free hM;refine(av rfl ⟨c1,rfl,⟨_,aR.of (t3.1 _ _ hc1)⟩,ig (K:=K) (a:=c1) (xs:=ms1.map V.int) (fun i σ H4=>∃(M:Addr) (n:Nat) (f:Int) (v10 v11 LC IZ:Option V),σ=[some (.ref b),some (.int (mt:Int)),some (.int (rk:Int)),some (.int z),some (.int (p:Int)),some (.int (wy:Int)),some (.ref c1),some (.ref L),some (.ref M),some (.int f),v10,v11,LC,IZ]/\nu (p:Int) H1 L n H4/\n<=mt/\IY H4 M p p/\H1 M=none/\M≠L) ⟨M,0,0,none,none,none,none,rfl,t3,Nat.zero_le _,b3,fr,fun e=>?_⟩ (fun i σ H4 _ ⟨_,_,_,_,_,_,_,_,t,_⟩=>aR.of (t.1 _ _ hc1)) ?_ ?_⟩)
   ·obtain⟨_,acc,_,a2,_⟩:=t2;rw[e,a2]at hM;cases hM
   ·rintro i y D' σ H4 hi ⟨M,n,f,v10,v11,LC,IZ,rfl,t4,hnm,b4,MR,LD⟩;rw[List.getElem?_map]at hi;obtain⟨ce,hce,rfl⟩:=DW.mp hi;refine(av rfl (av rfl (av rfl ⟨ce,p,wy,rfl,p1,by lia,fun t bt H5 s5 gt JR=>?_⟩)))
    obtain⟨ks,Pn,kl,kb⟩:=b4;have JS:=s5 _ _ Pn;have t5:nu (p:Int) H1 L n H5:=by
     obtain⟨a1,acc,ts,a2,a3,a4⟩:=t4;exact⟨a1.trans s5,acc,ts,s5 _ _ a2,Paired.imp' (fun _ _ z=>z.tups s5.tups) a3,a4⟩
    obtain⟨u,hu⟩:=Int.eq_ofNat_of_zero_le gt.a0;obtain⟨v,hv⟩:=Int.eq_ofNat_of_zero_le gt.b0;have MS:u<ks.length:=by have:=gt.a1;lia
    have Po:v<ks.length:=by have:=gt.b1;lia
    have Pp:(aJ ks)[u]?=some (.int (ks[u]:Int)):=yj (List.getElem?_eq_getElem MS);have hkv:(aJ ks)[v]?=some (.int (ks[v]:Int)):=yj (List.getElem?_eq_getElem Po);have iu:xV (aJ ks) t.1=some (.int (ks[u]:Int)):=by rw[hu];exact ak Pp
    have iv:xV (aJ ks) t.2.1=some (.int (ks[v]:Int)):=by rw[hv];exact ak hkv
    have Pq:=kb _ (List.getElem_mem MS);refine(av rfl (av rfl (c8 (bB.of JR) (ak (j:=0) rfl) (kQ (aR.of JS) (iu) (av rfl (av rfl (c8 (bB.of JR) (ak (j:=1) rfl) (kQ (aR.of JS) (iv) ⟨rfl,?_⟩))))))));obtain⟨RI,xD,RJ,Ja,RK,RL,RN⟩:=id t5;have skip:D'.nx [some (.ref b),some (.int (mt:Int)),some (.int (rk:Int)),some (.int z),some (.int (p:Int)),some (.int (wy:Int)),some (.ref c1),some (.ref L),some (.ref M),some (.int f),some (.int ce),some (.ref bt),some (.bl (!decide (V.int (ks[u]:Int)=V.int (ks[v]:Int)))),IZ] H5:=⟨M,n,f,_,_,_,_,rfl,t5,hnm,⟨ks,JS,kl,kb⟩,MR,LD⟩;generalize (!decide (V.int (ks[u]:Int)=V.int (ks[v]:Int)))=jb at skip;have put:xD.length<mt->ny D' [some (.ref b),some (.int (mt:Int)),some (.int (rk:Int)),some (.int z),some (.int (p:Int)),some (.int (wy:Int)),some (.ref c1),some (.ref L),some (.ref M),some (.int f),some (.int ce),some (.ref bt),some (.bl jb),IZ] H5:=fun hlt=>by
     obtain⟨Pr,e6,t6⟩:∃ acc,H5 L=some (.lst acc)/\nu (p:Int) H1 L (n+1) (upd H5 L (.lst (acc++[.ref bt]))):=by
      have:=t5.push hL (aq.refl _) gt JR;obtain⟨acc,e1,_,e2⟩:=this;exact⟨acc,e1,e2⟩
     rw[Ja]at e6;cases e6;refine(av rfl ⟨.inl ⟨rfl,_,aR.of Ja⟩,av rfl ⟨L,_,_,rfl,rfl,Ja,e7 (by lia),?_⟩⟩)
     have Jb:upd H5 L (.lst (xD++[.ref bt])) M=some (.lst (aJ ks)):=by rw[ao LD];exact JS
     have Gq:upd H5 L (.lst (xD++[.ref bt])) bt=some (.tup (Dj t)):=jt.put Ja _ _ JR;have MT:upd H5 L (.lst (xD++[.ref bt])) L=some (.lst (xD++[.ref bt])):=af;generalize upd H5 L (.lst (xD++[.ref bt]))=H6 at t6 Jb Gq MT;refine(av rfl (av rfl (av rfl (.inr (av rfl (bW (?_)))))));refine(av rfl (av rfl (c8 (bB.of Gq) (ak (j:=1) rfl) (kQ (aR.of Jb) (iv) (?_)))));refine(av rfl ⟨M,rfl,⟨_,aR.of Jb⟩,fun M2 DS=>bD (xs:=aJ ks) (fun i acc H7=>aq H6 H7/\H7 M2=some (.lst acc)/\∃ yF:List Nat,acc=aJ yF/\yF.length=i/\∀ k∈yF,k<p) ⟨aq.new DS,af,[],rfl,rfl,(fun k hk=>nomatch hk)⟩ (fun i acc H7 _ z=>⟨aR.of (z.1 _ _ Jb),z.2.1,by obtain⟨yF,e,e2,_⟩:=z.2.2;rw[e,aN,e2];exact Nat.le_refl _⟩) (eB (by rw[aN];lia)) ?_ ?_⟩)
     ·rintro i x acc H7 hx ⟨s7,LF,yF,rfl,JT,kb2⟩;obtain⟨k,hk,rfl⟩:=fW hx;have hkp:=kb k (vU hk);refine⟨rfl,av rfl (av rfl (av rfl (c8 (bB.of (s7 _ _ Gq)) (ak (j:=0) rfl) (kQ (aR.of (s7 _ _ Jb)) (iu) ⟨dl rfl,fun l hl=>?_⟩))))⟩
      have s8:aq H7 (upd H7 l (.lst [.int (k:Int),.int (ks[u]:Int)])):=aq.new hl;have LG:upd H7 l (.lst [.int (k:Int),.int (ks[u]:Int)]) l=some (.lst [.int (k:Int),.int (ks[u]:Int)]):=af;generalize upd H7 l (.lst [.int (k:Int),.int (ks[u]:Int)])=H8 at s8 LG;refine(av rfl (av rfl ⟨rfl,.inr (av rfl (?_))⟩));have MU:∀ k' : Nat,k'<p->H8 M2=some (.lst (aJ yF))/\aq H6 (upd H8 M2 (.lst (aJ yF++[.int (k' : Int)])))/\upd H8 M2 (.lst (aJ yF++[.int (k' : Int)])) M2=some (.lst (aJ yF++[.int (k' : Int)]))/\∃ ks3:List Nat,aJ yF++[.int (k' : Int)]=aJ ks3/\ks3.length=i+1/\∀ k∈ks3,k<p:=fun k' hk'=>by
       refine⟨s8 _ _ LF,(s7.trans s8).put DS,af,yF++[k'],(dR yF k').symm,by rw[List.length_append,JT];rfl,fun x hx=>?_⟩
       rcases List.mem_append.mp hx with hx|hx
       ·exact kb2 x hx
       ·have e:x=k':=by simpa using hx
        lia
      cases hd:decide (V.int (k:Int)=V.int (ks[v]:Int)) with
      | true=>exact(kQ (aR.of LG) (ak (j:=1) rfl) (MU _ Pq))
      | false=>exact(kQ (aR.of LG) (ak (j:=0) rfl) (MU _ hkp))
     ·rintro acc H7 ⟨s7,LF,yF,rfl,JT,kb2⟩;rw[aN,kl]at JT;refine⟨M2,n+1,_,_,_,_,_,rfl,?_,by lia,⟨yF,LF,JT,kb2⟩,t6.1.free DS,fun e=>?_⟩
      ·obtain⟨a1,acc,ts,a2,a3,a4⟩:=t6;exact⟨a1.trans s7,acc,ts,s7 _ _ a2,Paired.imp' (fun _ _ z=>z.tups s7.tups) a3,a4⟩
      ·rw[e,MT]at DS;cases DS
    refine(av rfl (pQ rfl (.inl (aR.of Ja)) (av rfl (bW (av rfl (lA (fun h1=>?_) (fun _=>skip)))))))
    have h1:(xD.length:Int)<(mt:Int):=kr h1;refine(av rfl (av rfl (?_)));cases jb with
    | true=>exact jr (put (by lia))
    | false=>exact g9 (av rfl (av rfl (bW (av rfl (lA (fun _=>put (by lia)) (fun _=>skip))))))
   ·rintro σ H4 ⟨M,n,f,v10,v11,LC,IZ,rfl,t4,hnm,b4,MR,LD⟩;obtain⟨acc,ts,Pu,RO,gd,mk⟩:=t4.fin;refine(av rfl (av rfl ⟨L,_,rfl,.inl ⟨aR.of Pu,fun l hl=>⟨dl rfl,fun w hw=>?_⟩⟩⟩))
    obtain⟨sm,Pw⟩:=mk l hl w hw;exact q w p ts _ (s1.trans sm) ⟨by lia,by lia,by lia,gd⟩ p1 p2 (by lia) Pw
  refine(av rfl (bW ⟨⟨by decide,by decide⟩,bW ⟨(iD rfl),rfl,av rfl (lA (fun _=>?_) (fun _=>cont c ms _ (aq.new hc) af))⟩⟩))
  have s1:aq H (upd H c (.lst (ms.map V.int))):=aq.new hc;generalize upd H c (.lst (ms.map V.int))=H1 at s1;refine(av rfl (av rfl ⟨b,_,rfl,s1.seq hS,fun c3 hc3=>?_⟩))
  rw[Gp];have s2:aq H1 (upd H1 c3 (.lst (ms.map V.int))):=aq.new hc3;have hc2:upd H1 c3 (.lst (ms.map V.int)) c3=some (.lst (ms.map V.int)):=af;generalize upd H1 c3 (.lst (ms.map V.int))=H2 at s2 hc2;refine⟨c3,rfl,⟨_,aR.of hc2⟩,fun D hD=>wF (xs:=ms.map V.int) (fun i acc H3=>aq H2 H3/\H3 D=some (.lst acc)/\∃ ms2:List Int,acc=ms2.map V.int/\ms2.length=i) ⟨aq.new hD,af,[],rfl,rfl⟩ (fun i acc H3 _ z=>⟨aR.of (z.1 _ _ hc2),z.2.1,by obtain⟨ms2,e,e2⟩:=z.2.2;rw[e,List.length_map,e2];exact Nat.le_refl _⟩) (Nat.le_of_lt (e7 (by rw[List.length_map];lia))) ?_ ?_⟩
  ·rintro i x T0 acc H3 hx ⟨s3,yY,ms2,rfl,LH⟩ hT;rw[List.getElem?_map]at hx;obtain⟨ce,hce,rfl⟩:=DW.mp hx;have DB:=(vM.mp hce).1;refine⟨T0,_,rfl,bB.of af,rfl,_,_,rfl,_,_,rfl,rfl,rfl,av rfl (av rfl ⟨ce,(i:Int),rfl,by lia,by lia,fun y _ _=>?_⟩)⟩
   have s4:aq H3 (upd H3 T0 (.tup [.int (i:Int),.int ce])):=aq.new hT;exact⟨s4 _ _ yY,(s3.trans s4).put hD,af,ms2++[y],by rw[List.map_append];rfl,by rw[List.length_append,LH];rfl⟩
  ·rintro acc H3 ⟨s3,yY,ms2,rfl,LH⟩;rw[List.length_map]at LH;refine(av rfl ⟨.inl ⟨rfl,_,aR.of yY⟩,av rfl ⟨(by decide),(by decide),fun D2 sL=>cu (lo:=0) (m:=5) (fun i acc H4=>aq H3 H4/\H4 D2=some (.lst acc)/\∃ GQ:List Int,acc=GQ.map V.int/\GQ.length=i) ⟨aq.new sL,af,[],rfl,rfl⟩ (fun i acc H4 _ z=>⟨z.2.1,by obtain⟨ms2,e,e2⟩:=z.2.2;rw[e,List.length_map,e2];exact Nat.le_refl _⟩) (eB (by decide)) ?_ ?_⟩⟩)
   ·rintro i acc H4 hi ⟨s4,nL,GQ,rfl,MV⟩;rw[Int.zero_add];exact⟨rfl,av rfl (av rfl (bW ⟨z,_,rfl,by lia,by lia,fun y _ _=>⟨nL,s4.put sL,af,GQ++[y],by rw[List.map_append];rfl,by rw[List.length_append,MV];rfl⟩⟩))⟩
   ·rintro acc H4 ⟨s4,nL,GQ,rfl,MV⟩;have LI:=s4 _ _ yY;refine⟨D,D2,_,_,rfl,rfl,LI,nL,dl (Nat.ble_eq.mpr (by rw[List.length_map,List.length_map];lia)),?_⟩
    refine cont D (ms2++GQ) _ ?_ ?_
    ·exact(((s1.trans s2).trans (s3.trans s4))).put ((s1.trans s2).free hD)
    ·rw[af,List.map_append]
def Ak:Sp:=fun vs H Q _=>∃ w p ts,∃ g:aB p ts,∃(S:Int) (m:Nat),vs=[.ref w,.int S]/\S=(m:Int)/\bg H w p ts/\m<2^ts.length/\∀ D H',aq H H'->H' D=some (.lst (bF (fun x=>g.N.dg m x) p))->Q (.ref D) H'
def xE:Sp:=fun vs H Q _=>∃ w p ts,∃ g:aB p ts,∃(S:Int) (m:Nat),vs=[.ref w,.int S]/\S=(m:Int)/\bg H w p ts/\m<2^ts.length/\∀ H',aq H H'->Q (.int ((RM.cnt (g.N.root (fun k=>m.testBit k) ts.length) p:Nat):Int)) H'
def Ca:Sp:=fun vs H Q _=>∃ w p ts,∃ g:aB p ts,∃(S:Int) (m:Nat),vs=[.ref w,.int S]/\S=(m:Int)/\bg H w p ts/\m<2^ts.length/\∀ H' (d:Bool),aq H H'->(d=true↔g.N.Ring m)->Q (.bl d) H'
theorem Cb{N:RM.Net}{m x:Nat}(k:Nat):RM.cnt (fun j=>m.testBit j&&N.inc j x) (k+1)=RM.cnt (fun j=>m.testBit j&&N.inc j x) k+if(m.testBit k&&N.inc k x)=true then 1 else 0:=rfl
theorem Gr(x u v:Nat):Ec (.int (x:Int)) [.int (u:Int),.int (v:Int)]=decide (u=x\/v=x):=by
 have e:([.int (u:Int),.int (v:Int)]:List V)=aJ [u,v]:=rfl;rw[e,o8];refine decide_eq_decide.mpr ?_;simp[eq_comm]
theorem vH{f:Nat->Nat}{n u v:Nat}:(bF f n).set u (.int (v:Int))=bF (fun x=>if x=u then v else f x) n:=by
 unfold bF;refine List.ext_getElem? fun i=>?_
 rw[List.getElem?_set,List.getElem?_map]
 by_cases e:u=i
 ·subst e;rw[if_pos rfl,List.length_map,List.length_range]
  by_cases h:u<n
  ·rw[if_pos h,List.getElem?_map,List.getElem?_range h];simp
  ·rw[if_neg h,List.getElem?_map,List.getElem?_eq_none (by rw[List.length_range];lia)]
   rfl
 ·rw[if_neg e,List.getElem?_map]
  by_cases h:i<n
  ·rw[List.getElem?_range h];simp[show ¬ i=u from fun z=>e z.symm]
  ·rw[List.getElem?_eq_none (by rw[List.length_range];lia)]
   rfl
theorem Al{f g:Nat->Int}{n:Nat}(h:∀ i,i<n->f i=g i):PyProof.Rows.firstMet f n=PyProof.Rows.firstMet g n:=by
 unfold PyProof.Rows.firstMet;rw[List.map_congr_left fun i hi=>h i (List.mem_range.mp hi)]
theorem cY:Ok T T.fU 1 Ak:=by
 refine T.fU.ok gY fun _ A _ s H vs Q E hr h=>?_
 ·obtain⟨wb,p,ts,g,S,m,rfl,rfl,hw,hm,q⟩:=h;refine⟨_,(aj (aG (i:=2) gY.nd rfl (Or.inl rfl) (aE v8 (dQ (aa ah ae)) (aH (cA K) (pv 0) ah)))
   (aj (gP PassesOwn.never rfl (bq (by rfl) T.bH (aa (bT K T.c5 (aa (aH (cA K) (pv 0) ah) ae)) ae)) (bU 3 gY.nd)
   (au (bY (aP cC (aE bM (aE rZ (pv 1) (pv 3)) ah) ah (aM _)) (aj (AE (aE bZ (aH (k9 K) (pv 2) (aH (cA K) (aH (cA K) (aH (cA K) (pv 0) ah) (pv 3)) ah)) ah) (AD (pv 2) (aH (cA K) (aH (cA K) (aH (cA K) (pv 0) ah) (pv 3)) ah) set_list))
   (au (AE (aE bZ (aH (k9 K) (pv 2) (aH (cA K) (aH (cA K) (aH (cA K) (pv 0) ah) (pv 3)) ah)) ah) (AD (pv 2) (aH (cA K) (aH (cA K) (aH (cA K) (pv 0) ah) (pv 3)) ah) set_list)))) aZ)))
   (au (aI (pv 2))))),?_⟩
  refine kI ?_;intro c9 eS fM jg ny;obtain⟨bt,xs,h1,h2,h3⟩:=id hw.ex;have xx:=h3.length;have wl:=g.len;have wp:=g.p2;refine⟨dl rfl,fun c hc=>?_⟩
  have s1:aq H (upd H c (.lst [.int 0])):=aq.new hc;have hc1:upd H c (.lst [.int 0]) c=some (.lst [.int 0]):=af;generalize upd H c (.lst [.int 0])=H1 at s1 hc1;refine(av rfl (c8 (bB.of (s1 _ _ h1)) (ak (j:=0) rfl) ⟨c,(p:Int),av rfl ⟨rfl,hc1,by lia,by lia,(by rw[Int.toNat_natCast];show 1*p<=sizeLine;exact dl (Nat.ble_eq.mpr (by lia))),fun e he=>?_⟩⟩))
  have IT:H e=none:=s1.free he;have s2:=s1.trans (aq.new (o:=.lst (List.replicate (p:Int).toNat [V.int 0]).flatten) he);have FG:upd H1 e (.lst (List.replicate (p:Int).toNat [V.int 0]).flatten) e=some (.lst (bF (fun _=>0) p)):=by
   rw[af,Int.toNat_natCast,uJ]
  generalize upd H1 e (.lst (List.replicate (p:Int).toNat [V.int 0]).flatten)=H2 at s2 FG;refine(av rfl (c8 (bB.of (s2 _ _ h1)) (ak (j:=1) rfl) (pQ rfl (.inr (bB.of (s2 _ _ h2))) (av rfl ⟨(by lia),(by lia),?_⟩))))
  refine cQ (lo:=0) (n:=(xs.length:Int).toNat) (fun k σ H3=>∃ v3,σ=[some (.ref wb),some (.int (m:Int)),some (.ref e),v3]/\aq H H3/\H3 e=some (.lst (bF (fun x=>RM.cnt (fun j=>m.testBit j&&g.N.inc j x) k) p))) ⟨none,rfl,s2,FG⟩ ?_ ?_
  ·rintro k D' σ H3 hk ⟨v3,rfl,s3,Af⟩;rw[Int.toNat_natCast]at hk;rw[Int.zero_add];have kM:k<ts.length:=by lia
   obtain⟨ct,ex,hct⟩:=pD (g:=g) h3 kM;have ha:g.N.a k<p:=g.N.al k kM;have hb:g.N.b k<p:=g.N.bl k kM;have ne:g.N.a k≠g.N.b k:=g.N.ne k kM;refine(av rfl (av rfl (bW ⟨(by lia),bW ⟨(iD rfl),rfl,av rfl (?_)⟩⟩)))
   rw[Int.toNat_natCast,wk,lD];cases Cc:m.testBit k with
   | false =>
     refine g9 (av rfl ⟨s3,?_⟩);rw[Af]
     congr 2
     refine oZ fun x _=>?_
     rw[Cb,Cc];rfl
   | true =>
     generalize hF:(fun x=>RM.cnt (fun j=>m.testBit j&&g.N.inc j x) k)=F at Af
     refine jr (av rfl (av rfl (c8 (bB.of (s3 _ _ h1)) (ak (j:=1) rfl) (av rfl (c8 (bB.of (s3 _ _ h2)) (ak (j:=k) ex) (c8 (bB.of (s3 _ _ hct)) (ak (j:=0) rfl) (kQ (aR.of Af) (ak (bj ha)) (bW (?_)))))))));refine(av rfl (av rfl (c8 (bB.of (s3 _ _ h1)) (ak (j:=1) rfl) (av rfl (c8 (bB.of (s3 _ _ h2)) (ak (j:=k) ex) (c8 (bB.of (s3 _ _ hct)) (ak (j:=0) rfl) ⟨e,_,_,g.N.a k,rfl,rfl,Af,nX (by rw[bh];exact ha),?_⟩))))))
     have e4:(bF F p).set (g.N.a k) (.int ((F (g.N.a k):Nat)+1:Int))=bF (fun x=>if x=g.N.a k then F (g.N.a k)+1 else F x) p:=by
      rw[<-vH];rfl
     dsimp only;rw[e4];have s4:aq H (upd H3 e (.lst (bF (fun x=>if x=g.N.a k then F (g.N.a k)+1 else F x) p))):=s3.put IT
     have JU:upd H3 e (.lst (bF (fun x=>if x=g.N.a k then F (g.N.a k)+1 else F x) p)) e=_:=af
     generalize upd H3 e (.lst (bF (fun x=>if x=g.N.a k then F (g.N.a k)+1 else F x) p))=H4 at s4 JU
     generalize Am:(fun x=>if x=g.N.a k then F (g.N.a k)+1 else F x)=F2 at JU
     refine(av rfl (av rfl (c8 (bB.of (s4 _ _ h1)) (ak (j:=1) rfl) (av rfl (c8 (bB.of (s4 _ _ h2)) (ak (j:=k) ex) (c8 (bB.of (s4 _ _ hct)) (ak (j:=1) rfl) (kQ (aR.of JU) (ak (bj hb)) (bW (?_)))))))));refine(av rfl (av rfl (c8 (bB.of (s4 _ _ h1)) (ak (j:=1) rfl) (av rfl (c8 (bB.of (s4 _ _ h2)) (ak (j:=k) ex) (c8 (bB.of (s4 _ _ hct)) (ak (j:=1) rfl) ⟨e,_,_,g.N.b k,rfl,rfl,JU,nX (by rw[bh];exact hb),?_⟩))))))
     refine(av rfl ⟨s4.put IT,?_⟩);rw[af];have e5:(bF F2 p).set (g.N.b k) (.int ((F2 (g.N.b k):Nat)+1:Int))=bF (fun x=>if x=g.N.b k then F2 (g.N.b k)+1 else F2 x) p:=by
      rw[<-vH];rfl
     dsimp only;rw[e5]
     congr 2
     refine oZ fun x _=>?_
     rw[Cb,Cc,Bool.true_and,show RM.cnt (fun j=>m.testBit j&&g.N.inc j x) k=F x from congrFun hF x]
     unfold RM.Net.inc;have f2:∀ y,F2 y=if y=g.N.a k then F (g.N.a k)+1 else F y:=fun y=>(congrFun Am y).symm
     by_cases e1:x=g.N.b k
     ·rw[if_pos e1,f2,if_neg (fun z:g.N.b k=g.N.a k=>ne z.symm),e1,dO ne,cN rfl]
      rfl
     ·rw[if_neg e1,f2,dO (fun z:g.N.b k=x=>e1 z.symm),Bool.xor_false]
      by_cases e2:x=g.N.a k
      ·rw[if_pos e2,e2,cN rfl];rfl
      ·rw[if_neg e2,dO (fun z:g.N.a k=x=>e2 z.symm)]
       rfl
  ·rintro σ H3 ⟨v3,rfl,s3,Af⟩;rw[Int.toNat_natCast,xx]at Af;exact(av rfl (q e H3 s3 Af))
theorem jd:Ok T T.i5 1 xE:=by
 refine T.i5.ok dD fun _ A _ s H vs Q E hr h=>?_
 ·obtain⟨wb,p,ts,g,S,m,rfl,rfl,hw,hm,q⟩:=h;refine⟨_,(aj (aG (i:=2) dD.nd rfl (Or.inr rfl) (bA (own:=["point"]) (fq:=[]) (js:=[]) (aF (ai eI) ["web","some","marks","k","old"]) rfl (bq (by rfl) T.bH (aa (aH (cA K) (pv 0) ah) ae)) (fun _ _ _ _=>(bU 0 (mF ["point"]))) (fun _ _ _ _=>cg) (fun _ _ _ _=>(pv 0))))
   (aj (gP PassesOwn.never rfl (bq (by rfl) T.bH (aa (bT K T.c5 (aa (aH (cA K) (pv 0) ah) ae)) ae)) (rY (i:=3) dD.nd rfl (Or.inr rfl))
   (au (bY (aP cC (aE bM (aE rZ (pv 1) (pv 3)) ah) ah (aM _)) (aj (aG (i:=4) dD.nd rfl (Or.inr rfl) (aH (k9 K) (pv 2) (aH (cA K) (aH (cA K) (aH (cA K) (pv 0) ah) (pv 3)) ah)))
   (au (aG (i:=2) dD.nd rfl (Or.inr rfl) (bA (own:=["mark"]) (fq:=["web","marks","k","old"]) (js:=[0,2,3,4]) (aF (ai eI) ["web","some","marks","k","old"]) rfl (q9 K (pv 2)) (fun _ _ _ _=>(bU 0 (mF ["mark","web","marks","k","old"]))) (fun _ _ _ _=>cg) (fun _ _ _ _=>(aH (k9 K) (dQ (aa (pv 0) (aa (aH (k9 K) (pv 2) (aH (cA K) (aH (cA K) (aH (cA K) (pv 1) ah) (pv 3)) ah)) ae))) (cF l6 (by rfl) T.yC PyProof.Rows.boot_int (aa (cR cC (pv 0) (pv 4) (aM _)) ae)))))))) aZ)))
   (au (aI (bE FI (by rfl) T.c5 PySem.boot_len (aa (cF (Lg K rfl) (by rfl) T.IQ PyProof.Rows.boot_set (aa (pv 2) ae)) ae)))))),?_⟩
  refine kI ?_;intro c9 eS fM jg ny;obtain⟨bt,xs,h1,h2,h3⟩:=id hw.ex;have xx:=h3.length;have wl:=g.len;have wp:=g.p2;refine(av rfl (c8 (bB.of h1) (ak (j:=0) rfl) (av rfl ⟨(by lia),(by lia),fun M hM=>cu (lo:=0) (m:=p) (o4 (fun x=>x) H M) (.start hM) (fun i acc H3 _ pd=>pd.len) (eB (by lia)) ?_ ?_⟩)))
  ·intro i acc H3 hi pd;rw[Int.zero_add];exact⟨rfl,av rfl (pd.next hM (aq.refl _) rfl)⟩
  intro acc H1 pd;have Px:H1 M=some (.lst (bF (fun x=>x) p)):=by rw[pd.2.1,pd.2.2]
  have s1:=pd.1;clear pd;refine(av rfl (c8 (bB.of (s1 _ _ h1)) (ak (j:=1) rfl) (pQ rfl (.inr (bB.of (s1 _ _ h2))) (av rfl ⟨(by lia),(by lia),?_⟩))))
  refine cQ (lo:=0) (n:=(xs.length:Int).toNat) (fun k σ H3=>∃ M v3 v4 L,σ=[some (.ref wb),some (.int (m:Int)),some (.ref M),v3,v4]/\aq H H3/\H3 M=some (.lst (bF L p))/\RM.pJ g.N (fun k=>m.testBit k) L k) ⟨M,none,none,_,rfl,s1,Px,RM.pJ.start⟩ ?_ ?_
  ·rintro k D' σ H3 hk ⟨M,v3,v4,L,rfl,s3,Gs,rel⟩;rw[Int.toNat_natCast]at hk;rw[Int.zero_add];have kM:k<ts.length:=by lia
   obtain⟨ct,ex,hct⟩:=pD (g:=g) h3 kM;have ha:g.N.a k<p:=g.N.al k kM;have hb:g.N.b k<p:=g.N.bl k kM;refine(av rfl (av rfl (bW ⟨(by lia),bW ⟨(iD rfl),rfl,av rfl (?_)⟩⟩)))
   rw[Int.toNat_natCast,wk,lD];cases Cc:m.testBit k with
   | false=>exact g9 ⟨M,_,_,L,rfl,s3,Gs,rel.skip Cc⟩
   | true =>
     refine jr (av rfl (av rfl (c8 (bB.of (s3 _ _ h1)) (ak (j:=1) rfl) (av rfl (c8 (bB.of (s3 _ _ h2)) (ak (j:=k) ex) (c8 (bB.of (s3 _ _ hct)) (ak (j:=1) rfl) (kQ (aR.of Gs) (ak (bj hb)) (?_))))))));refine(av rfl ⟨M,rfl,⟨_,aR.of Gs⟩,fun M2 DS=>bD (xs:=bF L p) (o4 (RM.FP L (g.N.a k) (g.N.b k)) H3 M2) (.start DS) (fun i acc H4 _ pd=>⟨aR.of (pd.1 _ _ Gs),pd.len⟩) (by rw[bh];exact dl (Nat.ble_eq.mpr (by lia))) ?_ ?_⟩)
     ·intro i x acc H4 hx pd;obtain⟨hi,rfl⟩:=gz hx;have s4:=s3.trans pd.1;refine⟨rfl,av rfl (av rfl (av rfl (c8 (bB.of (s4 _ _ h1)) (ak (j:=1) rfl) (av rfl (c8 (bB.of (s4 _ _ h2)) (ak (j:=k) ex) (c8 (bB.of (s4 _ _ hct)) (ak (j:=0) rfl) (kQ (aR.of (pd.1 _ _ Gs)) (ak (bj ha)) ⟨dl rfl,fun l hl=>?_⟩)))))))⟩
      refine(av rfl (av rfl ⟨rfl,.inr (av rfl (?_))⟩));rw[gA]
      by_cases e:L i=L (g.N.b k)
      ·rw[cN e];exact(kQ (aR.of af) (ak (j:=1) rfl) (pd.next DS (aq.new hl) (by unfold RM.FP;rw[if_pos e])))
      ·rw[dO e];exact(kQ (aR.of af) (ak (j:=0) rfl) (pd.next DS (aq.new hl) (by unfold RM.FP;rw[if_neg e])))
     ·intro acc H4 pd;rw[bh]at pd;exact⟨M2,_,_,_,rfl,s3.trans pd.1,by rw[pd.2.1,pd.2.2],rel.put kM Cc⟩
  ·rintro σ H3 ⟨M,v3,v4,L,rfl,s3,Gs,rel⟩;rw[Int.toNat_natCast,xx]at rel;have ens:bF L p=((List.range p).map fun x=>((L x:Nat):Int)).map V.int:=by
    unfold bF;rw[List.map_map];rfl
   refine(av rfl ⟨M,(List.range p).map (fun x=>((L x:Nat):Int)),rfl,aR.of (by rw[Gs,ens]),by rw[List.length_map,List.length_range];lia,fun l S hl=>⟨l,S,_,rfl,af,?_⟩⟩)
   rw[List.length_map,List.length_range,Al (g:=fun i=>((L i:Nat):Int)) (fun i hi=>by rw[List.getD_eq_getElem?_getD,List.getElem?_map,List.getElem?_range hi];rfl)]
   have e:=RM.DG (N:=g.N) (L:=L) rel;have e:(PyProof.Rows.firstMet (fun i=>((L i:Nat):Int)) p).length=_:=e
   rw[e];exact q _ (s3.trans (aq.new hl))
theorem k6:Ok T T.kY 2 Ca:=by
 have jd:=jd T;have cY:=cY T;refine T.kY.ok ni fun _ A _ s H vs Q E hr h=>?_
 ·obtain⟨wb,p,ts,g,S,m,rfl,rfl,hw,hm,q⟩:=h;refine⟨_,(aj (aG (i:=2) ni.nd rfl (Or.inl rfl) (aD cY hr T.fU.c aL (aa (pv 0) (aa (pv 1) ae))))
   (aj (bY (PW.pt (ue (aP D9 (pv 1) ah (aM _)) (rW (aP qT (bT K T.c5 (aa (bA (own:=["count"]) (fq:=[]) (js:=[]) (aF (ai gp) ["web","some","counts"]) rfl (q9 K (pv 2)) (fun _ _ _ _=>(bU 0 (mF ["count"]))) (fun _ _ _ _=>(fk (aP (v9 K) (pv 0) (eg (aa ah (aa ah ae))) (by with_unfolding_all rfl)))) (fun _ _ _ _=>(pv 0))) ae)) ah (aM _))))) (au (aI ud)) aZ)
   (au (aI (cR cC (aD jd hr T.i5.c aL (aa (pv 0) (aa (pv 1) ae))) (aE bZ (aE oE (aH (cA K) (pv 0) ah) (bT K T.c5 (aa (bA (own:=["count"]) (fq:=[]) (js:=[]) (aF (ai gp) ["web","some","counts"]) rfl (q9 K (pv 2)) (fun _ _ _ _=>(bU 0 (mF ["count"]))) (fun _ _ _ _=>(fk (aP cC (pv 0) ah (aM _)))) (fun _ _ _ _=>(pv 0))) ae))) ah) (aM _)))))),?_⟩
  refine kW ?_;intro c9 eS fM;obtain⟨bt,xs,h1,h2,h3⟩:=id hw.ex;have wp:=g.p2;refine(av rfl (av rfl ⟨wb,p,ts,g,_,m,rfl,rfl,hw,hm,fun D H1 s1 Ar=>?_⟩))
  refine(av rfl (bW (av rfl (lA (fun h0=>?_) (fun h0=>?_)))))
  ·have h0:(m:Int)<=0:=kr h0;exact q H1 false s1 ⟨(fun z=>nomatch z),fun r=>absurd (show m=0 by lia) r.1⟩
  have h0:m≠0:=fun z=>h0 (cN (show(m:Int)<=0 by lia))
  refine(av rfl ⟨D,rfl,⟨_,aR.of Ar⟩,fun C hC=>bD (xs:=bF (fun x=>g.N.dg m x) p) (fun i acc H2=>aq H1 H2/\H2 C=some (.lst acc)/\acc.length=RM.cnt (fun x=>!decide (0=g.N.dg m x\/2=g.N.dg m x)) i) ⟨aq.new hC,af,rfl⟩ (fun i acc H2 _ f=>⟨aR.of (f.1 _ _ Ar),f.2.1,by have:=RM.gx (fun x=>!decide (0=g.N.dg m x\/2=g.N.dg m x)) i;have:=f.2.2;lia⟩) (eB (by rw[bh];lia)) ?_ ?_⟩)
  ·rintro i x acc H2 hx ⟨s2,xC,al⟩;obtain⟨hi,rfl⟩:=gz hx;refine⟨rfl,av rfl ⟨dl rfl,fun u hu=>(pQ rfl (.inr (bB.of af)) ⟨rfl,rfl,av rfl (?_)⟩)⟩⟩
   have e:Ec (.int ((g.N.dg m i:Nat):Int)) [.int 0,.int 2]=decide (0=g.N.dg m i\/2=g.N.dg m i):=Gr _ 0 2;have hc1:RM.cnt (fun x=>!decide (0=g.N.dg m x\/2=g.N.dg m x)) (i+1)=RM.cnt (fun x=>!decide (0=g.N.dg m x\/2=g.N.dg m x)) i+if(!decide (0=g.N.dg m i\/2=g.N.dg m i))=true then 1 else 0:=rfl
   dsimp only;rw[if_pos rfl,e];have MW:C≠u:=aU xC hu;cases hb:decide (0=g.N.dg m i\/2=g.N.dg m i) with
   | false =>
     rw[hb]at hc1;refine jr (av rfl ⟨by rw[ao MW];exact xC,(s2.trans (aq.new hu)).put hC,af,?_⟩)
     rw[List.length_append,hc1,al];rfl
   | true =>
     rw[hb]at hc1;exact g9 ⟨s2.trans (aq.new hu),by rw[ao MW];exact xC,by rw[hc1,al];rfl⟩
  rintro acc H2 ⟨s2,xC,al⟩;rw[bh]at al;have s12:=s1.trans s2;refine(pQ rfl (.inl (aR.of xC)) (bW (av rfl (lA (fun hpos=>?_) (fun hpos=>?_)))))
  ·have hpos:(0:Int)<(acc.length:Int):=kr hpos;refine q H2 false s12 ⟨(fun z=>nomatch z),fun r=>?_⟩
   obtain⟨x,hx,hf⟩:=RM.gm (show 0<RM.cnt _ p by rw[<-al];lia)
   have d2:=RM.Dz hm r x hx;rw[Bool.not_eq_true',decide_eq_false_iff_not]at hf;exact absurd (d2.imp Eq.symm Eq.symm) hf
  have d2:g.N.D2 m:=fun x hx=>by
   apply Classical.byContradiction;intro hn;have:=RM.iI (f:=fun x=>!decide (0=g.N.dg m x\/2=g.N.dg m x)) (k:=x) (by
    rw[Bool.not_eq_true',decide_eq_false_iff_not];exact fun z=>hn (z.imp Eq.symm Eq.symm)) (show x<p from hx)
   exact hpos (cN (show(0:Int)<(acc.length:Int) by lia))
  refine(av rfl (av rfl ⟨wb,p,ts,g,_,m,rfl,rfl,hw.same s12,hm,fun H3 s3=>?_⟩))
  have rS:=s12.trans s3;have yY:=(s2.trans s3) _ _ Ar;refine(av rfl (c8 (bB.of (rS _ _ h1)) (ak (j:=0) rfl) (?_)));refine(av rfl ⟨D,rfl,⟨_,aR.of yY⟩,fun C2 xC=>bD (xs:=bF (fun x=>g.N.dg m x) p) (fun i acc H4=>aq H3 H4/\H4 C2=some (.lst acc)/\acc.length=RM.cnt (fun x=>decide (g.N.dg m x=2)) i) ⟨aq.new xC,af,rfl⟩ (fun i acc H4 _ f=>⟨aR.of (f.1 _ _ yY),f.2.1,by have:=RM.gx (fun x=>decide (g.N.dg m x=2)) i;have:=f.2.2;lia⟩) (eB (by rw[bh];lia)) ?_ ?_⟩)
  ·rintro i x acc H4 hx ⟨s4,JV,JW⟩;obtain⟨hi,rfl⟩:=gz hx;refine⟨rfl,av rfl ⟨rfl,av rfl (?_)⟩⟩;have hc1:RM.cnt (fun x=>decide (g.N.dg m x=2)) (i+1)=RM.cnt (fun x=>decide (g.N.dg m x=2)) i+if decide (g.N.dg m i=2)=true then 1 else 0:=rfl
   have e:decide (V.int ((g.N.dg m i:Nat):Int)=V.int 2)=decide (g.N.dg m i=2):=gA _ 2;rw[e];cases hb:decide (g.N.dg m i=2) with
   | true =>
     rw[hb]at hc1;refine(av rfl ⟨JV,s4.put xC,af,?_⟩);rw[List.length_append,hc1,JW];rfl
   | false =>
     rw[hb]at hc1;exact⟨s4,JV,by rw[hc1,JW];rfl⟩
  ·rintro acc H4 ⟨s4,JV,JW⟩;rw[bh]at JW;refine(pQ rfl (.inl (aR.of JV)) (bW (bW ⟨rfl,q H4 _ (rS.trans s4) ?_⟩)));have h:=RM.Bs hm h0 d2;have hcc:RM.cnt (fun x=>decide (g.N.dg m x=2)) p<=p:=by have:=RM.gx (fun x=>decide (g.N.dg m x=2)) p;lia
   rw[h,decide_eq_true_iff]
   constructor
   ·intro e;have e:=V.int.inj e;show RM.cnt (g.N.root (fun k=>m.testBit k) ts.length) p+RM.cnt (fun x=>decide (g.N.dg m x=2)) p=p+1
    lia
   ·intro e;have e:RM.cnt (g.N.root (fun k=>m.testBit k) ts.length) p+RM.cnt (fun x=>decide (g.N.dg m x=2)) p=p+1:=e
    exact congrArg V.int (by lia)
def Cd:Sp:=fun vs H Q _=>∃ w p ts,∃ g:aB p ts,∃(S:Int) (m:Nat),vs=[.ref w,.int S]/\S=(m:Int)/\bg H w p ts/\m<2^ts.length/\∀ H',aq H H'->Q (.int (lenOf ts m)) H'
theorem k7:Ok T T.kZ 1 Cd:=by
 refine T.kZ.ok u9 fun _ A _ s H vs Q E hr h=>?_
 ·obtain⟨wb,p,ts,g,S,m,rfl,rfl,hw,hm,q⟩:=h;refine⟨_,(au (aI (bE (sumK K rfl) (by rfl) T.EC PyProof.Rows.boot_sum (aa (bA (own:=["k"]) (fq:=["web","some"]) (js:=[0,1]) (aF (ai iV) ["web","some"]) rfl (bq (by rfl) T.bH (aa (bT K T.c5 (aa (aH (cA K) (pv 0) ah) ae)) ae)) (fun _ _ _ _=>(bU 0 (mF ["k","web","some"]))) (fun _ _ _ _=>(fk (aP cC (aE bM (aE rZ (pv 2) (pv 0)) ah) ah (aM _)))) (fun _ _ _ _=>(aH (cA K) (aH (cA K) (aH (cA K) (pv 1) ah) (pv 0)) ah))) ae)))),?_⟩
  obtain⟨bt,xs,h1,h2,h3⟩:=id hw.ex;have xx:=h3.length;have wl:=g.len;refine(av rfl (c8 (bB.of h1) (ak (j:=1) rfl) (pQ rfl (.inr (bB.of h2)) (av rfl ⟨(by lia),(by lia),fun D hD=>cu (lo:=0) (m:=xs.length) (fun i acc H2=>aq H H2/\H2 D=some (.lst acc)/\acc=(((List.range i).filter (fun k=>m.testBit k)).map fun k=>(bz ts k).2.2).map V.int) ⟨aq.new hD,af,rfl⟩ (fun i acc H2 _ z=>⟨z.2.1,by rw[z.2.2,List.length_map,List.length_map];exact Nat.le_trans (List.length_filter_le _ _) (by rw[List.length_range];exact Nat.le_refl _)⟩) (eB (by lia)) ?_ ?_⟩))))
  ·rintro i acc H2 hi ⟨s2,sL,rfl⟩;rw[Int.zero_add];obtain⟨c,hxc,hct⟩:=pD (g:=g) h3 (show i<ts.length by lia)
   refine⟨rfl,av rfl (av rfl (bW ⟨(by lia),bW ⟨(iD rfl),rfl,av rfl (?_)⟩⟩))⟩
   rw[Int.toNat_natCast,wk,lD];cases hb:m.testBit i with
   | true =>
     refine(av rfl (c8 (bB.of (s2 _ _ h1)) (ak (j:=1) rfl) (av rfl (c8 (bB.of (s2 _ _ h2)) (ak (j:=i) hxc) (c8 (bB.of (s2 _ _ hct)) (ak (j:=2) rfl) ⟨sL,s2.put hD,af,?_⟩)))));rw[aK,if_pos hb,List.map_append,List.map_append];rfl
   | false =>
     refine⟨s2,sL,?_⟩;rw[aK,if_neg (by rw[hb];decide),List.append_nil]
  ·rintro acc H2 ⟨s2,sL,rfl⟩;refine⟨D,_,rfl,aR.of sL,?_⟩;have e:lenOf ts m=(((List.range xs.length).filter (fun k=>m.testBit k)).map fun k=>(bz ts k).2.2).sum:=by
    unfold lenOf;rw[gi hm,xx]
   rw[<-e];exact q H2 s2
def Ce:Sp:=fun vs H Q _=>∃ c,vs=[.int c]/\Q (.bl true) H
theorem jR:Ok T T.jK 1 Ce:=by
 refine T.jK.ok sR fun _ A _ s H vs Q E hr h=>?_
 ·obtain⟨c,rfl,k⟩:=h;refine⟨_,(au (aI (lY (bE (Ft K) (by rfl) T.cy PyProof.Rows.boot_isinstance (aa (pv 0) (aa (x9 (by rfl) T.yC PyProof.Rows.boot_int) ae))) (lX (rX (bE (Ft K) (by rfl) T.cy PyProof.Rows.boot_isinstance (aa (pv 0) (aa (x9 (by rfl) T.Gf PyProof.Rows.boot_bool) ae)))))))),?_⟩
  exact(av rfl ⟨_,_,_,_,_,rfl,rfl,.int c,Fl K,_,rfl,jr (av rfl ⟨_,_,_,_,_,rfl,rfl,.int c,Fo K,_,rfl,k⟩)⟩)
def Cf:Sp:=fun vs H Q _=>∃ w p ts,∃ g:aB p ts,∃(S:Int) (m:Nat),vs=[.ref w,.int S]/\S=(m:Int)/\bg H w p ts/\m<2^ts.length/\∀ H' (d:Bool),aq H H'->(d=true↔g.N.cP m)->Q (.bl d) H'
def Cg:Sp:=fun vs H Q _=>∃ w p ts,∃ g:aB p ts,vs=[.ref w]/\bg H w p ts/\ts.length<=9/\∀ D l H',H D=none->aq H H'->H' D=some (.lst (aJ l))->qQ p ts g l->Q (.ref D) H'
theorem DT{p:Nat}{ts:List cJ}{g:aB p ts}(h9:ts.length<=9){ps ps' : List (Addr×Int×Int)}{f:Nat->Bool}(hf:∀ r,f r=true↔r<2^ts.length/\g.N.Ring r)(e:ps.map (·.2)=((List.range (2^ts.length)).filter f).map fun r=>(lenOf ts r,(r:Int)))
 (hp:ps'.Perm ps) (hw:ps'.Pairwise (fun x y=>kx x.2<=kx y.2)):qQ p ts g (ps'.map fun q=>q.2.2.toNat)/\∀ q∈ps',q.2.2=((q.2.2.toNat:Nat):Int):=by
 have mem:∀ q∈ps,∃ r,f r=true/\q.2=(lenOf ts r,(r:Int)):=fun q hq=>by
  have:q.2∈ps.map (·.2):=List.mem_map.mpr ⟨q,hq,rfl⟩;rw[e]at this;obtain⟨r,hr,e2⟩:=List.mem_map.mp this;exact⟨r,(List.mem_filter.mp hr).2,e2.symm⟩
 have big:(2:Nat)^ts.length<=2^9:=Nat.pow_le_pow_right (by decide) h9
 have e3:ps.map (fun q=>q.2.2.toNat)=(List.range (2^ts.length)).filter f:=by
  have:ps.map (fun q=>q.2.2.toNat)=(ps.map (·.2)).map fun z=>z.2.toNat:=by rw[List.map_map];rfl
  rw[this,e,List.map_map];exact List.map_id _
 have pm:(ps'.map fun q=>q.2.2.toNat).Perm ((List.range (2^ts.length)).filter f):=by rw[<-e3];exact hp.map _
 refine⟨⟨?_,?_,fun r=>?_⟩,fun q hq=>?_⟩
 ·rw[List.pairwise_map];refine List.Pairwise.imp_of_mem (fun {x y} hx hy h=>?_) hw
  obtain⟨r,hr,e1⟩:=mem x (hp.mem_iff.mp hx);obtain⟨r',hr',e2⟩:=mem y (hp.mem_iff.mp hy);have b1:=((hf r).mp hr).1;have b2:=((hf r').mp hr').1;rw[e1,e2]at h ⊢;unfold kx at h;show jO ts ((r:Int).toNat) ((r' : Int).toNat);rw[Int.toNat_natCast,Int.toNat_natCast];unfold jO;have h:lenOf ts r*1073741824+(r:Int)<=lenOf ts r'*1073741824+(r' : Int):=h
  lia
 ·exact pm.nodup_iff.mpr (List.Pairwise.filter _ List.nodup_range)
 ·rw[pm.mem_iff,List.mem_filter,List.mem_range,hf];exact⟨fun z=>z.2,fun z=>⟨z.1,z⟩⟩
 ·obtain⟨r,_,e1⟩:=mem q (hp.mem_iff.mp hq);rw[e1];show(r:Int)=(((r:Int).toNat:Nat):Int);rw[Int.toNat_natCast]
theorem k8:Ok T T.kX 2 Cf:=by
 have cY:=cY T;refine T.kX.ok u7 fun _ A _ s H vs Q E hr h=>?_
 ·obtain⟨wb,p,ts,g,S,m,rfl,rfl,hw,hm,q⟩:=h;refine⟨_,(au (aI (cR (v9 K) ah (bA (own:=["count"]) (fq:=[]) (js:=[]) (aF (ai iU) ["web","some"]) rfl (q9 K (aD cY hr T.fU.c aL (aa (pv 0) (aa (pv 1) ae)))) (fun _ _ _ _=>(bU 0 (mF ["count"]))) (fun _ _ _ _=>cg) (fun _ _ _ _=>(aE bM (pv 0) ah))) (by with_unfolding_all rfl)))),?_⟩
  have wp:=g.p2;refine(av rfl (av rfl ⟨wb,p,ts,g,_,m,rfl,rfl,hw,hm,fun D H1 s1 Ar=>?_⟩))
  refine⟨D,rfl,⟨_,aR.of Ar⟩,fun C hC=>bD (K:=K) (a:=D) (xs:=bF (fun x=>g.N.dg m x) p) (fun i acc H2=>aq H1 H2/\H2 C=some (.lst acc)/\acc=aJ ((List.range i).map fun x=>g.N.dg m x%2)) ⟨aq.new hC,af,rfl⟩ (fun i acc H2 _ z=>⟨aR.of (z.1 _ _ Ar),z.2.1,by rw[z.2.2,aN,List.length_map,List.length_range];exact Nat.le_refl _⟩) (eB (by rw[bh];lia)) ?_ ?_⟩
  ·rintro i x acc H2 hx ⟨s2,xC,rfl⟩;obtain⟨hi,rfl⟩:=gz hx;refine⟨rfl,av rfl (bW ⟨(iD rfl),xC,s2.put hC,af,?_⟩)⟩;rw[List.range_succ,List.map_append,List.map_singleton,dR];rfl
  ·rintro acc H2 ⟨s2,xC,rfl⟩;refine(pQ rfl (.inl (aR.of xC)) ⟨rfl,rE _,?_⟩);rw[bh,if_pos rfl];refine q H2 _ (s1.trans s2) ?_;rw[show(V.int 1)=V.int ((1:Nat):Int) from rfl,o8,Bool.not_eq_true',decide_eq_false_iff_not]
   refine⟨fun h x hx=>?_,fun h z=>?_⟩
   ·rw[RM.ym];refine dO fun e=>h (List.mem_map.mpr ⟨x,List.mem_range.mpr hx,e⟩)
   ·obtain⟨x,hx,e⟩:=List.mem_map.mp z;have:=h x (List.mem_range.mp hx);rw[RM.ym]at this;exact of_decide_eq_false this e
theorem fL:Ok T T.fK 3 Cg:=by
 have k8:=k8 T;have k6:=k6 T;have k7:=k7 T;refine T.fK.ok fg fun _ A _ s H vs Q E hr h=>?_
 ·obtain⟨wb,p,ts,g,rfl,hw,h9,qq⟩:=h;refine⟨_,(aj (aG (i:=1) fg.nd rfl (Or.inl rfl) (dQ ae))
   (aj (gP PassesOwn.never rfl (yM (by rfl) T.bH (aa ah (aa (aE l5 ah (bT K T.c5 (aa (aH (cA K) (pv 0) ah) ae))) ae))) (bU 2 fg.nd)
   (au (bY (PW.pt (Az (eW (aD k8 hr T.kX.c aL (aa (pv 0) (aa (pv 2) ae)))) (xM (eW (aD k6 hr T.kY.c aL (aa (pv 0) (aa (pv 2) ae))))))) (au (bR (F8 K (oH PySem.F.plainAttrs_list PySem.F.slot_list_append PySem.F.type_list_append eY (pv 1) (aa (eg (aa (aD k7 hr T.kZ.c aL (aa (pv 0) (aa (pv 2) ae))) (aa (pv 2) ae))) ae))))) aZ)))
   (au (aI (bA (own:=["pair"]) (fq:=[]) (js:=[]) (aF (ai dH) ["web","found","some"]) rfl (q9 K (bE (uX K) (by rfl) T.p9 PyProof.Rows.boot_sorted (aa (pv 1) ae))) (fun _ _ _ _=>(bU 0 (mF ["pair"]))) (fun _ _ _ _=>cg) (fun _ _ _ _=>(aH (cA K) (pv 0) ah))))))),?_⟩
  refine kH ?_;intro c9 eS fM jg;obtain⟨bt,xs,h1,h2,h3⟩:=id hw.ex;have xx:=h3.length;have big:(2:Nat)^ts.length<=2^9:=Nat.pow_le_pow_right (by decide) h9
  have F6:(1:Int)*2^((xs.length:Nat):Int).toNat=((2^ts.length:Nat):Int):=by rw[lI,xx]
  have tp:=Nat.two_pow_pos ts.length;refine⟨dl rfl,fun F hF=>?_⟩
  have s1:aq H (upd H F (.lst [])):=aq.new hF;obtain⟨f,hf⟩:∃ f:Nat->Bool,∀ r,f r=true↔r<2^ts.length/\g.N.Ring r:=⟨fun r=>@decide (r<2^ts.length/\g.N.Ring r) (Classical.propDecidable _),fun r=>@decide_eq_true_iff _ (Classical.propDecidable _)⟩
  have f0:f 0=false:=by
   cases h:f 0 with
   | false=>rfl
   | true=>exact absurd rfl ((hf 0).mp h).2.1
  have few:∀(i:Nat) (ps:List (Addr×Int×Int)),ps.map (·.2)=((List.range i).filter f).map (fun r=>(lenOf ts r,(r:Int)))->ps.length<64:=fun i ps e=>by
   have h1:=congrArg List.length e;rw[List.length_map,List.length_map]at h1;have h2:=RM.lM (N:=g.N) (l:=(List.range i).filter f) h9 (List.Pairwise.filter _ List.nodup_range) fun m hm=>(hf m).mp (List.mem_filter.mp hm).2
   lia
  refine(av rfl (c8 (bB.of (s1 _ _ h1)) (ak (j:=1) rfl) (pQ rfl (.inr (bB.of (s1 _ _ h2))) (bW ⟨⟨by lia,by lia,by decide⟩,1,((2^ts.length:Nat):Int),congrArg (fun z=>[V.int 1,V.int z]) F6,⟨by decide,by decide,by lia,by lia⟩,?_⟩))))
  refine cQ (lo:=1) (n:=(((2^ts.length:Nat):Int)-1).toNat) (fun i σ H2=>∃(ps:List (Addr×Int×Int)) (v2:Option V),σ=[some (.ref wb),some (.ref F),v2]/\aq H H2/\H2 F=some (.lst (ps.map fun q=>V.ref q.1))/\(∀ q∈ps,H2 q.1=some (.tup [.int q.2.1,.int q.2.2]))/\ps.map (·.2)=((List.range (i+1)).filter f).map fun r=>(lenOf ts r,(r:Int))) ⟨[],none,rfl,s1,af,(fun q hq=>nomatch hq),?_⟩ ?_ ?_
  ·rw[aK,f0];rfl
  ·rintro i D' σ H2 hi ⟨ps,v2,rfl,s2,Am,vS,EG⟩;have DB:i+1<2^ts.length:=by lia
   have ei:(1:Int)+(i:Int)=((i+1:Nat):Int):=by lia
   rw[ei];have fn:∀ H3,aq H2 H3->f (i+1)=false->∃(ps:List (Addr×Int×Int)) (v2:Option V),[some (V.ref wb),some (V.ref F),some (V.int ((i+1:Nat):Int))]=[some (.ref wb),some (.ref F),v2]/\aq H H3/\H3 F=some (.lst (ps.map fun q=>V.ref q.1))/\(∀ q∈ps,H3 q.1=some (.tup [.int q.2.1,.int q.2.2]))/\ps.map (·.2)=((List.range (i+1+1)).filter f).map fun r=>(lenOf ts r,(r:Int)):=fun H3 s3 e =>
    ⟨ps,_,rfl,s2.trans s3,s3 _ _ Am,fun q hq=>s3 _ _ (vS q hq),by rw[aK,e,EG];simp⟩
   refine(av rfl (av rfl ⟨wb,p,ts,g,_,i+1,rfl,rfl,hw.same s2,DB,fun H3 d s3 hd=>(av rfl (?_))⟩))
   cases d with
   | false =>
     refine fn H3 s3 ?_;cases h:f (i+1) with
     | false=>rfl
     | true=>exact absurd (hd.mpr ((hf _).mp h).2.2.1) (by decide)
   | true =>
     refine(av rfl (av rfl ⟨wb,p,ts,g,_,i+1,rfl,rfl,hw.same (s2.trans s3),DB,fun H4 d s4 hd=>(av rfl (?_))⟩))
     cases d with
     | false =>
       refine fn H4 (s3.trans s4) ?_;cases h:f (i+1) with
       | false=>rfl
       | true=>exact absurd (hd.mpr ((hf _).mp h).2) (by decide)
     | true =>
       have JX:=s3.trans s4;have Py:f (i+1)=true:=(hf _).mpr ⟨DB,hd.mp rfl⟩;refine(av rfl ⟨.inl ⟨rfl,_,aR.of (JX _ _ Am)⟩,av rfl (av rfl ⟨wb,p,ts,g,_,i+1,rfl,rfl,hw.same (s2.trans JX),DB,fun H5 s5=>(av rfl ⟨dl rfl,fun c hc=>?_⟩)⟩)⟩)
       have s6:aq H5 (upd H5 c (.tup [.int (lenOf ts (i+1)),.int ((i+1:Nat):Int)])):=aq.new hc;have LJ:=(JX.trans s5).trans s6;have Pz:=LJ _ _ Am;have LK:c≠F:=fun z=>by rw[z,(JX.trans s5) _ _ Am]at hc;cases hc
       have pl:=few _ ps EG;refine⟨F,_,_,rfl,rfl,Pz,e7 (by rw[List.length_map];lia),?_⟩
       refine⟨ps++[(c,lenOf ts (i+1),((i+1:Nat):Int))],_,rfl,(s2.trans LJ).put hF,?_,fun q hq=>?_,?_⟩
       ·rw[af,List.map_append];rfl
       ·have LL:∀ q∈ps,q.1≠F:=fun q hq z=>by
         have:=vS q hq;rw[z,Am]at this;cases this
        rcases List.mem_append.mp hq with z|z
        ·rw[ao (LL q z)];exact LJ _ _ (vS q z)
        ·rw[List.mem_singleton.mp z,ao LK];exact af
       ·rw[aK,Py,if_pos rfl,List.map_append,List.map_append,EG];rfl
  ·rintro σ H2 ⟨ps,v2,rfl,s2,Am,vS,EG⟩;have en:(((2^ts.length:Nat):Int)-1).toNat+1=2^ts.length:=by have:=Nat.two_pow_pos ts.length;lia
   rw[en]at EG;have pl:=few _ ps EG;have mem:∀ q∈ps,BD q.2:=fun q hq=>by
    have:q.2∈ps.map (·.2):=List.mem_map.mpr ⟨q,hq,rfl⟩;rw[EG]at this;obtain⟨r,hr,e2⟩:=List.mem_map.mp this;have:=((hf r).mp (List.mem_filter.mp hr).2).1;rw[<-e2];unfold BD;show 0<=(r:Int)/\(r:Int)<1073741824
    lia
   refine(av rfl ⟨F,ps,rfl,aR.of Am,vS,mem,pl,fun l ps' hl pm pw=>?_⟩)
   obtain⟨rl,nat⟩:=DT h9 hf EG pm pw;have s3:aq H2 (upd H2 l (.lst (ps'.map fun q=>V.ref q.1))):=aq.new hl
   have Gu:upd H2 l (.lst (ps'.map fun q=>V.ref q.1)) l=some (.lst (ps'.map fun q=>V.ref q.1)):=af
   generalize upd H2 l (.lst (ps'.map fun q=>V.ref q.1))=H3 at s3 Gu
   have PB:=pm.length_eq;refine⟨l,rfl,⟨_,aR.of Gu⟩,fun D hD=>bD (K:=K) (a:=l) (xs:=ps'.map fun q=>V.ref q.1) (fun i acc H4=>aq H3 H4/\H4 D=some (.lst acc)/\acc=aJ ((ps'.take i).map fun q=>q.2.2.toNat)) ⟨aq.new hD,af,rfl⟩ (fun i acc H4 _ z=>⟨aR.of (z.1 _ _ Gu),z.2.1,by rw[z.2.2,aN,List.length_map,List.length_take];lia⟩) (Nat.le_of_lt (e7 (by rw[List.length_map];lia))) ?_ ?_⟩
   ·rintro i x acc H4 hx ⟨s4,nL,rfl⟩;rw[List.getElem?_map]at hx;obtain⟨q,hq,rfl⟩:=DW.mp hx;have hm:=vU hq;have LM:=(s3.trans s4) _ _ (vS q (pm.mem_iff.mp hm));refine⟨rfl,av rfl (c8 (bB.of LM) (ak (j:=1) rfl) ⟨nL,s4.put hD,af,?_⟩)⟩;rw[take3 hq,List.map_append,List.map_singleton,dR,<-nat q hm]
   ·rintro acc H4 ⟨s4,nL,rfl⟩;rw[List.length_map,List.take_length]at nL;exact qq D _ H4 ((s2.trans s3).free hD) ((s2.trans s3).trans s4) nL rl
def Ci(t:Addr)(lp:Pos):Sp:=fun vs H Q _=>∃ w p ts,∃ g:aB p ts,∃ k:Nat,vs=[.ref w,.int (k:Int)]/\bg H w p ts/\H t=some (.jU (fG (zC "by_length") lp))/\8<g.N.ay.length/\∀ H',aq H H'->Q (.bl true) H'
theorem g8:Ok T T.g6 13 (Ci a.dY cU):=by
 have bK:=bK T;have i9:=i9 T;have ja:=ja T;have gv:=gv T;refine T.g6.ok eJ fun _ A _ s H vs Q E hr h=>?_
 ·obtain⟨wb,p,ts,g,k,rfl,hw,htb,h8,q⟩:=h;refine⟨_,(aj (aG (i:=2) eJ.nd rfl (Or.inl rfl) ES)
   (aj (FE (i:=3) K rfl rfl rfl eJ.nd rfl rfl (by rfl) T.vF (fun E pn xe hp=>(au (bY (aP cC (pv 1) ah (aM _)) (au (bR (aD bK hr T.dZ.c hp (aa (pv 0) ae)))) (au (bY (aP cC (pv 1) ah (aM _)) (au (bR (aD i9 hr T.iZ.c hp (aa (pv 0) ae)))) (au (bY (aP cC (pv 1) ah (aM _)) (au (bR (aD ja hr T.i3.c hp (aa (pv 0) (aa (aH (k9 K) (dQ (aa ah (aa ah (aa (D7 AJ ah) ae)))) (aE bM (bT K T.c5 (aa (aH (cA K) (pv 0) ah) ae)) ah)) ae))))) (au (bR (aD gv hr T.gr.c hp (aa (pv 0) (aa (aH (k9 K) (dQ (aa ah (aa ah (aa (D7 AJ ah) ae)))) (aE bM (bT K T.c5 (aa (aH (cA K) (pv 0) ah) ae)) ah)) (aa (eg (aa iB (aa ah ae))) ae))))))))))))) (fun ea pn=>(au (aG (i:=2) eJ.nd rfl (Or.inl rfl) (pv 3)))))
   (aj (bY (PW.pt (ue (jo (eW (bE (Df K) (by rfl) T.cy PyProof.Rows.boot_isinstance (aa (pv 2) (aa (wg (by rfl) T.Aa) ae))))) (rW (jo (eW (bE (Df K) (by rfl) T.cy PyProof.Rows.boot_isinstance (aa (pv 2) (aa (x9 (T:="ValueError") (by rfl) T.tR (by decide +kernel)) ae)))))))) (au (aI ud)) aZ)
   (au (aI (lY (rX (bE (Df K) (by rfl) T.cy PyProof.Rows.boot_isinstance (aa (pv 2) (aa (wg (by rfl) T.B3) ae)))) (lX (rX (bE (Df K) (by rfl) T.cy PyProof.Rows.boot_isinstance (aa (pv 2) (aa (wg (by rfl) T.z9) ae))))))))))),?_⟩
  refine pY ?_;intro c9 eS fM jg;obtain⟨bt,xs,h1,h2,h3⟩:=id hw.ex;refine⟨fun cls od H'=>cls = .ref a.aO/\aq H H',?_,?_⟩
  ·have ix:∃ z:Int,xV [V.int 3,.int 1,.int (-1)] ((xs.length:Int)%3)=some (.int z):=by
    have h:xs.length%3=0\/xs.length%3=1\/xs.length%3=2:=by lia
    rcases h with h|h|h
    ·exact⟨3,by rw[show((xs.length:Int)%3)=((0:Nat):Int) by lia];exact ak (j:=0) rfl⟩
    ·exact⟨1,by rw[show((xs.length:Int)%3)=((1:Nat):Int) by lia];exact ak (j:=1) rfl⟩
    ·exact⟨-1,by rw[show((xs.length:Int)%3)=((2:Nat):Int) by lia];exact ak (j:=2) rfl⟩
   obtain⟨z,ez⟩:=ix;refine(av rfl ⟨rfl,av rfl (lA (fun _=>?_) (fun _=>(av rfl ⟨rfl,av rfl (lA (fun _=>?_) (fun _=>(av rfl ⟨rfl,av rfl (lA (fun _=>?_) (fun _=>?_))⟩)))⟩)))⟩)
   ·exact(av rfl ⟨wb,p,ts,g,rfl,hw,htb,.inr ⟨h8,fun H' s'=>⟨rfl,s'⟩⟩⟩)
   ·exact(av rfl ⟨wb,p,ts,g,rfl,hw,htb,h8,fun H' s'=>⟨rfl,s'⟩⟩)
   ·refine(av rfl (av rfl ⟨dl rfl,fun L hL=>?_⟩))
    have s1:aq H (upd H L (.lst [.int 3,.int 1,.int (-1)])):=aq.new hL;exact(av rfl (c8 (bB.of (s1 _ _ h1)) (ak (j:=1) rfl) (pQ rfl (.inr (bB.of (s1 _ _ h2))) (bW ⟨(iD rfl),kQ (aR.of af) (ez) ⟨wb,p,ts,g,_,rfl,hw.same s1,h8,fun H' s'=>⟨rfl,s1.trans s'⟩⟩⟩))))
   ·refine(av rfl (av rfl ⟨dl rfl,fun L hL=>?_⟩))
    have s1:aq H (upd H L (.lst [.int 3,.int 1,.int (-1)])):=aq.new hL;refine(av rfl (c8 (bB.of (s1 _ _ h1)) (ak (j:=1) rfl) (pQ rfl (.inr (bB.of (s1 _ _ h2))) (bW ⟨(iD rfl),kQ (aR.of af) (ez) ⟨dl rfl,fun c hc=>?_⟩⟩))))
    exact⟨wb,p,ts,g,_,_,rfl,hw.same (s1.trans (aq.new hc)),h8,fun H' s'=>⟨rfl,(s1.trans (aq.new hc)).trans s'⟩⟩
  ·rintro cls od H' ⟨rfl,s1⟩;refine⟨T.Ad,fun ea PC=>?_⟩
   have s2:=s1.trans (aq.new (o:=qm ea (.ref a.aO)) PC);have he:upd H' ea (qm ea (.ref a.aO)) ea=some (qm ea (.ref a.aO)):=af;generalize upd H' ea (qm ea (.ref a.aO))=H2 at s2 he;refine(av rfl (?_));refine(av rfl ⟨ea,_,a.aO,_,_,rfl,rfl,he,T.kj,T.q_TooMany_TooMany,_,rfl,g9 (av rfl ⟨ea,_,a.aO,_,_,rfl,rfl,he,T.kj,T.xq,_,rfl,g9 ?_⟩)⟩);refine(av rfl ⟨ea,_,a.aO,_,_,rfl,rfl,he,T.kj,T.q_TooMany_BadSet,_,rfl,av rfl (jr (av rfl ⟨ea,_,a.aO,_,_,rfl,rfl,he,T.kj,T.q_TooMany_NotRing,_,rfl,q H2 s2⟩))⟩)
theorem Cj{j k j' k' : Nat}(h:j<k)(h' : j'<k')(e:2^k+2^j=2^k'+2^j'):k=k'/\j=j':=by
 have up:∀{j k:Nat},j<k->2^k+2^j<2^(k+1):=fun {j k} h=>by
  have:=Nat.pow_lt_pow_right (a:=2) (by decide) h
  rw[Nat.pow_succ]
  lia
 have q1:=Nat.two_pow_pos j;have q2:=Nat.two_pow_pos j';have ek:k=k':=by
  rcases Nat.lt_trichotomy k k' with z|z|z
  ·have h1:=up h;have h2:2^(k+1)<=2^k':=Nat.pow_le_pow_right (by decide) z
   lia
  ·exact z
  ·have h1:=up h';have h2:2^(k'+1)<=2^k:=Nat.pow_le_pow_right (by decide) z
   lia
 subst ek;refine⟨rfl,?_⟩;rcases Nat.lt_trichotomy j j' with z|z|z
 ·have:=Nat.pow_lt_pow_right (a:=2) (by decide) z
  lia
 ·exact z
 ·have:=Nat.pow_lt_pow_right (a:=2) (by decide) z
  lia
def Cz(k j k' j' : Nat):Prop:=j'<k'/\(k'<k\/(k' = k/\j'<j))
structure xF(ts:List cJ)(k j:Nat)(ps:List (Addr×Int×Int)):Prop where
 of:∀ q∈ps,∃ k' j',Cz k j k' j'/\q.2=(lJ ts k'+lJ ts j',((2^k'+2^j' : Nat):Int))
 nd:(ps.map (·.2.2)).Nodup
 all:∀ k' j',Cz k j k' j'->((2^k'+2^j' : Nat):Int)∈ps.map (·.2.2)
theorem xF.start(ts:List cJ):xF ts 0 0 []:=⟨(fun q hq=>nomatch hq),.nil,fun k' j' h=>by unfold Cz at h;lia⟩
theorem xF.row{ts:List cJ}{k:Nat}{ps:List (Addr×Int×Int)}(h:xF ts k k ps):xF ts (k+1) 0 ps :=
 ⟨fun q hq=>let⟨k',j',p,e⟩:=h.of q hq;⟨k',j',by unfold Cz at p ⊢;lia,e⟩,h.nd,fun k' j' p=>h.all k' j' (by unfold Cz at p ⊢;lia)⟩
theorem xF.put{ts:List cJ}{k j:Nat}{ps:List (Addr×Int×Int)}(h:xF ts k j ps)(hj:j<k)(c:Addr):xF ts k (j+1) (ps++[(c,lJ ts k+lJ ts j,((2^k+2^j:Nat):Int))]):=by
 refine⟨fun q hq=>?_,?_,fun k' j' p=>?_⟩
 ·rcases List.mem_append.mp hq with z|z
  ·obtain⟨k',j',p,e⟩:=h.of q z;exact⟨k',j',by unfold Cz at p ⊢;lia,e⟩
  ·rw[List.mem_singleton.mp z];exact⟨k,j,by unfold Cz;lia,rfl⟩
 ·rw[List.map_append];refine List.nodup_append.mpr ⟨h.nd,List.pairwise_singleton _ _,fun x hx y hy e=>?_⟩
  obtain⟨q,hq,rfl⟩:=List.mem_map.mp hx;obtain⟨k',j',p,e2⟩:=h.of q hq;have hy:y=((2^k+2^j:Nat):Int):=by simpa using hy
  rw[e2,hy]at e;have e:((2^k'+2^j' : Nat):Int)=((2^k+2^j:Nat):Int):=e;unfold Cz at p;obtain⟨e3,e4⟩:=Cj p.1 hj (Int.ofNat.inj e)
  lia
 ·rw[List.map_append]
  by_cases z:k' = k/\j' = j
  ·rw[z.1,z.2];exact lj _ (by simp)
  ·exact EH _ (h.all k' j' (by unfold Cz at p ⊢;lia))
theorem xF.ring{ts:List cJ}{g:aB 2 ts}{k j:Nat}{ps:List (Addr×Int×Int)}(h:xF ts k j ps)(hk:k<ts.length\/(k<=ts.length/\j=0)){q:Addr×Int×Int}(hq:q∈ps):∃ r:Nat,q.2=(lenOf ts r,(r:Int))/\r<2^ts.length/\g.N.Ring r:=by
 obtain⟨k',j',p,e⟩:=h.of q hq;unfold Cz at p;obtain⟨r1,r2⟩:=RM.BH (N:=g.N) rfl p.1 (show k'<ts.length by lia)
 refine⟨2^k'+2^j',?_,r2,r1⟩;rw[e,wD r2,RM.BJ p.1 (by lia)]
theorem xF.few{ts:List cJ}{g:aB 2 ts}{k j:Nat}{ps:List (Addr×Int×Int)}(h9:ts.length<=9)(h:xF ts k j ps)(hk:k<ts.length\/(k<=ts.length/\j=0)):ps.length<64:=by
 have:=RM.lM (N:=g.N) (l:=ps.map fun q=>q.2.2.toNat) h9 ?_ fun m hm=>?_
 ·rwa [List.length_map]at this
 ·have nd:=h.nd;refine List.pairwise_map.mpr (List.Pairwise.imp_of_mem (fun {x y} hx hy hne e=>hne ?_) (List.pairwise_map.mp nd))
  obtain⟨r,e1,_⟩:=h.ring (g:=g) hk hx;obtain⟨r',e2,_⟩:=h.ring (g:=g) hk hy;rw[e1,e2]at e ⊢;have e:(r:Int).toNat=(r' : Int).toNat:=e;show(r:Int)=(r' : Int)
  lia
 ·obtain⟨q,hq,rfl⟩:=List.mem_map.mp hm;obtain⟨r,e1,e2,e3⟩:=h.ring (g:=g) hk hq;rw[e1];show(r:Int).toNat<_/\_;rw[Int.toNat_natCast];exact⟨e2,e3⟩
theorem Ck{p:Nat}{ts:List cJ}{g:aB p ts}(h9:ts.length<=9){ps ps' : List (Addr×Int×Int)}(h1:∀ q∈ps,∃ r:Nat,q.2=(lenOf ts r,(r:Int))/\r<2^ts.length/\g.N.Ring r)(nd:(ps.map (·.2.2)).Nodup)
 (yZ:∀ r:Nat,r<2^ts.length->g.N.Ring r->(r:Int)∈ps.map (·.2.2)) (hp:ps'.Perm ps) (hw:ps'.Pairwise (fun x y=>kx x.2<=kx y.2)):qQ p ts g (ps'.map fun q=>q.2.2.toNat)/\∀ q∈ps',q.2.2=((q.2.2.toNat:Nat):Int):=by
 have big:(2:Nat)^ts.length<=2^9:=Nat.pow_le_pow_right (by decide) h9
 have JH:(ps'.map (·.2.2)).Nodup:=(hp.map _).nodup_iff.mpr nd;have mem:∀ q∈ps',∃ r:Nat,q.2=(lenOf ts r,(r:Int))/\r<2^ts.length/\g.N.Ring r:=fun q hq=>h1 q (hp.mem_iff.mp hq)
 refine⟨⟨?_,?_,fun r=>⟨fun hr=>?_,fun hr=>?_⟩⟩,fun q hq=>?_⟩
 ·rw[List.pairwise_map];refine List.Pairwise.imp_of_mem (fun {x y} hx hy h=>?_) hw
  obtain⟨r,e1,b1,_⟩:=mem x hx;obtain⟨r',e2,b2,_⟩:=mem y hy;rw[e1,e2]at h ⊢;unfold kx at h;show jO ts ((r:Int).toNat) ((r' : Int).toNat);rw[Int.toNat_natCast,Int.toNat_natCast];unfold jO;have h:lenOf ts r*1073741824+(r:Int)<=lenOf ts r'*1073741824+(r' : Int):=h
  lia
 ·refine List.pairwise_map.mpr (List.Pairwise.imp_of_mem (fun {x y} hx hy hne e=>hne ?_) (List.pairwise_map.mp JH))
  obtain⟨r,e1,_⟩:=mem x hx;obtain⟨r',e2,_⟩:=mem y hy;rw[e1,e2]at e ⊢;have e:(r:Int).toNat=(r' : Int).toNat:=e;show(r:Int)=(r' : Int)
  lia
 ·obtain⟨q,hq,rfl⟩:=List.mem_map.mp hr;obtain⟨r,e1,e2,e3⟩:=mem q hq;rw[e1];show(r:Int).toNat<_/\_;rw[Int.toNat_natCast];exact⟨e2,e3⟩
 ·have:=(hp.map (·.2.2)).mem_iff.mpr (yZ r hr.1 hr.2);obtain⟨q,hq,e⟩:=List.mem_map.mp this;exact List.mem_map.mpr ⟨q,hq,by rw[e,Int.toNat_natCast]⟩
 ·obtain⟨r,e1,_⟩:=mem q hq;rw[e1];show(r:Int)=(((r:Int).toNat:Nat):Int);rw[Int.toNat_natCast]
def xG:Sp:=fun vs H Q _=>∃ w ts,∃ g:aB 2 ts,vs=[.ref w]/\bg H w 2 ts/\ts.length<=9/\∀ D l H',H D=none->aq H H'->H' D=some (.lst (aJ l))->qQ 2 ts g l->Q (.ref D) H'
theorem jS:Ok T T.jL 1 xG:=by
 refine T.jL.ok eK fun _ A _ s H vs Q E hr h=>?_
 ·obtain⟨wb,ts,g,rfl,hw,h9,qq⟩:=h;refine⟨_,(aj (aG (i:=1) eK.nd rfl (Or.inl rfl) (dQ ae))
   (aj (gP PassesOwn.never rfl (bq (by rfl) T.bH (aa (bT K T.c5 (aa (aH (cA K) (pv 0) ah) ae)) ae)) (bU 2 eK.nd)
   (au (gP PassesOwn.never rfl (bq (by rfl) T.bH (aa (pv 2) ae)) (bU 3 eK.nd)
   (aj (aG (i:=4) eK.nd rfl (Or.inl rfl) (aE bZ (aE l5 ah (pv 2)) (aE l5 ah (pv 3))))
   (au (bR (F8 K (oH PySem.F.plainAttrs_list PySem.F.slot_list_append PySem.F.type_list_append eY (pv 1) (aa (eg (aa (aE bZ (aH (cA K) (aH (cA K) (aH (cA K) (pv 0) ah) (pv 2)) ah) (aH (cA K) (aH (cA K) (aH (cA K) (pv 0) ah) (pv 3)) ah)) (aa (pv 4) ae))) ae)))))))))
   (au (aI (bA (own:=["pair"]) (fq:=[]) (js:=[]) (aF (ai gI) ["web","found","k","j","some"]) rfl (q9 K (bE (uX K) (by rfl) T.p9 PyProof.Rows.boot_sorted (aa (pv 1) ae))) (fun _ _ _ _=>(bU 0 (mF ["pair"]))) (fun _ _ _ _=>cg) (fun _ _ _ _=>(aH (cA K) (pv 0) ah))))))),?_⟩
  refine sS ?_;intro c9 eS fM jg ny;obtain⟨bt,xs,h1,h2,h3⟩:=id hw.ex;have xx:=h3.length;have big:(2:Nat)^ts.length<=2^9:=Nat.pow_le_pow_right (by decide) h9
  refine⟨dl rfl,fun F hF=>?_⟩
  have s1:aq H (upd H F (.lst [])):=aq.new hF;have IW:upd H F (.lst []) F=some (.lst []):=af;generalize upd H F (.lst [])=H1 at s1 IW;refine(av rfl (c8 (bB.of (s1 _ _ h1)) (ak (j:=1) rfl) (pQ rfl (.inr (bB.of (s1 _ _ h2))) (av rfl ⟨(by lia),(by lia),?_⟩))))
  refine cQ (lo:=0) (n:=(xs.length:Int).toNat) (fun k σ H2=>∃ ps v2 v3 v4,σ=[some (.ref wb),some (.ref F),v2,v3,v4]/\aq H H2/\H2 F=some (.lst (ps.map fun q=>V.ref q.1))/\(∀ q∈ps,H2 q.1=some (.tup [.int q.2.1,.int q.2.2]))/\xF ts k 0 ps) ⟨[],none,none,none,rfl,s1,IW,(fun q hq=>nomatch hq),xF.start ts⟩ ?_ ?_
  ·rintro k D' σ H2 hk ⟨ps,v2,v3,v4,rfl,s2,Am,vS,P2⟩;rw[Int.zero_add];rw[Int.toNat_natCast]at hk;have kM:k<ts.length:=by lia
   obtain⟨ck,PD,hck⟩:=pD (g:=g) h3 kM;refine(av rfl (av rfl ⟨(by lia),(by lia),?_⟩))
   refine cQ (lo:=0) (n:=(k:Int).toNat) (fun j σ H3=>∃ ps v3 v4,σ=[some (.ref wb),some (.ref F),some (.int (k:Int)),v3,v4]/\aq H H3/\H3 F=some (.lst (ps.map fun q=>V.ref q.1))/\(∀ q∈ps,H3 q.1=some (.tup [.int q.2.1,.int q.2.2]))/\xF ts k j ps) ⟨ps,_,_,rfl,s2,Am,vS,P2⟩ ?_ ?_
   ·rintro j D2 σ H3 hj ⟨ps,v3,v4,rfl,s3,GR,vS,P3⟩;rw[Int.zero_add];rw[Int.toNat_natCast]at hj;obtain⟨cj,PF,PJ⟩:=pD (g:=g) h3 (show j<ts.length by lia)
    have pl:=P3.few (g:=g) h9 (.inl kM);refine(av rfl (bW ⟨⟨by lia,by lia,by decide⟩,av rfl (bW ⟨⟨by lia,by lia,by decide⟩,bW (?_)⟩)⟩))
    refine(av rfl ⟨.inl ⟨rfl,_,aR.of GR⟩,av rfl (c8 (bB.of (s3 _ _ h1)) (ak (j:=1) rfl) (av rfl (c8 (bB.of (s3 _ _ h2)) (ak (j:=k) PD) (c8 (bB.of (s3 _ _ hck)) (ak (j:=2) rfl) (av rfl (c8 (bB.of (s3 _ _ h1)) (ak (j:=1) rfl) (av rfl (c8 (bB.of (s3 _ _ h2)) (ak (j:=j) PF) (c8 (bB.of (s3 _ _ PJ)) (ak (j:=2) rfl) (bW (av rfl ⟨dl rfl,fun c hc=>?_⟩)))))))))))⟩)
    have ev:(1:Int)*2^((k:Nat):Int).toNat+1*2^((j:Nat):Int).toNat=((2^k+2^j:Nat):Int):=by
     rw[lI,lI];rfl
    dsimp only;rw[ev];have s4:aq H3 (upd H3 c (.tup [.int ((bz ts k).2.2+(bz ts j).2.2),.int ((2^k+2^j:Nat):Int)])):=aq.new hc;have PK:=s4 _ _ GR;have LK:c≠F:=fun z=>by rw[z,GR]at hc;cases hc
    have LL:∀ q∈ps,q.1≠F:=fun q hq z=>by
     have:=vS q hq;rw[z,GR]at this;cases this
    refine⟨F,_,_,rfl,rfl,PK,e7 (by rw[List.length_map];lia),?_⟩
    refine⟨ps++[(c,lJ ts k+lJ ts j,((2^k+2^j:Nat):Int))],_,_,rfl,(s3.trans s4).put hF,?_,fun q hq=>?_,P3.put hj c⟩
    ·rw[af,List.map_append];rfl
    ·rcases List.mem_append.mp hq with z|z
     ·rw[ao (LL q z)];exact s4 _ _ (vS q z)
     ·rw[List.mem_singleton.mp z,ao LK];exact af
   ·rintro σ H3 ⟨ps,v3,v4,rfl,s3,GR,vS,P3⟩;rw[Int.toNat_natCast]at P3;exact⟨ps,_,_,_,rfl,s3,GR,vS,P3.row⟩
  ·rintro σ H2 ⟨ps,v2,v3,v4,rfl,s2,Am,vS,P2⟩;rw[Int.toNat_natCast,xx]at P2;have pl:=P2.few (g:=g) h9 (.inr ⟨Nat.le_refl _,rfl⟩);have rg:∀ q∈ps,∃ r:Nat,q.2=(lenOf ts r,(r:Int))/\r<2^ts.length/\g.N.Ring r:=fun q hq=>P2.ring (g:=g) (.inr ⟨Nat.le_refl _,rfl⟩) hq
   have mem:∀ q∈ps,BD q.2:=fun q hq=>by
    obtain⟨r,e,h,_⟩:=rg q hq;rw[e];unfold BD;show 0<=(r:Int)/\(r:Int)<1073741824
    lia
   refine(av rfl ⟨F,ps,rfl,aR.of Am,vS,mem,pl,fun l ps' hl pm pw=>?_⟩)
   obtain⟨rl,nat⟩:=Ck (g:=g) h9 rg P2.nd (fun r h4 h5=>by
    obtain⟨j,k,h6,h7,rfl⟩:=RM.BI (N:=g.N) rfl h4 h5;exact P2.all k j ⟨h6,.inl h7⟩) pm pw
   have s3:aq H2 (upd H2 l (.lst (ps'.map fun q=>V.ref q.1))):=aq.new hl
   have Gu:upd H2 l (.lst (ps'.map fun q=>V.ref q.1)) l=some (.lst (ps'.map fun q=>V.ref q.1)):=af
   generalize upd H2 l (.lst (ps'.map fun q=>V.ref q.1))=H3 at s3 Gu
   have PB:=pm.length_eq;refine⟨l,rfl,⟨_,aR.of Gu⟩,fun D hD=>bD (K:=K) (a:=l) (xs:=ps'.map fun q=>V.ref q.1) (fun i acc H4=>aq H3 H4/\H4 D=some (.lst acc)/\acc=aJ ((ps'.take i).map fun q=>q.2.2.toNat)) ⟨aq.new hD,af,rfl⟩ (fun i acc H4 _ z=>⟨aR.of (z.1 _ _ Gu),z.2.1,by rw[z.2.2,aN,List.length_map,List.length_take];lia⟩) (Nat.le_of_lt (e7 (by rw[List.length_map];lia))) ?_ ?_⟩
   ·rintro i x acc H4 hx ⟨s4,nL,rfl⟩;rw[List.getElem?_map]at hx;obtain⟨q,hq,rfl⟩:=DW.mp hx;have hm:=vU hq;have LM:=(s3.trans s4) _ _ (vS q (pm.mem_iff.mp hm));refine⟨rfl,av rfl (c8 (bB.of LM) (ak (j:=1) rfl) ⟨nL,s4.put hD,af,?_⟩)⟩;rw[take3 hq,List.map_append,List.map_singleton,dR,<-nat q hm]
   ·rintro acc H4 ⟨s4,nL,rfl⟩;rw[List.length_map,List.take_length]at nL;exact qq D _ H4 ((s2.trans s3).free hD) ((s2.trans s3).trans s4) nL rl
theorem rT{K:bw}{H:Hp}:∀ l:List Int,DatVs K H (l.map V.int) (l.map PyData.int)
 | []=>.nil
 | x::r=>.cons (.int x) (rT r)
theorem lay_ints:∀ l:List Int,PyData.canLayAll0 (l.map PyData.int)=true
 | []=>rfl
 | x::r=>by
   have ih:=lay_ints r;have e:(PyData.int x).canLay0=true:=by simp[PyData.canLay0]
   simp only[List.map_cons,PyData.canLayAll0,ih,Bool.and_true,e]
theorem rV:∀ l:List Int,PyData.depthAll (l.map PyData.int)=0
 | []=>rfl
 | x::r=>by
   show max (PyData.depth (PyData.int x)) (PyData.depthAll (r.map PyData.int))=0;rw[rV r];rfl
theorem shaped_ints(l:List Int):SeqAt.shaped (.list (l.map PyData.int))=true:=by
 unfold SeqAt.shaped;have e:(PyData.list (l.map PyData.int)).canLay0=PyData.canLayAll0 (l.map PyData.int):=by simp[PyData.canLay0]
 rw[e,lay_ints,Bool.true_and];refine cN ?_;have e2:PyData.depth (PyData.list (l.map PyData.int))=PyData.depthAll (l.map PyData.int)+1:=by simp[PyData.depth]
 rw[e2,rV]
 lia
theorem vI(l:List Int):(PyData.list (l.map PyData.int)).canLay0=true:=by
 have e:(PyData.list (l.map PyData.int)).canLay0=PyData.canLayAll0 (l.map PyData.int):=by simp[PyData.canLay0]
 rw[e,lay_ints]
theorem ko{K:bw}{H:Hp}(l:List Nat):DatVs K H (aJ l) ((l.map fun x=>((x:Nat):Int)).map PyData.int):=by
 have e:aJ l=(l.map fun x=>((x:Nat):Int)).map V.int:=kO l
 rw[e];exact rT _
def tW(K:bw)(tb:nv):Sp:=fun vs H Q _=>∃(a:Addr) (ns:List Int),vs=[.ref a]/\aR K H a (ns.map V.int)/\ns.length<=63/\TabsAt tb H/\∀ H',Q (.bl true) H'
theorem Jc:Ok T T.EA 14 (tW K [(a.dY,zC "by_length",cU)]):=by
 have m7:=m7 T;have cI:=cI T;have cf:=cf T;have fL:=fL T;have jR:=jR T;have g8:=g8 T;have jS:=jS T;have bK:=bK T;refine T.EA.ok iW fun _ A _ s H vs Q E hr h=>?_
 ·obtain⟨b,ns,rfl,hS,hn,hT,fin⟩:=h;have PL:=hT _ List.mem_cons_self;refine⟨_,(aj (aG (i:=1) iW.nd rfl (Or.inl rfl) (aD m7 hr T.mZ.c aL (aa (pv 0) (aa ah (aa ah ae)))))
   (aj (aG (i:=2) iW.nd rfl (Or.inl rfl) (aD fL hr T.fK.c aL (aa (pv 1) ae)))
   (aj (gP PassesOwn.never rfl (bq (by rfl) T.bH (aa ah ae)) (bU 3 iW.nd)
   (aj (aG (i:=4) iW.nd rfl (Or.inl rfl) (aD bK hr T.dZ.c rf (aa (pv 1) ae)))
   (aj (bY (PW.pt (ue (jo (eW (bE (Ft K) (by rfl) T.cy PyProof.Rows.boot_isinstance (aa (pv 4) (aa (x9 (by rfl) T.xo PyProof.Rows.boot_list) ae))))) (ue (aP (Fq K hr.units) (pv 4) (pv 2) (aM _)) (rW (aP qT (bT K T.c5 (aa (bA (own:=["ring"]) (fq:=[]) (js:=[]) (aF (ai rQ) ["script","web","due","turn","found","head","many","ties","wide"]) rfl (q9 K (pv 4)) (fun _ _ _ _=>(bU 0 (mF ["ring"]))) (fun _ _ _ _=>(fk (jo (eW (aD jR hr T.jK.c aL (aa (pv 0) ae)))))) (fun _ _ _ _=>(pv 0))) ae)) ah (aM _)))))) (au (aI ud)) aZ)
   (au (bR (F8 K (oH PySem.F.plainAttrs_list PySem.F.slot_list_append PySem.F.type_list_append eY (pv 4) (aa ah ae))))))))
   (aj (aG (i:=5) iW.nd rfl (Or.inr rfl) (aD cI hr T.fB.c aL (aa (pv 0) (aa ah ae))))
   (aj (aG (i:=6) iW.nd rfl (Or.inl rfl) (aE bZ ah (aE bM (aE jW (pv 5) ah) ah)))
   (aj (nU (i:=7) iW.nd rfl rfl (own:=["k"]) (fq:=["head"]) (js:=[5]) (aF (ai rQ) ["script","web","due","turn","found","head","many","ties","wide"]) rfl (bq (by rfl) T.bH (aa (pv 6) ae)) (fun _ _ _ _=>(bU 0 (mF ["k","head"]))) (fun _ _ _ _=>cg) (fun _ _ _ _=>(aE Ii (aH (k9 K) (dQ (aa (eg (aa ah (aa ah ae))) (aa (eg (aa ah (aa ah ae))) ae))) (aE bM (aD cf hr T.ef.c aL (aa (pv 1) (aa (pv 0) ae))) ah)) (eg (aa (aE bZ ah (aE bM (aD cf hr T.ef.c aL (aa (pv 1) (aa (aE bZ ah (pv 0)) ae))) ah)) ae)))))
   (aj (aG (i:=8) iW.nd rfl (Or.inr rfl) (eg (aa ah (aa (cF (Eg K) (by rfl) T.yD PyProof.Rows.boot_tuple (aa (pv 7) ae)) ae))))
   (aj (bY (aP xS (pv 6) ah (aM _)) (au (aI (cR (AV K hr.units) (aD bK hr T.dZ.c rf (aa (pv 8) ae)) (aD jS hr T.jL.c aL (aa (pv 8) ae)) (aM _)))) aZ)
   (au (aI (cR cC (bT K T.c5 (aa (bA (own:=["way"]) (fq:=["wide"]) (js:=[8]) (aF (ai rQ) ["script","web","due","turn","found","head","many","ties","wide"]) rfl (bq (by rfl) T.bH (aa ah ae)) (fun _ _ _ _=>(bU 0 (mF ["way","wide"]))) (fun _ _ _ _=>(fk (jo (eW (aD g8 hr T.g6.c aL (aa (pv 1) (aa (pv 0) ae))))))) (fun _ _ _ _=>(pv 0))) ae)) ah (aM _)))))))))))),?_⟩
  refine Ga ?_;intro c9 eS fM jg ny u3 u4 yz BK BL BN zM BO;refine(av rfl ⟨b,ns,9,8,rfl,hS,hn,by decide,fun wb p ts H1 s1 g p2 p6 RP hw=>?_⟩)
  have htb:=s1 _ _ PL;have h8:∀{p:Nat} {ts:List cJ} (g:aB p ts),ts.length<=9->g.N.ay.length<=8:=fun {p ts} g h=>by
   by_cases h0:0<g.N.n
   ·have:=RM.zH h0;have h2:g.N.n=ts.length:=rfl
    lia
   ·have h1:g.N.ay.length<=(List.range g.N.n).length:=List.length_filter_le ..;rw[List.length_range]at h1
    lia
  refine(av rfl ⟨wb,p,ts,g,rfl,hw,by lia,fun Du l H2 Gg s2 hL R=>?_⟩)
  have RQ:=R.few (by lia)
  refine(av rfl ⟨(by decide),(by decide),?_⟩)
  refine cQ (lo:=0) (n:=(2:Int).toNat) (fun i σ H7=>∃ v3 v4,σ=[some (.ref b),some (.ref wb),some (.ref Du),v3,v4,none,none,none,none]/\aq H1 H7/\H7 Du=some (.lst (aJ l))) ⟨none,none,rfl,s2,hL⟩ ?_ ?_
  ·rintro i D' σ H7 hi ⟨v3,v4,rfl,s7,LN⟩;refine(av rfl ⟨wb,p,ts,g,rfl,hw.same s7,s7 _ _ htb,.inl ⟨h8 g (by lia),by lia,fun D l' H8 hD s8 Ff R'=>?_⟩⟩)
   obtain rfl:l' = l:=R'.uniq R;have GS:=s8 _ _ LN;have PM:Du≠D:=fun z=>by rw[<-z,LN]at hD;cases hD
   have Ar:H1 D=none:=s7.free hD;refine(av rfl ⟨_,_,_,_,_,rfl,rfl,.lst Ff,Fp K,_,rfl,g9 ?_⟩);refine(av rfl (av rfl ⟨_,_,.lst (aR.of Ff) (ko _),.lst (aR.of GS) (ko _),shaped_ints _,shaped_ints _,_,rfl,?_⟩));rw[SeqAt.eqv_refl _ (vI _)];refine g9 ?_;refine(av rfl ⟨D,rfl,⟨_,aR.of Ff⟩,fun D2 sL=>bD (K:=K) (a:=D) (xs:=aJ l') (fun i acc H9=>aq H8 H9/\H9 D2=some (.lst acc)/\acc=[]) ⟨aq.new sL,af,rfl⟩ (fun i acc H9 _ z=>⟨aR.of (z.1 _ _ Ff),z.2.1,by rw[z.2.2];exact Nat.zero_le _⟩) (Nat.le_of_lt (e7 (by rw[aN];lia))) ?_ ?_⟩)
   ·rintro n y acc H9 hy ⟨s9,LO,rfl⟩;obtain⟨x,_,rfl⟩:=fW hy;exact⟨rfl,av rfl (av rfl (av rfl ⟨s9,LO,rfl⟩))⟩
   rintro acc H9 ⟨s9,LO,rfl⟩;refine(pQ rfl (.inl (aR.of LO)) (bW (av rfl (lA (fun z=>absurd (kr z) (by decide)) (fun _=>?_)))))
   have Jd:=s9 _ _ Ff;refine(av rfl ⟨(.inl ⟨rfl,_,aR.of Jd⟩),D,_,_,rfl,rfl,Jd,e7 (by rw[aN];lia),?_⟩)
   exact⟨_,_,rfl,((s7.trans s8).trans s9).put Ar,by rw[ao PM];exact s9 _ _ GS⟩
  rintro σ H7 ⟨v3,v4,rfl,s7,LN⟩;refine(av rfl ⟨b,ns,0,rfl,(by decide),(s1.trans s7).seq hS,fun z0=>?_⟩)
  refine(av rfl (bW ⟨⟨by decide,by decide⟩,bW ⟨(iD rfl),bW (?_)⟩⟩))
  have m1:0<=z0/30%16:=Int.emod_nonneg _ (by decide)
  have m2:z0/30%16<16:=Int.emod_lt_of_pos _ (by decide)
  generalize z0/30%16=mz at m1 m2;refine(av rfl (av rfl ⟨(by lia),(by lia),fun X hX=>cu (lo:=0) (m:=(9+mz).toNat) (fun i acc H8=>aq H7 H8/\H8 X=some (.lst acc)/\∃ yG:List cJ,Paired (TupAt H8) acc yG/\yG.length=i/\∀ t∈yG,jY ((2:Nat):Int) t) ⟨aq.new hX,af,[],.nil,rfl,(fun t ht=>nomatch ht)⟩ (fun i acc H8 _ z=>⟨z.2.1,?_⟩) (Nat.le_of_lt (e7 (by lia))) ?_ ?_⟩))
  ·obtain⟨yG,e1,e2,_⟩:=z.2.2;rw[e1.length]
   lia
  ·rintro i acc H8 hi ⟨s8,GS,yG,pr,tl,gt⟩;rw[Int.zero_add];refine⟨rfl,dl rfl,fun c1 hc1=>?_⟩
   have t1:aq H8 (upd H8 c1 (.tup [.int 0,.int 1])):=aq.new hc1;have Je:upd H8 c1 (.tup [.int 0,.int 1]) c1=some (.tup [.int 0,.int 1]):=af;generalize upd H8 c1 (.tup [.int 0,.int 1])=H9 at t1 Je;refine⟨dl rfl,fun c2 hc2=>?_⟩
   have t2:aq H9 (upd H9 c2 (.tup [.int 1,.int 0])):=aq.new hc2;have Jf:upd H9 c2 (.tup [.int 1,.int 0]) c2=some (.tup [.int 1,.int 0]):=af;generalize upd H9 c2 (.tup [.int 1,.int 0])=Cm at t2 Jf;refine⟨dl rfl,fun L hL=>?_⟩
   have t3:aq Cm (upd Cm L (.lst [.ref c1,.ref c2])):=aq.new hL;have MX:upd Cm L (.lst [.ref c1,.ref c2]) L=some (.lst [.ref c1,.ref c2]):=af;generalize upd Cm L (.lst [.ref c1,.ref c2])=Gv at t3 MX;refine(av rfl (av rfl ⟨_,(i:Int),rfl,by lia,by lia,fun z1 _ _=>?_⟩))
   obtain⟨e,x,y,ee,he,hxy⟩:∃ e x y,xV [V.ref c1,.ref c2] (z1%2)=some (V.ref e)/\Gv e=some (.tup [.int x,.int y])/\((x=0/\y=1)\/(x=1/\y=0)):=by
    have h:z1%2=0\/z1%2=1:=by lia
    rcases h with h|h
    ·exact⟨c1,0,1,by rw[h];exact ak (j:=0) rfl,(t2.trans t3) _ _ Je,.inl ⟨rfl,rfl⟩⟩
    ·exact⟨c2,1,0,by rw[h];exact ak (j:=1) rfl,t3 _ _ Jf,.inr ⟨rfl,rfl⟩⟩
   refine(bW ⟨(iD rfl),kQ (aR.of MX) (ee) (?_)⟩);refine(av rfl (av rfl (bW ⟨_,30+(i:Int),rfl,by lia,by lia,fun z2 _ _=>(bW ⟨(iD rfl),bW ⟨dl rfl,fun c3 hc3=>?_⟩⟩)⟩)))
   have t4:aq Gv (upd Gv c3 (.tup [.int (1+z2%5)])):=aq.new hc3;have Jg:upd Gv c3 (.tup [.int (1+z2%5)]) c3=some (.tup [.int (1+z2%5)]):=af;generalize upd Gv c3 (.tup [.int (1+z2%5)])=H12 at t4 Jg;have PN:=((t1.trans t2).trans t3).trans t4;refine⟨e,c3,_,_,rfl,rfl,t4 _ _ he,Jg,dl rfl,fun q PR t5 hq=>?_⟩
   have LP:=PN.trans t5;have Gw:=LP _ _ GS;have l1:0<=z2%5:=Int.emod_nonneg _ (by decide)
   have l2:z2%5<5:=Int.emod_lt_of_pos _ (by decide)
   have te:TupAt PR (.ref q) (x,y,1+z2%5):=⟨q,rfl,hq⟩;refine⟨Gw,(s8.trans LP).put hX,af,yG++[(x,y,1+z2%5)],?_,by rw[List.length_append,tl];rfl,fun t ht=>?_⟩
   ·exact Paired.snoc (Paired.imp' (fun _ _ z=>TupAt.tups (LP.tups.trans (jt.put Gw)) z) pr) (TupAt.tups (jt.put Gw) te)
   ·rcases List.mem_append.mp ht with z|z
    ·exact gt t z
    ·rw[List.mem_singleton.mp z];rcases hxy with⟨rfl,rfl⟩|⟨rfl,rfl⟩
     ·exact⟨by show(0:Int)<=0;decide,by show(0:Int)<2;decide,by show(0:Int)<=1;decide,by show(1:Int)<2;decide,by show(0:Int)≠1;decide,by show(1:Int)<=1+z2%5;lia,by show 1+z2%5<=_;lia⟩
     ·exact⟨by show(0:Int)<=1;decide,by show(1:Int)<2;decide,by show(0:Int)<=0;decide,by show(0:Int)<2;decide,by show(1:Int)≠0;decide,by show(1:Int)<=1+z2%5;lia,by show 1+z2%5<=_;lia⟩
  rintro acc H8 ⟨s8,GS,yG,pr,tl,gt⟩;have g2:aB 2 yG:=⟨by decide,by decide,by lia,gt⟩
  refine(av rfl ⟨X,_,rfl,.inl ⟨aR.of GS,fun bb Lo=>⟨dl rfl,fun w' PU=>?_⟩⟩⟩)
  have u1:aq H8 (upd H8 bb (.tup acc)):=aq.new Lo;have u2:aq (upd H8 bb (.tup acc)) (upd (upd H8 bb (.tup acc)) w' (.tup [.int 2,.ref bb])):=aq.new PU;have W2:bg (upd (upd H8 bb (.tup acc)) w' (.tup [.int 2,.ref bb])) w' 2 yG:=⟨bb,acc,af,u2 _ _ af,Paired.imp' (fun _ _ z=>TupAt.tups (u1.trans u2).tups z) pr⟩
  have MY:=(s7.trans s8).trans (u1.trans u2);generalize upd (upd H8 bb (.tup acc)) w' (.tup [.int 2,.ref bb])=H9 at W2 MY;have Jh:=MY _ _ htb;refine(av rfl (bW (av rfl (lA (fun h=>?_) (fun h=>?_)))))
  ·have h:9+mz<10:=kr h;have l9:yG.length<=9:=by lia
   refine(av rfl ⟨w',2,yG,g2,rfl,W2,Jh,.inl ⟨h8 g2 l9,l9,fun D l1 Cm hD Ej Cn R1=>?_⟩⟩)
   refine(av rfl ⟨w',yG,g2,rfl,W2.same Ej,l9,fun D2 l2 Gv sL JY LQ R2=>?_⟩)
   obtain rfl:l2=l1:=R2.uniq R1;refine⟨_,_,.lst (aR.of (JY _ _ Cn)) (ko _),.lst (aR.of LQ) (ko _),shaped_ints _,shaped_ints _,?_⟩;rw[SeqAt.eqv_refl _ (vI _)];exact fin _
  ·have h : ¬ 9+mz<10:=fun z=>h (cN z)
   have rk:=RM.uZ (N:=g2.N) rfl;have RS:g2.N.n=yG.length:=rfl;refine(av rfl ⟨(by decide),(by decide),fun D hD=>cu (lo:=0) (m:=(4:Int).toNat) (fun i acc Cm=>aq H9 Cm/\Cm D=some (.lst acc)/\acc=[]) ⟨aq.new hD,af,rfl⟩ (fun i acc Cm _ z=>⟨z.2.1,by rw[z.2.2];exact Nat.zero_le _⟩) (eB (by decide)) ?_ ?_⟩)
   ·rintro i acc Cm hi ⟨Ej,Cn,rfl⟩;rw[Int.zero_add];exact⟨rfl,av rfl (av rfl ⟨w',2,yG,g2,i,rfl,W2.same Ej,Ej _ _ Jh,by lia,fun Gv JY=>(av rfl ⟨Ej.trans JY,JY _ _ Cn,rfl⟩)⟩)⟩
   ·rintro acc Cm ⟨Ej,Cn,rfl⟩;exact(pQ rfl (.inl (aR.of Cn)) ⟨rfl,fin _⟩)
end
section
variable {l:PySem.W.OpenLaw}{w:World}{K:bw}{h:Heap}{mg:jk}{fa f0 f1 f2 f3 f4 f5 f6 f7 f8 f9 MZ M0 M1 M3 M4 M5 M6 M7 M8 M9 Na Nb Nc Nd Nf Nh Ni Nj Nk Nl Nm Nn f32 Np Nq Nr Nt Nu Nv Nx Ny Nz NB NC ND NF NG NH NI NJ NK NL NO NP PV jT lU m8 kq br lV cZ:Addr}{d0 d1 d2 d3 d4 d5 d6 d7 d8 d9 PX PY PZ P0 P1 P4 P5 P6 P7 P8 P9 Qa Qc Qd Qe Qf Qg Qh Qi Qj Qk Ql Qm Qn Qo Qp Qq Qs Qt Qu Qv Qw Qx Qy Qz QA QB QC QD QE QF QG QH QI QJ:FuncData}{ts:List Addr}{vJ:Tok}
open PySem.W
theorem all_mk(X:K.In h)(G:h.Ns mainGlobals mg)(QK:mg "law"=some (.ref fa))(te:ts=[cZ])
 (d_RingError:nsIn K mainGlobals "RingError"=some (some (.ref jT)))
 (d_BadSet:nsIn K mainGlobals "BadSet"=some (some (.ref lU)))
 (d_NotRing:nsIn K mainGlobals "NotRing"=some (some (.ref m8)))
 (d_NoChord:nsIn K mainGlobals "NoChord"=some (some (.ref kq)))
 (d_TooMany:nsIn K mainGlobals "TooMany"=some (some (.ref br)))
 (xc_BadSet:excIn K lU [.type "ValueError",.type "Exception",.type "BaseException",.type "object"] "ValueError.__new__"=true)
 (xc_NoChord:excIn K kq [.type "ValueError",.type "Exception",.type "BaseException",.type "object"] "ValueError.__new__"=true)
 (xc_TooMany:excIn K br [.type "ValueError",.type "Exception",.type "BaseException",.type "object"] "ValueError.__new__"=true)
 (ea_TooMany:findIn K (.ref br) "__getattribute__"=some (some (.builtin "BaseException.__getattribute__"))) (eb_TooMany:findIn K (.ref br) "__getattr__"=some none)
 (ec_TooMany:findIn K (.ref br) "__class__"=some (some (.builtin "object.__class__"))) (ed_TooMany:specialIn K (.builtin "object.__class__") "__get__"=some (some (.builtin "getset_descriptor.__get__")))
 (ee_TooMany:takesIn K (.builtin "object.__class__")=some true) (ef_TooMany:mroIn K br (.type "object")=some true) (eg_TooMany:hasDictIn K br=true) (eh_TooMany:mroIn K br (.type "BaseException")=some true)
 (hx_TooMany:exmOne K (.ref br) (.ref jT)=some true)
 (qv_TooMany:kitOne K (.ref br) (.type "ValueError")=some true)
 (q_TooMany_BadSet:kitOne K (.ref br) (.ref lU)=some false)
 (q_TooMany_NotRing:kitOne K (.ref br) (.ref m8)=some false)
 (q_TooMany_NoChord:kitOne K (.ref br) (.ref kq)=some false)
 (q_TooMany_TooMany:kitOne K (.ref br) (.ref br)=some true)
 (nt:noTabs K=true) (pn:([cZ]:List Addr).Nodup) (pi:∀ p∈([cZ]:List Addr),p∈ts)
 (a0:Dk K "has_tie" mG f0 d0)
 (a1:Dk K "ties_in" kc f1 d1)
 (a2:Dk K "all_ties" kR f2 d2)
 (a3:Dk K "is_set" pR f3 d3)
 (a4:Dk K "check_set" jB f4 d4)
 (a5:Dk K "triples_in" fQ f5 d5)
 (a6:Dk K "length_of" gD f6 d6)
 (a7:Dk K "odd_points" fR f7 d7)
 (a8:Dk K "drawn_together" cT f8 d8)
 (a9:Dk K "pieces" lP f9 d9)
 (QL:Dk K "rank" wM MZ PX)
 (QM:Dk K "is_even" mH M0 PY)
 (QN:Dk K "forest_trails" dG M1 PZ)
 (QO:Dk K "forest" pS M3 P0)
 (QS:Dk K "chords" pT M4 P1)
 (QT:Dk K "ring_closed" gU M5 P4)
 (QU:Dk K "chord_ring" iK M6 P5)
 (QV:Dk K "is_ring" kh M7 P6)
 (QW:Dk K "is_ring_number" ik M8 P7)
 (QX:Dk K "check_ring" iL M9 P8)
 (NQ:Iw K "by_length" gF Na P9 lV cZ)
 (QY:Dk K "common" u5 Nb Qa)
 (QZ:Dk K "bears_oddly" kG Nc Qc)
 (Q0:Dk K "reduced" mK Nd Qd)
 (Q2:Dk K "with_row" pV Nf Qe)
 (Q3:Dk K "rows_of" mL Nh Qf)
 (Q4:Dk K "check_rank" iM Ni Qg)
 (Q5:Dk K "even_sets" gG Nj Qh)
 (Q6:Dk K "all_rings" gH Nk Qi)
 (Q7:Dk K "first_base" iN Nl Qj)
 (Q8:Dk K "shorter_rings" fH Nm Qk)
 (Q9:Dk K "other_rings" gW Nn Ql)
 (a32:Dk K "parts_of" kT f32 Qm)
 (Ra:Dk K "marks_against" fJ Np Qn)
 (Rb:Dk K "ring_paper" iO Nq Qo)
 (Rc:Dk K "is_sum_of" jD Nr Qp)
 (Rf:Dk K "all_rings_shorter" dc Nt Qq)
 (Rg:Dk K "all_rings_other" eH Nu Qs)
 (Rh:Dk K "marks_part" iP Nv Qt)
 (Ri:Dk K "paper_judged" gn Nx Qu)
 (Rj:Dk K "_law_cell_at" gX Ny Qv)
 (Rk:Dk K "_law_mixed" jF Nz Qw)
 (Rl:Dk K "_law_length" iR NB Qx)
 (Rm:Dk K "_law_tie" mQ NC Qy)
 (Rn:Dk K "_law_web" ff ND Qz)
 (Ro:Dk K "_law_whole" jG NF QA)
 (Rp:Dk K "_law_counts" iT NG QB)
 (Rq:Dk K "_law_pieces" eI NH QC)
 (Rr:Dk K "_law_even" iU NI QD)
 (Rt:Dk K "_law_ring" gp NJ QE)
 (Ru:Dk K "_law_long" iV NK QF)
 (Rv:Dk K "_law_all_rings" dH NL QG)
 (Rw:Dk K "_law_refused" gZ NO QH)
 (Rx:Dk K "_law_pairs" gI NP QI)
 (LR:Dk K "law" rQ PV QJ)
 (tX:Ng K "ValueError")
 (Ji:Ng K "all")
 (Jj:Ng K "any")
 (Gx:Ng K "bool")
 (vK:Ng K "enumerate")
 (Jk:Ng K "int")
 (tY:Ng K "isinstance")
 (Jl:Ng K "len")
 (Gy:Ng K "list")
 (Jm:Ng K "max")
 (Jo:Ng K "min")
 (DU:Ng K "range")
 (Jp:Ng K "set")
 (Co:Ng K "sorted")
 (Jq:Ng K "sum")
 (DV:Ng K "tuple")
 (Jr:Ng K "zip")
 (vL:nsIn K mainGlobals "MOST_RANK"=some (some (.int 8 vJ)))
 : ∃(fd:FuncData) (tb:nv),((tb.map (·.1)).Nodup/\noTabs K=true/\∀ p∈tb,p.1∈ts/\∃ c,codeHdIn K c p.1=true)/\(∀(s:Shared) (v:Value),BindsTo s fd ⟨[v],[]⟩ [("script",v)])/\∀ base:Heap,K.In base->base.Ns mainGlobals mg->jq l.prog w K mg base xZ 14 fa fd ["script"] (tW K tb):=by
 have e:=QK.symm.trans (mg_of X G LR.n);cases e;have T:∀ base,Txt l.prog w base K mg ⟨f0,_,f1,_,f2,_,f3,_,f4,_,f5,_,f6,_,f7,_,f8,_,f9,_,MZ,_,M0,_,M1,_,M3,_,M4,_,M5,_,M6,_,M7,_,M8,_,M9,_,Na,_,Nb,_,Nc,_,Nd,_,Nf,_,Nh,_,Ni,_,Nj,_,Nk,_,Nl,_,Nm,_,Nn,_,f32,_,Np,_,Nq,_,Nr,_,Nt,_,Nu,_,Nv,_,Nx,_,Ny,_,Nz,_,NB,_,NC,_,ND,_,NF,_,NG,_,NH,_,NI,_,NJ,_,NK,_,NL,_,NO,_,NP,_,fa,_,jT,lU,m8,kq,br,lV,cZ⟩:=fun _=>⟨lg X G a0,wJ X G a1,wJ X G a2,lg X G a3,lg X G a4,lg X G a5,lg X G a6,lg X G a7,Ew X G a8,lg X G a9,wJ X G QL,lg X G QM,wJ X G QN,wJ X G QO,wJ X G QS,Ew X G QT,lg X G QU,lg X G QV,lg X G QW,lg X G QX,O6 X G NQ,lg X G QY,lg X G QZ,lg X G Q0,lg X G Q2,wJ X G Q3,wJ X G Q4,wJ X G Q5,wJ X G Q6,wJ X G Q7,lg X G Q8,lg X G Q9,Ew X G a32,lg X G Ra,lg X G Rb,lg X G Rc,Ew X G Rf,Ew X G Rg,O5 X G Rh,Ew X G Ri,lg X G Rj,lg X G Rk,lg X G Rl,Ew X G Rm,Ew X G Rn,wJ X G Ro,lg X G Rp,lg X G Rq,lg X G Rr,lg X G Rt,lg X G Ru,wJ X G Rv,lg X G Rw,wJ X G Rx,wJ X G LR,mg_none_of X G tX.n,mg_none_of X G Ji.n,mg_none_of X G Jj.n,mg_none_of X G Gx.n,mg_none_of X G vK.n,mg_none_of X G Jk.n,mg_none_of X G tY.n,mg_none_of X G Jl.n,mg_none_of X G Gy.n,mg_none_of X G Jm.n,mg_none_of X G Jo.n,mg_none_of X G DU.n,mg_none_of X G Jp.n,mg_none_of X G Co.n,mg_none_of X G Jq.n,mg_none_of X G DV.n,mg_none_of X G Jr.n,⟨_,mg_of X G vL⟩,mg_of X G d_RingError,mg_of X G d_BadSet,mg_of X G d_NotRing,mg_of X G d_NoChord,mg_of X G d_TooMany,fun h1 X1 G1=>wj X1 G1 d_BadSet xc_BadSet,fun h1 X1 G1=>wj X1 G1 d_NoChord xc_NoChord,fun h1 X1 G1=>wj X1 G1 d_TooMany xc_TooMany,⟨ea_TooMany,eb_TooMany,ec_TooMany,ed_TooMany,ee_TooMany,ef_TooMany,eh_TooMany,FF eg_TooMany⟩,hx_TooMany,qv_TooMany,q_TooMany_BadSet,q_TooMany_NotRing,q_TooMany_NoChord,q_TooMany_TooMany⟩
 exact⟨_,[(cZ,zC "by_length",cU)],⟨pn,nt,fun p hp=>⟨pi _ (List.mem_map_of_mem (f:=(·.1)) hp),by simp only[List.mem_cons,List.not_mem_nil,or_false]at hp;rcases hp with rfl;all_goals first | exact⟨_,NQ.F.hd⟩⟩⟩,F9 LR,fun base _ _=>Jc (T base)⟩
end
theorem walk{l:PySem.W.OpenLaw}{q:Program}{loose:List Str}{XP:(Str->Option Value)->Heap->Prop}{YP:World->Heap->Prop}{d:DefRec}{K:Params->bw}{ts:List Addr}(hn:l.most=some 63)(HD:d.params.defaults=[])
 (hY:∀(w:World) (h:Heap),YP w h->(K w.params).In h/\∀ P∈ts,h.get? P=some (PySem.W.tabObj #[]))
 (F:∀(w:World) (mg:jk) (fa:Addr) (h:Heap),(K w.params).In h->h.Ns mainGlobals mg->mg d.name=some (.ref fa)->
  ∃(fd:FuncData) (tb:nv),((tb.map (·.1)).Nodup/\PySem.W.noTabs (K w.params)=true/\∀ p∈tb,p.1∈ts/\∃ c,PySem.W.codeHdIn (K w.params) c p.1=true)/\(∀(s:Shared) (u:Value),BindsTo s fd ⟨[u],[]⟩ [("script",u)])/\∀ base:Heap,(K w.params).In base->base.Ns mainGlobals mg->jq l.prog w (K w.params) mg base xZ 14 fa fd ["script"] (tW (K w.params) tb)) :
 PySem.W.WalkO q loose XP YP l.row.toRowW d [] (fun f vs=>PySem.call f vs) :=
 L2.BA (n:=63) (k:=14) (x:="script") (CX:=fun _=>xZ) (sp:=fun w=>tW (K w.params)) hn (by decide) HD ⟨rfl,by decide,by decide⟩ hY F (fun _ _ a ns tb hl hT hS=>⟨a,ns,rfl,hS,hl,hT,fun _=>rfl⟩) fun _ _ _ _ _ z=>z
end K33
namespace PySem.W.Fast
def tw3457591475606386304:=()
def tw9282996792550158051:=()
def tw3181611359093023503:=()
def tw14297633387462513612:=()
def tw7396863695198618339:=()
def tw10718019103178650204:=()
def tw3087912956415089251:=()
def tw594620410290591427:=()
def tw18204567357142889495:=()
def tw15679529510138314399:=()
def tw12532561464733542975:=()
def tw5065892459504750482:=()
def tw5545182355313907461:=()
def tw13009580073705946484:=()
def tw11673143905271884009:=()
def tw7215154389171759436:=()
def tw12137980702459067497:=()
def tw1740378556144914434:=()
def tw16174559217153124720:=()
def tw4946013076072667738:=()
def tw18006506391764404570:=()
def tw4190166238072763878:=()
def tw12686400029656628987:=()
def tw5104277550993353916:=()
def tw7530821140613927355:=()
def tw7673103172699802515:=()
def tw4658445571013320831:=()
def tw6181938900801597002:=()
def tw12787168486761918428:=()
def tw3060055826204582989:=()
def tw8876702884632056059:=()
def tw9326500719569403497:=()
def tw10701648600174003724:=()
def tw15633767989890228528:=()
def tw13303287411673592270:=()
def tw6033983436621031072:=()
def tw7804277263140362942:=()
def tw2047829452347849095:=()
def tw3705043509976127612:=()
def tw6088933646792475969:=()
def tw15517219671853689640:=()
def tw4567799172537517364:=()
def tw614890024121305373:=()
def tw14803569113199783248:=()
def tw11515901751351202367:=()
def tw9672282212368500383:=()
def tw5746155889833245512:=()
def tw12163518509513739063:=()
def tw8305699570230461588:=()
def tw16054152121999796975:=()
def tw2850890450647113032:=()
def tw15719194208609403271:=()
def tw3485981523969872750:=()
def tw756770288473984965:=()
def tw13660502440473835549:=()
def tw12027431958458180074:=()
def tw16141181107283841298:=()
def tw3232153833354685245:=()
def tw14238724774334576739:=()
def tw2428281454644044757:=()
def tw6063683648024807781:=()
def tw2750913495344413833:=()
def tw7938050773692396032:=()
def tw3102009859257641137:=()
def tw7010168927932271294:=()
def tw10672314313023926220:=()
def tw9531065034131961184:=()
def tw2308328793626929859:=()
def tw1668329051940348986:=()
def tw8028204326648622028:=()
def tw12952545295013346126:=()
def tw10847834195890154042:=()
def tw4034027034950138945:=()
def tw1499031954653317539:=()
def tw5632745250590968256:=()
def tw10210857357971998838:=()
def tw929660765369540342:=()
def tw9610266357230290355:=()
def tw17662789203127362943:=()
def tw16358811073614958318:=()
def tw2672837811609271862:=()
def tw17558086587231330832:=()
def tw10484982458914019776:=()
def tw3825352078725337335:=()
def tw12580926604162309714:=()
def tw4920319654858681938:=()
def tw4408717894778228019:=()
def tw4987110607249330525:=()
def tw13847101346261874932:=()
def tw3885512529969750972:=()
def tw9360401118505601600:=()
def tw12247156788729532830:=()
def tw9657499583043951247:=()
end PySem.W.Fast
open PySem PySem.W PyProof.Rows
set_option maxRecDepth 100000 in
set_option maxHeartbeats 0 in
theorem PySem.Challenge.cw_ringbase_k33_all_rings_told_holds : PySem.Challenge.rw_ringbase_k33_all_rings_told.Holds := by
 w_on;o_law;k_head;(case hw=>w_witness2)
 k_fill
 refine K33.walk (l:=PySem.Challenge.rw_ringbase_k33_all_rings_told) rfl rfl (fun w h Y=>⟨PySem.W.km_in_of Y,PySem.W.km_tabs_of Y⟩) ?F
 case F =>
  intro w mg fa h KX G hmg;refine' K33.all_mk KX G hmg ?te ?d_RingError ?d_BadSet ?d_NotRing ?d_NoChord ?d_TooMany ?xc_BadSet ?xc_NoChord ?xc_TooMany ?ea_TooMany ?eb_TooMany ?ec_TooMany ?ed_TooMany ?ee_TooMany ?ef_TooMany ?eg_TooMany ?eh_TooMany ?hx_TooMany ?qv_TooMany ?q_TooMany_BadSet ?q_TooMany_NotRing ?q_TooMany_NoChord ?q_TooMany_TooMany ?nt ?pn ?pi ..
  (case te=>exact rfl)
  (case d_RingError=>k_is)
  (case d_BadSet=>k_is)
  (case d_NotRing=>k_is)
  (case d_NoChord=>k_is)
  (case d_TooMany=>k_is)
  any_goals (refine' L2.dk ?ga ?gl ?gc ?gk;(case ga=>k_is);(case gl=>k_is);(case gc=>k_is);(case gk=>k_is))
  any_goals (refine' L2.O1 ?ga ?gl ?gc ?gk ?gd;(case ga=>k_is);(case gl=>k_is);(case gd=>kernel_rfl);(case gc=>k_is);(case gk=>k_is))
  any_goals (refine' L2.Ng.mk ?ga;(case ga=>k_is))
  (case xc_BadSet=>k_exc)
  (case xc_NoChord=>k_exc)
  (case xc_TooMany=>k_exc)
  (case ea_TooMany=>k_is)
  (case eb_TooMany=>k_is)
  (case ec_TooMany=>k_is)
  (case ed_TooMany=>k_is)
  (case ee_TooMany=>k_is)
  (case ef_TooMany=>k_is)
  (case eg_TooMany=>k_is)
  (case eh_TooMany=>k_is)
  (case hx_TooMany=>kts_exm)
  (case qv_TooMany=>kit_is)
  (case q_TooMany_BadSet=>kit_is)
  (case q_TooMany_NotRing=>kit_is)
  (case q_TooMany_NoChord=>kit_is)
  (case q_TooMany_TooMany=>kit_is)
  (case nt=>kernel_rfl)
  (case pn=>decide)
  (case pi=>decide)
  any_goals k_is
