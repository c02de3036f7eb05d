import PyProof.Rows.All
import Wide.All
import OpenK.AllK
import Wide.FinOn
import Lean
import PyProof.EqAt
import PyProof.EqKinds
import PyProof.TupleCall
import PySem.Challenge.RW_ringbase_k50_whole_rings_count_forests
set_option Elab.async false
set_option linter.all false
set_option maxRecDepth 100000
abbrev eG:=@decide_eq_true
abbrev ia:=@decide_eq_false
abbrev mG:=@of_decide_eq_true
abbrev pO:=@List.mem_append_right
abbrev vz:=@List.mem_cons_of_mem
abbrev nJ:=@List.mem_of_getElem?
abbrev zj:=@List.getElem?_eq_some_iff
abbrev J7:=@Option.map_eq_some_iff
abbrev br:=List (PySem.Addr×PySem.Obj)
abbrev iH:=PySem.Value->PySem.Shared->Prop
abbrev jY:=PySem.Str->Option PySem.Value
abbrev bY:=PySem.W.Frag
namespace L2
open PySem PySem.Spec PyProof.Rows
abbrev iX:=@wpAny_bind
abbrev Key:=Sum Int Str
def Jm:Key->Value->Bool
 | .inl k,v=>Value.isInt k v
 | .inr x,v=>Value.isStrOf x v
def Pz(w:World):Key->Int
 | .inl k=>hashInt k
 | .inr x=>hashStr w x
theorem cL:∀{k:Key} {v:Value},Jm k v=true->(∃ i t,k=Sum.inl i/\v=Value.int i t)\/(∃ x t,k=Sum.inr x/\v=Value.str x t)
 | .inl i,v,h=>by
   obtain⟨t,e⟩:=Value.isInt_shape (k:=i) (v:=v) h;exact .inl ⟨i,t,rfl,e⟩
 | .inr x,v,h=>by
   obtain⟨t,e⟩:=Value.isStrOf_shape (x:=x) (v:=v) h;exact .inr ⟨x,t,rfl,e⟩
theorem J8(a b:Int):decide ((Sum.inl a:Key)=Sum.inl b)=(a==b):=by
 by_cases e:a=b
 ·subst e;simp
 ·have h : ¬(Sum.inl a:Key)=Sum.inl b:=fun q=>e (Sum.inl.inj q)
  rw[ia h];exact(beq_eq_false_iff_ne.mpr e).symm
theorem J9(a b:Str):decide ((Sum.inr a:Key)=Sum.inr b)=decide (a=b):=by
 by_cases e:a=b
 ·subst e;simp
 ·have h : ¬(Sum.inr a:Key)=Sum.inr b:=fun q=>e (Sum.inr.inj q)
  rw[ia h,ia e]
theorem Ka(a:Int)(b:Str):decide ((Sum.inl a:Key)=Sum.inr b)=false:=ia (fun q=>nomatch q)
theorem Kc(a:Str)(b:Int):decide ((Sum.inr a:Key)=Sum.inl b)=false:=ia (fun q=>nomatch q)
def BX(prog:Program)(w:World):PySem.KeyKind prog w Key where
 is:=Jm
 hash:=Pz w
 inj:=fun v a b ha hb=>by
  rcases cL ha with⟨i,t,rfl,rfl⟩|⟨x,t,rfl,rfl⟩
  ·rcases cL hb with⟨j,u,rfl,e⟩|⟨y,u,rfl,e⟩
   ·injection e with e1 _;rw[e1]
   ·exact nomatch e
  ·rcases cL hb with⟨j,u,rfl,e⟩|⟨y,u,rfl,e⟩
   ·exact nomatch e
   ·injection e with e1 _;rw[e1]
 byValue:=fun k v h=>by
  rcases cL h with⟨i,t,rfl,rfl⟩|⟨x,t,rfl,rfl⟩<;>rfl
 pyHash:=fun hv h=>by
  rcases cL hv with⟨i,t,rfl,rfl⟩|⟨x,t,rfl,rfl⟩
  ·exact wpAny_pyHash_int h
  ·exact wpAny_pyHash_str h
 eqBool:=fun hu hv h=>by
  rcases cL hu with⟨i,t,rfl,rfl⟩|⟨x,t,rfl,rfl⟩
  ·rcases cL hv with⟨j,u,rfl,rfl⟩|⟨y,u,rfl,rfl⟩
   ·rw[J8]at h;exact wpAny_eqBool_int h
   ·rw[Ka]at h;exact SeqAt.EqAt.int_str i t y u _ _ _ _ h
  ·rcases cL hv with⟨j,u,rfl,rfl⟩|⟨y,u,rfl,rfl⟩
   ·rw[Kc]at h;exact SeqAt.EqAt.str_int x t j u _ _ _ _ h
   ·rw[J9]at h;exact wpAny_eqBool_str h
 «strs»:=fun k x t v h=>by
  rcases cL h with⟨i,u,rfl,e⟩|⟨y,u,rfl,e⟩
  ·exact nomatch e
  ·injection e with e1 _
   subst e1;cases v<;>rfl
inductive V where
 | iC | bl (b:Bool) | int (i:Int) | str (x:Str) | EF (b:Array UInt8) | PB (b:UInt64) | ref (a:Addr) | ty (n:String)
 deriving DecidableEq
def RelV:V->Value->Prop
 | .iC,u=>u=Value.none
 | .bl b,u=>u=Value.bool b
 | .int i,u=>∃ t,u=Value.int i t
 | .str x,u=>∃ t,u=Value.str x t
 | .EF b,u=>∃ t,u=Value.bytes b t
 | .PB b,u=>∃ t,u=Value.float b t
 | .ref a,u=>u=Value.ref a
 | .ty n,u=>u=Value.type n
abbrev Vals:List V->List Value->Prop:=Paired RelV
theorem Vals.length{xs:List V}{us:List Value}(r:Vals xs us):xs.length=us.length:=Paired.length r
theorem Vals.get:∀{xs:List V} {us:List Value} {i:Nat} {x:V},Vals xs us->xs[i]?=some x->∃ u,us[i]?=some u/\RelV x u
 | _,_,_,_,.nil,e=>by simp at e
 | _,_,0,_,.cons r _,e=>by simp at e;subst e;exact⟨_,rfl,r⟩
 | _,_,i+1,x,.cons _ t,e=>by
   obtain⟨u,h1,h2⟩:=Vals.get (i:=i) (x:=x) t (by simpa using e)
   exact⟨u,by simpa using h1,h2⟩
theorem Vals.set{x:V}{u:Value}(r:RelV x u):∀{xs:List V} {us:List Value} (i:Nat),Vals xs us->Vals (xs.set i x) (us.set i u)
 | _,_,_,.nil=>.nil
 | _,_,0,.cons _ t=>.cons r t
 | _,_,i+1,.cons q t=>.cons q (Vals.set r i t)
theorem Vals.append:∀{xs ys:List V} {us ws:List Value},Vals xs us->Vals ys ws->Vals (xs++ys) (us++ws)
 | _,_,_,_,.nil,s=>s
 | _,_,_,_,.cons r t,s=>.cons r (Vals.append t s)
theorem Vals.take:∀{xs:List V} {us:List Value} (n:Nat),Vals xs us->Vals (xs.take n) (us.take n)
 | _,_,0,_=>.nil
 | _,_,_+1,.nil=>.nil
 | _,_,n+1,.cons r t=>.cons r (Vals.take n t)
theorem Vals.drop:∀{xs:List V} {us:List Value} (n:Nat),Vals xs us->Vals (xs.drop n) (us.drop n)
 | _,_,0,r=>r
 | _,_,_+1,.nil=>.nil
 | _,_,n+1,.cons _ t=>Vals.drop n t
def LR:Option V->Option Value->Prop
 | some v,some u=>RelV v u
 | none,none=>True
 | _,_=>False
def KV{κ:Type}:List (κ×V)->List (κ×Value)->Prop:=Paired fun(p:κ×V) (q:κ×Value)=>p.1=q.1/\RelV p.2 q.2
def kV:Key->V
 | .inl i=>.int i
 | .inr x=>.str x
inductive HO where
 | lst (xs:List V)
 | tup (xs:List V)
 | dK (kvs:List (Key×V)) | dT (kvs:List (List Key×V))
 | set (S:Int->Bool) (n:Nat)
 | ins (C dx:Addr) (fs:List (Str×V))
 | own (x:Addr)
 | xd (fs:List (Str×V))
 | met (f x:Addr)
 | Di (lo hi:Int)
 | EG (o:Obj) (u:HO)
 | Jo (ps:Array Value)
 | ext (φ:Heap->Prop)
abbrev Hp:=Addr->Option HO
def upd(H:Hp)(a:Addr)(o:HO):Hp:=fun b=>if b=a then some o else H b
theorem aj{H:Hp}{a:Addr}{o:HO}:upd H a o a=some o:=by unfold upd;rw[if_pos rfl]
theorem aT{H:Hp}{a b:Addr}{o:HO}(h:b≠a):upd H a o b=H b:=by unfold upd;rw[if_neg h]
theorem Jp{H:Hp}{a b:Addr}{o u:HO}(h:H a=some o)(h' : H b=some u)(d:o≠u):a≠b:=by
 intro e;subst e;rw[h]at h';exact d (Option.some.inj h')
theorem aY{H:Hp}{a b:Addr}{o:HO}(h:H a=some o)(h' : H b=none):a≠b:=by
 intro e;subst e;rw[h]at h';cases h'
def Hz(qs:Array Value):Str:=match (qs[0]?:Option Value) with | some (Value.str q _)=>q | _=>""
section
variable (P:Program)(w:World)
def gw(H:Hp)(h:Heap)(a:Addr):HO->Prop
 | .lst xs=>xs.length<=sizeLine/\∃(its:List Value) (n:Nat),Vals xs its/\h.get? a=some { cls:=.type "list",data:=.seq its.toArray n}
 | .tup xs=>xs.length<=sizeLine/\∃ its:List Value,Vals xs its/\IsTup h a its.toArray
 | .dK kvs=>kvs.length<=sizeLine/\(a==sysModules)=false/\∃ vs,KV kvs vs/\h.DictOf (BX P w) a vs
 | .dT kvs=>kvs.length<=sizeLine/\(a==sysModules)=false/\∃ xs:List (List Key×Addr×Value),
  Paired (fun(p:List Key×V) (q:List Key×Addr×Value)=>p.1=q.1/\H q.2.1=some (.tup (p.1.map kV))/\RelV p.2 q.2.2) kvs xs/\
  ∃ o es ep,h.get? a=some o/\o.ExactDict/\o.data = .dict es ep/\es.toList=xs.map (entryOfKey (tupleKind (BX P w)))/\(xs.map (·.1)).Nodup
 | .set S n=>h.SetOf (intKind P w) a S n
 | .ins C dx fs=>H dx=some (.own a)/\fs.length<=1000/\dx≠a/\h.get? a=some (PySem.W.instObj C dx)/\
  ∃ mA,h.Ns1 dx mA/\(∀ f,LR (fs.lookup f) (mA f))/\PySem.Within mA (fs.map (·.1))
 | .own _=>∃ o,h.get? a=some o
 | .xd fs=>∃ mA,h.Ns1 a mA/\∀ f,LR (fs.lookup f) (mA f)
 | .Di lo hi=>∃ t u v,h.get? a=some { cls:=.type "range",data:=.fields #[.int lo t,.int hi u,.int 1 v]}
 | .EG o u=>h.get? a=some o/\gw H h a u
 | .Jo qs=>∃ ps:Array Value,h.get? a=some { cls:=.none,data:=.fields ps}/\((qs.size=3/\(ps = #[]\/∃ c,ps = #[qs.getD 1 .none,qs.getD 2 .none,.ref c]/\H c=some (.own a)/\h.CodeRec (.ref c) (Hz qs)))\/∃ q l k,qs = #[q,l,k]++ps/\ps.size=3)
 | .met f x=>h.get? a=some (PySem.W.methodObj (.ref f) (.ref x))
 | .ext φ=>φ h/\(∃ o,h.get? a=some o)/\∀ h1 h2:Heap,φ h1->(∀ o,h1.get? a=some o->h2.get? a=some o)->φ h2
def rj(H:Hp)(h:Heap):Prop:=∀ a o,H a=some o->gw P w H h a o
end
section
variable {P:Program}{w:World}{H H' : Hp}{h h' : Heap}{a:Addr}{o:HO}
theorem gw.lt(x:gw P w H h a o):a<h.objs.size:=by
 cases o with
 | lst xs=>obtain⟨_,_,_,_,e⟩:=x;exact Heap.lt_size e
 | tup xs=>obtain⟨_,_,_,p⟩:=x;exact p.lt
 | dK kvs=>obtain⟨_,_,_,_,o,_,_,e,_⟩:=x;exact Heap.lt_size e
 | dT kvs=>obtain⟨_,_,_,_,o,_,_,e,_⟩:=x;exact Heap.lt_size e
 | set S n=>obtain⟨o,_,_,_,e,_⟩:=x;exact Heap.lt_size e
 | ins C dx fs=>obtain⟨_,_,_,e,_⟩:=x;exact Heap.lt_size e
 | own y=>obtain⟨_,e⟩:=x;exact Heap.lt_size e
 | xd fs=>obtain⟨_,⟨_,_,_,e,_⟩,_⟩:=x;exact Heap.lt_size e
 | Di lo hi=>obtain⟨_,_,_,e⟩:=x;exact Heap.lt_size e
 | EG ob u=>obtain⟨e,_⟩:=x;exact Heap.lt_size e
 | Jo ps=>obtain⟨_,e,_⟩:=x;exact Heap.lt_size e
 | met f y=>exact Heap.lt_size (show h.get? a=some _ from x)
 | ext φ=>obtain⟨_,⟨_,e⟩,_⟩:=x;exact Heap.lt_size e
theorem Paired.Kd{α β:Type}{F G:α->β->Prop}:∀{l₁:List α} {l₂:List β},Paired F l₁ l₂->(∀ a b,F a b->G a b)->Paired G l₁ l₂
 | _,_,.nil,_=>.nil
 | _,_,.cons r t,f=>.cons (f _ _ r) (Paired.Kd t f)
theorem Paired.imp'{α β:Type}{F G:α->β->Prop}(f:∀ a b,F a b->G a b){l₁:List α}{l₂:List β}(r:Paired F l₁ l₂):Paired G l₁ l₂:=Paired.Kd r f
theorem gw.stay(x:gw P w H h a o)(k:∀ b u,(b=a\/H b=some (.own a))->h.get? b=some u->h'.get? b=some u)
 (ho:∀ b,H b=some (.own a)->H' b=some (.own a)) (ht:∀ b xs,H b=some (.tup xs)->H' b=some (.tup xs)):gw P w H' h' a o:=by
 induction o with
 | lst xs=>obtain⟨z,its,n,r,e⟩:=x;exact⟨z,its,n,r,k _ _ (.inl rfl) e⟩
 | tup xs=>obtain⟨z,its,r,ob,e,c⟩:=x;exact⟨z,its,r,ob,k _ _ (.inl rfl) e,c⟩
 | dK kvs=>obtain⟨z,y,vs,r,ob,es,ep,e,c⟩:=x;exact⟨z,y,vs,r,ob,es,ep,k _ _ (.inl rfl) e,c⟩
 | dT kvs =>
   obtain⟨z,y,xs,r,ob,es,ep,e,c⟩:=x;exact⟨z,y,xs,Paired.Kd r fun p q z=>⟨z.1,ht _ _ z.2.1,z.2.2⟩,ob,es,ep,k _ _ (.inl rfl) e,c⟩
 | set S n=>obtain⟨ob,es,ep,t,e,c⟩:=x;exact⟨ob,es,ep,t,k _ _ (.inl rfl) e,c⟩
 | ins C dx fs =>
   obtain⟨d,z,ne,e,mA,⟨od,es,ep,e2,c⟩,r⟩:=x;exact⟨ho _ d,z,ne,k _ _ (.inl rfl) e,mA,⟨od,es,ep,k _ _ (.inr d) e2,c⟩,r⟩
 | own y=>obtain⟨ob,e⟩:=x;exact⟨ob,k _ _ (.inl rfl) e⟩
 | xd fs=>obtain⟨mA,⟨od,es,ep,e,c⟩,r⟩:=x;exact⟨mA,⟨od,es,ep,k _ _ (.inl rfl) e,c⟩,r⟩
 | Di lo hi=>obtain⟨t,u,v,e⟩:=x;exact⟨t,u,v,k _ _ (.inl rfl) e⟩
 | EG ob u ih=>obtain⟨e,q⟩:=x;exact⟨k _ _ (.inl rfl) e,ih q⟩
 | Jo qs =>
   obtain⟨ps,e,f⟩:=x;refine⟨ps,k _ _ (.inl rfl) e,?_⟩;rcases f with⟨hz,f|⟨c,e1,e2,c',oc,vs,tq,hc,ho',hd,hv⟩⟩|f
   ·exact .inl ⟨hz,.inl f⟩
   ·cases hc;exact .inl ⟨hz,.inr ⟨c,e1,ho _ e2,c,oc,vs,tq,rfl,k _ _ (.inr e2) ho',hd,hv⟩⟩
   ·exact .inr f
 | met f y =>
   have e:h.get? a=some (PySem.W.methodObj (.ref f) (.ref y)):=x;show h'.get? a=some (PySem.W.methodObj (.ref f) (.ref y));exact k a _ (.inl rfl) e
 | ext φ=>obtain⟨p,⟨o,e⟩,st⟩:=x;exact⟨st _ _ p fun o q=>k _ _ (.inl rfl) q,⟨o,k _ _ (.inl rfl) e⟩,st⟩
theorem rj.lt(x:rj P w H h)(e:H a=some o):a<h.objs.size:=(x a o e).lt
theorem rj.fresh(x:rj P w H h)(e:h.objs.size<=a):H a=none:=by
 cases q:H a with
 | none=>rfl
 | some u=>exact absurd (Nat.lt_of_lt_of_le (x.lt q) e) (Nat.lt_irrefl _)
theorem rj.kept(x:rj P w H h)(k:∀ b u,h.get? b=some u->h'.get? b=some u):rj P w H h':=fun a o e =>
 (x a o e).stay (fun b u _ q=>k b u q) (fun _ q=>q) fun _ _ q=>q
theorem rj.laid(x:rj P w H h)(k:∀ b u,h.get? b=some u->h'.get? b=some u)(hp:h.objs.size<=a)(new:gw P w (upd H a o) h' a o):rj P w (upd H a o) h':=fun b u e=>by
 have hn:=x.fresh hp
 by_cases hb:b=a
 ·subst hb;rw[aj]at e;cases e;exact new
 ·rw[aT hb]at e;exact(x b u e).stay (fun c v _ q=>k c v q) (fun c q=>by rw[aT (aY q hn)];exact q) fun c xs q=>by rw[aT (aY q hn)];exact q
end
def Rd(H:Hp)(a:Addr)(u:HO):Prop:=H a=some u\/∃ o,H a=some (.EG o u)
theorem Rd.ok{P:Program}{w:World}{H:Hp}{h:Heap}{a:Addr}{u:HO}(r:Rd H a u)(x:rj P w H h):gw P w H h a u:=by
 rcases r with r|⟨o,r⟩
 ·exact x a u r
 ·obtain⟨_,q⟩:=x a _ r;exact q
def Oq:Option HO->Prop
 | some (.lst _)=>True
 | some (.dK _)=>True
 | some (.dT _)=>True
 | some (.set _ _)=>True
 | some (.ins _ _ _)=>True
 | some (.ext _)=>True
 | _=>False
section
variable {P:Program}{w:World}{H:Hp}{h h' : Heap}{x e:Addr}{o' : HO}
theorem rj.write(ok:rj P w H h)(mu:Oq (H x))(he:e=x\/H e=some (.own x))(k:∀ b u,b≠e->h.get? b=some u->h'.get? b=some u)(Lu:∃ u,h'.get? e=some u)
 (new:gw P w (upd H x o') h' x o'):rj P w (upd H x o') h':=fun b u q=>by
 have LS:∀ c y,H c=some (.own y)->c≠x:=fun c y r z=>by subst z;rw[r]at mu;exact mu
 have PC:∀ c xs,H c=some (.tup xs)->c≠x:=fun c xs r z=>by subst z;rw[r]at mu;exact mu
 by_cases hb:b=x
 ·subst hb;rw[aj]at q;cases q;exact new
 ·rw[aT hb]at q
  by_cases HA:b=e
  ·have q' : H b=some (.own x):=by
    rcases he with z|z
    ·exact absurd (HA.trans z) hb
    ·rw[HA];exact z
   rw[q]at q';cases q';obtain⟨v,hv⟩:=Lu;exact⟨v,by rw[HA];exact hv⟩
  ·refine(ok b u q).stay (fun c v hc r=>k c v ?_ r) (fun c r=>by rw[aT (LS c b r)];exact r) fun c xs r=>by rw[aT (PC c xs r)];exact r
   rcases hc with rfl|hc
   ·exact HA
   ·rintro rfl;rcases he with z|z
    ·exact LS c b hc z
    ·rw[hc]at z;cases z;exact hb rfl
end
structure Un(fs ex:List Addr)(H H' : Hp)(h h' : Heap):Prop where
 keep:∀ b o,h.get? b=some o->H b=none->b∉fs->b∉ex->h'.get? b=some o
 slot:∀ b o,h.get? b=some o->H b=none->b∈fs->b∉ex->∃ sl,h'.get? b=some { o with slots:=sl}
 free:∀ b o,h.get? b=some o->H b=none->b∉ex->H' b=none
 there:∀ b o,h.get? b=some o->b∉ex->∃ o',h'.get? b=some o'
 tups:∀ b xs,H b=some (.tup xs)->H' b=some (.tup xs)
 rm:∀ b o u,H b=some (.EG o u)->H' b=some (.EG o u)
 sO:∀ b ps,H b=some (.Jo ps)->∃ more,H' b=some (.Jo (ps++more))
section
variable {fs fs' ex ex' : List Addr}{H H1 H2:Hp}{h h1 h2 h' : Heap}{a x e:Addr}{o:HO}
theorem Un.any(u:Un fs ex H H1 h h1){b:Addr}{ob:Obj}(q:h.get? b=some ob)(n:H b=none)(hx:b∉ex):∃ sl,h1.get? b=some { ob with slots:=sl}:=by
 by_cases hb:b∈fs
 ·exact u.slot b ob q n hb hx
 ·exact⟨ob.slots,u.keep b ob q n hb hx⟩
theorem Un.kept(k:∀ b u,h.get? b=some u->h'.get? b=some u):Un fs ex H H h h' :=
 ⟨fun b ob q _ _ _=>k b ob q,fun b ob q _ _ _=>⟨ob.slots,k b ob q⟩,fun _ _ _ n _=>n,fun b ob q _=>⟨ob,k b ob q⟩,fun _ _ q=>q,fun _ _ _ q=>q,fun _ ps q=>⟨#[],by rw[q];simp⟩⟩
theorem Un.refl:Un fs ex H H h h:=Un.kept fun _ _ q=>q
theorem Un.laid(k:∀ b u,h.get? b=some u->h'.get? b=some u)(hp:h.objs.size<=a)(hn:H a=none):Un fs ex H (upd H a o) h h' where
 keep:=fun b u q _ _ _=>k b u q
 slot:=fun b u q _ _ _=>⟨u.slots,k b u q⟩
 free:=fun b u q n _=>by rw[aT (Nat.ne_of_lt (Nat.lt_of_lt_of_le (Heap.lt_size q) hp))];exact n
 there:=fun b u q _=>⟨u,k b u q⟩
 tups:=fun b xs q=>by rw[aT (aY q hn)];exact q
 rm:=fun b u xs q=>by rw[aT (aY q hn)];exact q
 sO:=fun b ps q=>⟨#[],by rw[aT (aY q hn),q];simp⟩
theorem Un.write(mu:Oq (H x))(he:e=x\/H e=some (.own x))(k:∀ b u,b≠e->h.get? b=some u->h'.get? b=some u)(Lu:∃ u,h'.get? e=some u):Un fs ex H (upd H x o) h h':=by
 have hx:∀ b,H b=none->b≠x:=fun b n z=>by subst z;rw[n]at mu;exact mu
 have hb:∀ b,H b=none->b≠e:=fun b n z=>by
  subst z;rcases he with r|r
  ·exact hx b n r
  ·rw[n]at r;cases r
 have hm:∀ b u,H b=some u->¬ Oq (some u)->b≠x:=fun b u q nm z=>by subst z;rw[q]at mu;exact nm mu
 refine⟨fun b u q n _ _=>k b u (hb b n) q,fun b u q n _ _=>⟨u.slots,k b u (hb b n) q⟩,fun b u q n _=>by rw[aT (hx b n)];exact n,fun b u q _=>?_,
  fun b xs q=>by rw[aT (hm b _ q fun z=>z)];exact q,fun b u xs q=>by rw[aT (hm b _ q fun z=>z)];exact q,fun b ps q=>⟨#[],by rw[aT (hm b _ q fun z=>z),q];simp⟩⟩
 by_cases HA:b=e
 ·subst HA;exact Lu
 ·exact⟨u,k b u HA q⟩
end
def Jq(h:Heap)(H:Hp):List Addr:=(List.range h.objs.size).filter fun a=>(H a).isSome
def xT(h:Heap)(H:Hp):Heap:=PySem.W.hideAll h (Jq h H)
theorem Dj(h:Heap)(H:Hp):(xT h H).objs.size=h.objs.size:=PySem.W.hideAll_size _ _
theorem EH{h:Heap}{H:Hp}{b:Addr}{o:Obj}(e:h.get? b=some o)(n:H b=none):(xT h H).get? b=some o :=
 PySem.W.hideAll_get _ e fun hm=>by
  have q:(H b).isSome=true:=(List.mem_filter.mp hm).2;rw[n]at q;simp at q
theorem HB{h:Heap}{H:Hp}{b:Addr}{o:Obj}(e:(xT h H).get? b=some o):h.get? b=some o/\H b=none:=by
 have e' : h.get? b=some o:=PySem.W.of_hideAll (Jq h H) e;refine⟨e',?_⟩;cases q:H b with
 | none=>rfl
 | some x =>
   have hm:b∈Jq h H:=List.mem_filter.mpr ⟨List.mem_range.mpr (Heap.lt_size e'),by simp[q]⟩
   have z:(xT h H).get? b=none:=PySem.W.hideAll_none (Jq h H) hm;rw[z]at e;cases e
structure Mod(K:bY)(mg:jY)(base:Heap):Prop where
 Ot:K.In base
 glob:base.Ns mainGlobals mg
 blt:∃ mb,base.Ns builtinsNs mb/\∀ x:Str,x≠"__name__"->mb x=bootBuiltins x
 nolimit:base.NoLimit
 bmain:∃ bm ob,mg "__builtins__"=some (.ref bm)/\bm≠builtinsNs/\base.get? bm=some ob/\ob.cls = .type "module"/\ob.dict=some builtinsNs/\ob.data = .plain
structure Cx where
 prog:Program
 w:World
 K:bY
 mg:Str->Option Value
 base:Heap
 A:Around
 N:List Str
 s₀:Shared
 H₀:Hp
 env:Env
 outer:List Env
 stack:List Env
 ex:List Addr
 fn:Str->Bool
 calm:Bool
 pn:br
 xe:Value->Shared->Prop
def frs(l:List Env):List Addr:=l.filterMap (·.frame)
abbrev Cx.fs(X:Cx):List Addr:=frs X.outer
def Ou(sc:Scope)(x:Str):Prop:=sc.names.lookup x=some .local\/sc.names.lookup x=some .cell\/sc.names.lookup x=some .free
def Loc(sc:Scope)(x:Str):Prop:=sc.names.lookup x=some .local\/sc.names.lookup x=some .cell
def Look(env:Env)(h:Heap)(m:jY)(x:Str)(u:Value):Prop :=
 (env.kindOf x=some .local/\m x=some u)\/((env.kindOf x=some .cell\/env.kindOf x=some .free)/\∃ c,env.cells.lookup x=some c/\h.IsCell c (some u))
structure Cx.Ok(X:Cx):Prop where
 mod:Mod X.K X.mg X.base
 kind:X.env.scope.kind = .function
 glob:X.env.globals=mainGlobals
 blt:X.env.builtins=builtinsNs
 above:X.s₀.heap.objs.size<=X.env.locals
 inj:∀ x y c,X.env.cells.lookup x=some c->X.env.cells.lookup y=some c->x=y
 has:∀ x,(X.env.kindOf x=some .cell\/X.env.kindOf x=some .free)->∃ c,X.env.cells.lookup x=some c
 Lv:∀ x c,X.fn x=true->X.env.cells.lookup x=some c->X.s₀.heap.objs.size<=c
 hd:X.calm=true->X.A.handled=none
 frames:X.A.frames=some X.stack
 AR:X.stack=X.outer\/(X.stack=X.env::X.outer/\X.env.frame=some X.env.locals)
 PD:∀ b∈X.ex,b≠X.env.locals/\∀ x c,X.env.cells.lookup x=some c->c≠b
 bs:∀ b o,X.base.get? b=some o->X.s₀.heap.get? b=some o/\X.H₀ b=none
 HC:X.base.objs.size<=X.s₀.heap.objs.size
 AV:∀ b o,X.base.get? b=some o->b∉X.ex
 EI:∀ b∈X.ex,b∉X.fs
 funs:X.s₀.heap.FunFrames X.base X.outer
 Jr:∀ b∈X.fs,X.H₀ b=none
structure Inv(X:Cx)(pq:br)(σ:List (Option V))(H:Hp)(s:Shared):Prop where
 ok:X.Ok
 os:s.os=X.s₀.os
 bare:AllBare s.gens
 base:Un X.fs X.ex X.H₀ H X.s₀.heap s.heap
 loc:∃ m,s.heap.Ns X.env.locals m/\∀(i:Nat) (x:Str) (v:V),X.N[i]?=some x->σ[i]?=some (some v)->Ou X.env.scope x->∃ u,RelV v u/\Look X.env s.heap m x u
 cell:∀ x c,X.env.cells.lookup x=some c->∃ v,s.heap.IsCell c v
 free:H X.env.locals=none
 j4:∀ x c,X.env.cells.lookup x=some c->H c=none
 pin:∀ p∈X.pn++pq,s.heap.get? p.1=some p.2/\H p.1=none/\p.1≠X.env.locals/\p.1∉X.fs/\∀ v,p.2.data≠.cell v
 hok:rj X.prog X.w H s.heap
 len:σ.length=X.N.length
section
variable {X:Cx}{pq:br}{σ:List (Option V)}{H H' : Hp}{s:Shared}{h' : Heap}
theorem Cx.Ok.Ke(ok:X.Ok){b:Addr}{o:Obj}(e:X.base.get? b=some o):b∉X.fs:=fun hb=>by
 have:=(ok.funs.mem hb).1;rw[e]at this;cases this
theorem Inv.bs(I:Inv X pq σ H s):∀ b o,X.base.get? b=some o->s.heap.get? b=some o/\H b=none:=fun b o e =>
 ⟨I.base.keep b o (I.ok.bs b o e).1 (I.ok.bs b o e).2 (I.ok.Ke e) (I.ok.AV b o e),I.base.free b o (I.ok.bs b o e).1 (I.ok.bs b o e).2 (I.ok.AV b o e)⟩
theorem Inv.bk(I:Inv X pq σ H s):∀ b o,X.base.get? b=some o->s.heap.get? b=some o:=fun b o e=>(I.bs b o e).1
theorem Inv.mod(I:Inv X pq σ H s):Mod X.K X.mg X.base:=I.ok.mod
theorem Inv.Lw(I:Inv X pq σ H s):X.K.In s.heap:=I.ok.mod.Ot.keeps I.bk
theorem Inv.lt(I:Inv X pq σ H s):X.env.locals<s.heap.objs.size:=let⟨_,hn,_⟩:=I.loc;hn.lt
theorem Inv.sz(I:Inv X pq σ H s):X.s₀.heap.objs.size<=s.heap.objs.size:=Nat.le_trans I.ok.above (Nat.le_of_lt I.lt)
theorem Inv.Kf(I:Inv X pq σ H s){a:Addr}(h:s.heap.objs.size<=a):a∉X.fs:=fun hb=>by
 obtain⟨_,o,ho,_⟩:=I.ok.funs.mem hb;exact absurd (Nat.lt_of_lt_of_le (Heap.lt_size ho) (Nat.le_trans I.sz h)) (Nat.lt_irrefl _)
theorem Inv.Kg(I:Inv X pq σ H s):∀ x c,X.env.cells.lookup x=some c->c≠X.env.locals:=fun x c e z=>by
 obtain⟨v,o,ho,hd⟩:=I.cell x c e;obtain⟨m,⟨o',es,ep,ho',hd',_⟩,_⟩:=I.loc;rw[z,ho']at ho;cases ho;rw[hd']at hd;cases hd
theorem Inv.funs(I:Inv X pq σ H s):s.heap.FunFrames X.base X.outer:=by
 have all:∀(l:List Env),(∀ b∈frs l,b∈X.fs)->X.s₀.heap.FunFrames X.base l->s.heap.FunFrames X.base l:=by
  intro l
  induction l with
  | nil=>intro _ _;trivial
  | cons env r ih =>
    intro hs hl;obtain⟨hk,⟨L,o,hf,hn,ho,hd⟩,hr⟩:=hl;have hL:L∈X.fs:=hs L (by unfold frs;rw[List.filterMap_cons,hf];exact List.mem_cons_self)
    obtain⟨sl,e⟩:=I.base.slot L o ho (I.ok.Jr L hL) hL fun z=>I.ok.EI L z hL
    exact⟨hk,⟨L,_,hf,hn,e,hd⟩,ih (fun b hb=>hs b (by unfold frs;rw[List.filterMap_cons,hf];exact vz _ hb)) hr⟩
 exact all X.outer (fun _ hb=>hb) I.ok.funs
theorem Inv.stack(I:Inv X pq σ H s):s.heap.FunFrames X.base X.stack:=by
 rcases I.ok.AR with e|⟨e,hf⟩
 ·rw[e];exact I.funs
 ·rw[e];obtain⟨m,hn,_⟩:=I.loc;refine .cons (by rw[I.ok.kind];decide) hf hn ?_ I.funs
  exact Heap.get?_none_of_le (Nat.le_trans I.ok.HC I.ok.above)
theorem Inv.lg(I:Inv X pq σ H s):∀ b∈frs X.stack,b∈X.env.locals::X.fs:=fun b hb=>by
 rcases I.ok.AR with e|⟨e,hf⟩
 ·rw[e]at hb;exact vz _ hb
 ·rw[e]at hb;unfold frs at hb;rw[List.filterMap_cons,hf]at hb;exact hb
theorem Inv.pP(I:Inv X pq σ H s):∀ b∈frs X.stack,H b=none:=fun b hb=>by
 rcases List.mem_cons.mp (I.lg b hb) with e|hb
 ·rw[e];exact I.free
 ·obtain⟨_,o,ho,_⟩:=I.ok.funs.mem hb;exact I.base.free b o ho (I.ok.Jr b hb) fun z=>I.ok.EI b z hb
theorem Inv.step{g' : Array GenState}{t' : Nat}{d' : Drawn}{ch:List Addr}(I:Inv X pq σ H s)
 (hch:∀ b∈ch,(b∈X.ex\/X.s₀.heap.objs.size<=b)/\b≠X.env.locals/\(∀ x c,X.env.cells.lookup x=some c->c≠b)/\∀ p∈X.pn++pq,p.1≠b)
 (keep:∀ b o,b≠X.env.locals->b∉X.fs->b∉ch->s.heap.get? b=some o->H b=none->h'.get? b=some o)
 (slot:∀ b o,b≠X.env.locals->b∈X.fs->b∉ch->s.heap.get? b=some o->H b=none->∃ sl,h'.get? b=some { o with slots:=sl}) (free:∀ b o,b∉ch->s.heap.get? b=some o->H b=none->H' b=none)
 (there:∀ b o,b∉ch->s.heap.get? b=some o->∃ o',h'.get? b=some o')
 (tups:∀ b xs,H b=some (.tup xs)->H' b=some (.tup xs)) (rm:∀ b o u,H b=some (.EG o u)->H' b=some (.EG o u)) (sO:∀ b ps,H b=some (.Jo ps)->∃ more,H' b=some (.Jo (ps++more)))
 (ns:∀ m,s.heap.Ns X.env.locals m->h'.Ns X.env.locals m) (hok:rj X.prog X.w H' h') (hg:AllBare g') :
 Inv X pq σ H' { s with heap:=h',gens:=g',drawn:=d',toks:=t'}:=by
 have WI:∀ b o,X.s₀.heap.get? b=some o->b≠X.env.locals:=fun b o e=>Nat.ne_of_lt (Nat.lt_of_lt_of_le (Heap.lt_size e) I.ok.above)
 have Ov:∀ b o,X.s₀.heap.get? b=some o->b∉X.ex->b∉ch:=fun b o e hx hb=>by
  rcases(hch b hb).1 with z|z
  ·exact hx z
  ·exact absurd (Nat.lt_of_lt_of_le (Heap.lt_size e) z) (Nat.lt_irrefl _)
 have cellK:∀ x c,X.env.cells.lookup x=some c->∀ v,s.heap.IsCell c v->h'.IsCell c v:=fun x c e v ⟨o,ho,hd⟩=>by
  have LU:c∉ch:=fun z=>(hch c z).2.2.1 x c e rfl
  by_cases hc:c∈X.fs
  ·obtain⟨sl,q⟩:=slot c o (I.Kg x c e) hc LU ho (I.j4 x c e);exact⟨_,q,hd⟩
  ·exact⟨o,keep c o (I.Kg x c e) hc LU ho (I.j4 x c e),hd⟩
 refine⟨I.ok,I.os,hg,⟨fun b o e n hb hx=>?_,fun b o e n hb hx=>?_,fun b o e n hx=>?_,fun b o e hx=>?_,fun b xs e=>tups b xs (I.base.tups b xs e),fun b o xs e=>rm b o xs (I.base.rm b o xs e),fun b ps e=>?_⟩,?_,fun x c e=>?_,?_,fun x c e=>?_,fun p hp=>?_,hok,I.len⟩
 ·exact keep b o (WI b o e) hb (Ov b o e hx) (I.base.keep b o e n hb hx) (I.base.free b o e n hx)
 ·obtain⟨sl,e1⟩:=I.base.slot b o e n hb hx;obtain⟨Kh,e2⟩:=slot b _ (WI b o e) hb (Ov b o e hx) e1 (I.base.free b o e n hx);exact⟨Kh,e2⟩
 ·obtain⟨o',e1⟩:=I.base.there b o e hx;exact free b o' (Ov b o e hx) e1 (I.base.free b o e n hx)
 ·obtain⟨o',e1⟩:=I.base.there b o e hx;exact there b o' (Ov b o e hx) e1
 ·obtain⟨m1,e1⟩:=I.base.sO b ps e;obtain⟨m2,e2⟩:=sO b _ e1;exact⟨m1++m2,by rw[e2,Array.append_assoc]⟩
 ·obtain⟨m,hn,hl⟩:=I.loc;refine⟨m,ns m hn,fun i x v e1 e2 e3=>?_⟩
  obtain⟨u,r,l⟩:=hl i x v e1 e2 e3;refine⟨u,r,?_⟩;rcases l with l|⟨k,c,e,z⟩
  ·exact .inl l
  ·exact .inr ⟨k,c,e,cellK x c e _ z⟩
 ·obtain⟨v,z⟩:=I.cell x c e;exact⟨v,cellK x c e v z⟩
 ·obtain⟨m,⟨o,_,_,ho,_⟩,_⟩:=I.loc;exact free _ o (fun z=>(hch _ z).2.1 rfl) ho I.free
 ·obtain⟨v,o,ho,hd⟩:=I.cell x c e;exact free c o (fun z=>(hch c z).2.2.1 x c e rfl) ho (I.j4 x c e)
 ·obtain⟨e,n,ne,nf,d⟩:=I.pin p hp;have LU:p.1∉ch:=fun z=>(hch p.1 z).2.2.2 p hp rfl
  exact⟨keep p.1 p.2 ne nf LU e n,free p.1 p.2 LU e n,ne,nf,d⟩
theorem Inv.un{t' : Nat}(I:Inv X pq σ H s)(u:Un X.fs [] H H' s.heap h')(hok:rj X.prog X.w H' h'):Inv X pq σ H' { s with heap:=h',toks:=t'}:=by
 obtain⟨m,⟨o,es,ep,ho,r⟩,_⟩:=id I.loc;obtain⟨sl,hL⟩:=u.any ho I.free (by simp)
 exact I.step (g':=s.gens) (d':=s.drawn) (ch:=[]) (fun _ z=>nomatch z) (fun b o _ hb _ e n=>u.keep b o e n hb (by simp)) (fun b o _ hb _ e n=>u.slot b o e n hb (by simp)) (fun b o _ e n=>u.free b o e n (by simp)) (fun b o _ e=>u.there b o e (by simp)) u.tups u.rm u.sO (fun m' hm=>by
  obtain⟨o',es',PF,ho',r'⟩:=hm;rw[ho]at ho';cases ho';exact⟨_,es',PF,hL,r'⟩) hok I.bare
theorem Inv.call{g' : Array GenState}{t' : Nat}{d' : Drawn}{ch:List Addr}(I:Inv X pq σ H s)(u:Un (frs X.stack) ch H H' s.heap h')(hok:rj X.prog X.w H' h')(hg:AllBare g')
 (hch:∀ b∈ch,(b∈X.ex\/X.s₀.heap.objs.size<=b)/\b≠X.env.locals/\(∀ x c,X.env.cells.lookup x=some c->c≠b)/\∀ p∈X.pn++pq,p.1≠b) :
 Inv X pq σ H' { s with heap:=h',gens:=g',drawn:=d',toks:=t'}:=by
 obtain⟨m,⟨o,es,ep,ho,r⟩,_⟩:=id I.loc;obtain⟨sl,hL⟩:=u.any ho I.free fun z=>(hch _ z).2.1 rfl
 exact I.step (ch:=ch) hch (fun b o hL hb hc e n=>u.keep b o e n (fun z=>(List.mem_cons.mp (I.lg b z)).elim hL hb) hc) (fun b o _ _ hc e n=>u.any e n hc) (fun b o hc e n=>u.free b o e n hc) (fun b o hc e=>u.there b o e hc) u.tups u.rm u.sO (fun m' hm=>by
  obtain⟨o',es',PF,ho',r'⟩:=hm;rw[ho]at ho';cases ho';exact⟨_,es',PF,hL,r'⟩) hok hg
theorem Inv.turned{t' : Nat}{it:Addr}(I:Inv X pq σ H s)(k:∀ b o,b≠it->s.heap.get? b=some o->h'.get? b=some o)(hn:H it=none)(hL:it≠X.env.locals)
 (h1:it∈X.ex\/X.s₀.heap.objs.size<=it) (h2:∀ x c,X.env.cells.lookup x=some c->c≠it) (h3:∀ p∈X.pn++pq,p.1≠it):Inv X pq σ H { s with heap:=h',toks:=t'}:=by
 have WJ:∀ b u,H b=some u->b≠it:=fun b u e z=>by rw[z,hn]at e;cases e
 refine I.step (g':=s.gens) (d':=s.drawn) (ch:=[it]) (fun b hb=>?_) (fun b o _ _ hc e _=>k b o (fun z=>hc (by simp[z])) e) (fun b o _ _ hc e _=>⟨o.slots,k b o (fun z=>hc (by simp[z])) e⟩) (fun _ _ _ _ n=>n)
  (fun b o hc e=>⟨o,k b o (fun z=>hc (by simp[z])) e⟩) (fun _ _ e=>e) (fun _ _ _ e=>e) (fun b ps e=>⟨#[],by rw[e];simp⟩) (fun m hm=>?_) (fun b u e=>?_) I.bare
 ·have e:b=it:=by simpa using hb
  subst e;exact⟨h1,hL,h2,h3⟩
 ·obtain⟨o,es,ep,ho,r⟩:=hm;exact⟨o,es,ep,k _ o (Ne.symm hL) ho,r⟩
 ·refine(I.hok b u e).stay (fun c v hc q=>k c v ?_ q) (fun _ q=>q) fun _ _ q=>q
  rcases hc with z|z
  ·rw[z];exact WJ b u e
  ·exact WJ c _ z
theorem Inv.tok(I:Inv X pq σ H s)(t:Nat):Inv X pq σ H { s with toks:=t}:=I.un (h':=s.heap) (t':=t) Un.refl I.hok
theorem Inv.kept{t' : Nat}(I:Inv X pq σ H s)(k:∀ b u,s.heap.get? b=some u->h'.get? b=some u):Inv X pq σ H { s with heap:=h',toks:=t'}:=I.un (Un.kept k) (I.hok.kept k)
theorem Inv.laid{a:Addr}{o:HO}{t' : Nat}(I:Inv X pq σ H s)(k:∀ b u,s.heap.get? b=some u->h'.get? b=some u)(hp:s.heap.objs.size<=a)(new:gw X.prog X.w (upd H a o) h' a o):
 Inv X pq σ (upd H a o) { s with heap:=h',toks:=t'}:=I.un (Un.laid k hp (I.hok.fresh hp)) (I.hok.laid k hp new)
theorem Inv.write{x e:Addr}{o:HO}{t' : Nat}(I:Inv X pq σ H s)(mu:Oq (H x))(he:e=x\/H e=some (.own x))(k:∀ b u,b≠e->s.heap.get? b=some u->h'.get? b=some u)(Lu:∃ u,h'.get? e=some u)
 (new:gw X.prog X.w (upd H x o) h' x o):Inv X pq σ (upd H x o) { s with heap:=h',toks:=t'}:=I.un (Un.write mu he k Lu) (I.hok.write mu he k Lu new)
theorem Inv.weak{σ' : List (Option V)}(I:Inv X pq σ H s)(hl:σ'.length=σ.length)(w:∀(i:Nat) v,σ'[i]?=some (some v)->σ[i]?=some (some v)):Inv X pq σ' H s :=
 ⟨I.ok,I.os,I.bare,I.base,let⟨m,hn,hl'⟩:=I.loc;⟨m,hn,fun i x v e1 e2 e3=>hl' i x v e1 (w i v e2) e3⟩,I.cell,I.free,I.j4,I.pin,I.hok,hl.trans I.len⟩
theorem Inv.lj{LV:br}(I:Inv X pq σ H s)(h:∀ p∈LV,s.heap.get? p.1=some p.2/\H p.1=none/\p.1≠X.env.locals/\p.1∉X.fs/\∀ v,p.2.data≠.cell v):Inv X LV σ H s :=
 ⟨I.ok,I.os,I.bare,I.base,I.loc,I.cell,I.free,I.j4,fun p hp=>(List.mem_append.mp hp).elim (fun z=>I.pin p (List.mem_append_left _ z)) (h p),I.hok,I.len⟩
theorem zk{N:List Str}(hN:N.Nodup){i j:Nat}{x:Str}(a:N[i]?=some x)(b:N[j]?=some x):i=j:=by
 obtain⟨h1,e1⟩:=zj.mp a;obtain⟨h2,e2⟩:=zj.mp b;exact(List.getElem_inj hN).mp (e1.trans e2.symm)
theorem Dk{M:Model}{A:Around}{E:iH}{i:Nat}{x:Str}{v:V}{u:Value}{Q:Unit->Shared->Prop}(I:Inv X pq σ H s)(hN:X.N.Nodup)(hi:X.N[i]?=some x)(hx:Loc X.env.scope x)(r:RelV v u)
 (h:∀ s',Inv X pq (σ.set i (some v)) H s'->(∃ a,Heap.SameBut a s.heap s'.heap/\(a=X.env.locals\/X.env.cells.lookup x=some a))->Q () s') (hf:X.fn x=true\/X.env.scope.names.lookup x=some .local:=by first | exact .inl rfl | exact .inr rfl | assumption):wpAny M A (storeName X.env x u) Q E s:=by
 obtain⟨m,hn,hl⟩:=id I.loc;have hcls:(X.env.scope.kind == .class || (X.env.scope.kind == .module&&X.env.locals != X.env.globals))=false:=by rw[I.ok.kind];rfl
 have WK:i<σ.length:=by rw[I.len];exact(zj.mp hi).1
 have Kg:=I.Kg;have tracked:∀{a:Addr} {h' : Heap},(∃ o,s.heap.get? a=some o/\H a=none)->Heap.SameBut a s.heap h'->rj X.prog X.w H h':=fun {a h'} ha hs b ob e=>by
  obtain⟨_,_,hfree⟩:=ha;refine(I.hok b ob e).stay (fun c w' hc q=>(hs.2 c ?_).trans q) (fun _ q=>q) fun _ _ q=>q
  rintro rfl;rcases hc with rfl|hc
  ·rw[hfree]at e;cases e
  ·rw[hfree]at hc;cases hc
 rcases hx with hk|hk
 ·refine wpAny_storeName_local hk hn (fun h' hn' hs=>?_) hcls
  obtain⟨oL,_,_,Yy,_⟩:=id hn;refine h _ ⟨I.ok,I.os,I.bare,⟨fun b o e n hb hx=>?_,fun b o e n hb hx=>?_,I.base.free,fun b o e hx=>?_,I.base.tups,I.base.rm,I.base.sO⟩,⟨_,hn',fun j y v' e1 e2 e3=>?_⟩,fun y c e=>?_,I.free,I.j4,fun p hp=>?_,tracked ⟨oL,Yy,I.free⟩ hs,by simpa using I.len⟩ ⟨_,hs,.inl rfl⟩
  ·exact(hs.2 b (Nat.ne_of_lt (Nat.lt_of_lt_of_le (Heap.lt_size e) I.ok.above))).trans (I.base.keep b o e n hb hx)
  ·obtain⟨sl,e1⟩:=I.base.slot b o e n hb hx;exact⟨sl,(hs.2 b (Nat.ne_of_lt (Nat.lt_of_lt_of_le (Heap.lt_size e) I.ok.above))).trans e1⟩
  ·obtain⟨o',e1⟩:=I.base.there b o e hx;exact⟨o',(hs.2 b (Nat.ne_of_lt (Nat.lt_of_lt_of_le (Heap.lt_size e) I.ok.above))).trans e1⟩
  ·by_cases hj:j=i
   ·subst hj;rw[hi]at e1;cases e1;rw[List.getElem?_set_self WK]at e2;cases e2;exact⟨u,r,.inl ⟨hk,by simp⟩⟩
   ·rw[List.getElem?_set_ne (Ne.symm hj)]at e2;obtain⟨u',r',q⟩:=hl j y v' e1 e2 e3;refine⟨u',r',?_⟩;rcases q with⟨k,e⟩|⟨k,c,e,z⟩
    ·refine .inl ⟨k,?_⟩;have:y≠x:=fun e=>hj (zk hN e1 (e▸hi))
     simp[this,e]
    ·exact .inr ⟨k,c,e,z.sameBut hs (Kg y c e)⟩
  ·obtain⟨w',z⟩:=I.cell y c e;exact⟨w',z.sameBut hs (Kg y c e)⟩
  ·obtain⟨e,n,ne,nf,d⟩:=I.pin p hp;exact⟨(hs.2 p.1 ne).trans e,n,ne,nf,d⟩
 ·have hfn:X.fn x=true:=by
   rcases hf with z|z
   ·exact z
   ·rw[z]at hk;cases hk
  obtain⟨c,hc⟩:=I.ok.has x (.inl hk);obtain⟨w',z⟩:=I.cell x c hc;refine wpAny_storeName_cell I.ok.kind hk hc z (fun h' hc' hs=>?_)
  obtain⟨oc,hoc,PJ⟩:=id z;refine h { s with heap:=h'} ⟨I.ok,I.os,I.bare,⟨fun b o e n hb hx=>?_,fun b o e n hb hx=>?_,I.base.free,fun b o e hx=>?_,I.base.tups,I.base.rm,I.base.sO⟩,⟨m,hn.sameBut hs (Ne.symm (Kg x c hc)),fun j y v' e1 e2 e3=>?_⟩,fun y c' e=>?_,I.free,I.j4,fun p hp=>?_,tracked ⟨oc,hoc,I.j4 x c hc⟩ hs,by simpa using I.len⟩ ⟨c,hs,.inr hc⟩
  ·exact(hs.2 b (Nat.ne_of_lt (Nat.lt_of_lt_of_le (Heap.lt_size e) (I.ok.Lv x c hfn hc)))).trans (I.base.keep b o e n hb hx)
  ·obtain⟨sl,e1⟩:=I.base.slot b o e n hb hx;exact⟨sl,(hs.2 b (Nat.ne_of_lt (Nat.lt_of_lt_of_le (Heap.lt_size e) (I.ok.Lv x c hfn hc)))).trans e1⟩
  ·obtain⟨o',e1⟩:=I.base.there b o e hx;exact⟨o',(hs.2 b (Nat.ne_of_lt (Nat.lt_of_lt_of_le (Heap.lt_size e) (I.ok.Lv x c hfn hc)))).trans e1⟩
  ·by_cases hj:j=i
   ·subst hj;rw[hi]at e1;cases e1;rw[List.getElem?_set_self WK]at e2;cases e2;exact⟨u,r,.inr ⟨.inl hk,c,hc,hc'⟩⟩
   ·rw[List.getElem?_set_ne (Ne.symm hj)]at e2;obtain⟨u',r',q⟩:=hl j y v' e1 e2 e3;refine⟨u',r',?_⟩;rcases q with q|⟨k,c',e,z'⟩
    ·exact .inl q
    ·refine .inr ⟨k,c',e,z'.sameBut hs ?_⟩;rintro rfl;exact hj (zk hN e1 (I.ok.inj _ _ _ e hc▸hi))
  ·by_cases hcc:c' = c
   ·subst hcc;exact⟨_,hc'⟩
   ·obtain⟨w2,z2⟩:=I.cell y c' e;exact⟨w2,z2.sameBut hs hcc⟩
  ·obtain⟨e,n,ne,nf,d⟩:=I.pin p hp;refine⟨(hs.2 p.1 ?_).trans e,n,ne,nf,d⟩;intro q;rw[q,hoc]at e;have q' : oc=p.2:=Option.some.inj e;exact d w' (by rw[<-q'];exact PJ)
theorem mK{M:Model}{A:Around}{E:iH}{i:Nat}{x:Str}{v:V}{u:Value}{Q:Unit->Shared->Prop}(I:Inv X pq σ H s)(hN:X.N.Nodup)(hi:X.N[i]?=some x)(hx:Loc X.env.scope x)(r:RelV v u)
 (h:∀ s',Inv X pq (σ.set i (some v)) H s'->Q () s') (hf:X.fn x=true\/X.env.scope.names.lookup x=some .local:=by first | exact .inl rfl | exact .inr rfl | assumption):wpAny M A (storeName X.env x u) Q E s :=
 Dk I hN hi hx r (fun s' I' _=>h s' I') hf
theorem Inv.BY{s' : Shared}{ch:List Addr}(I:Inv X pq σ H s)(ho:s'.os=s.os)(u:Un (frs X.stack) ch H H' s.heap s'.heap)(hok:rj X.prog X.w H' s'.heap)(hg:AllBare s'.gens)
 (hch:∀ b∈ch,(b∈X.ex\/X.s₀.heap.objs.size<=b)/\b≠X.env.locals/\(∀ x c,X.env.cells.lookup x=some c->c≠b)/\∀ p∈X.pn++pq,p.1≠b):Inv X pq σ H' s':=by
 obtain⟨h',g',d',t',o'⟩:=s';have e:o' = s.os:=ho;subst e;exact I.call (g':=g') (t':=t') (d':=d') u hok hg hch
end
abbrev XK:=Value->Option Addr->Hp->Prop
abbrev St:=List (Option V)
abbrev VK:=V->Hp->Prop
abbrev TE:=St->Hp->VK->Prop
abbrev TT:=St->Hp->(Bool->Hp->Prop)->Prop
abbrev TA:=St->Hp->(List V->Hp->Prop)->Prop
structure Ends where
 nx:St->Hp->Prop
 rt:VK
 bk:St->Hp->Prop:=fun _ _=>False
 ct:St->Hp->Prop:=fun _ _=>False
abbrev TS:=Ends->St->Hp->Prop
def EP(X:Cx)(pq:br)(σ:St)(Q:VK)(u:Value)(s' : Shared):Prop:=∃ v H',Inv X pq σ H' s'/\RelV v u/\Q v H'
def TP(X:Cx)(pq:br)(σ:St)(Q:Bool->Hp->Prop)(b:Bool)(s' : Shared):Prop:=∃ H',Inv X pq σ H' s'/\Q b H'
def AP(X:Cx)(pq:br)(σ:St)(Q:List V->Hp->Prop)(us:List Value)(s' : Shared):Prop:=∃ vs H',Inv X pq σ H' s'/\Vals vs us/\Q vs H'
def SP(X:Cx)(pq:br)(D:Ends)(f:Flow)(s' : Shared):Prop :=
 match f with
 | .next=>∃ σ' H',Inv X pq σ' H' s'/\D.nx σ' H'
 | .brk=>∃ σ' H',Inv X pq σ' H' s'/\D.bk σ' H'
 | .cont=>∃ σ' H',Inv X pq σ' H' s'/\D.ct σ' H'
 | .ret u=>∃ v σ' H',Inv X pq σ' H' s'/\RelV v u/\D.rt v H'
def PE(X:Cx)(e:Expr)(t:TE):Prop :=
 ∀(pq:br) (s:Shared) (σ:St) (H:Hp) (Q:VK),Inv X pq σ H s->t σ H Q->wpAny (model X.prog X.w) X.A (eval e X.env) (EP X pq σ Q) X.xe s
def PT(X:Cx)(e:Expr)(t:TT):Prop :=
 ∀(pq:br) (s:Shared) (σ:St) (H:Hp) (Q:Bool->Hp->Prop),Inv X pq σ H s->t σ H Q->wpAny (model X.prog X.w) X.A (isTrue e X.env (eval e X.env)) (TP X pq σ Q) X.xe s
def PW(X:Cx)(e:Expr)(t:TT):Prop :=
 ∀(whole:Sem Value) (pq:br) (s:Shared) (σ:St) (H:Hp) (Q:Bool->Hp->Prop),Inv X pq σ H s->t σ H Q->wpAny (model X.prog X.w) X.A (isTrue e X.env whole) (TP X pq σ Q) X.xe s
theorem PW.pt{X:Cx}{e:Expr}{t:TT}(h:PW X e t):PT X e t:=h _
def PA(X:Cx)(es:List Expr)(t:TA):Prop :=
 ∀(pos:Pos) (pq:br) (s:Shared) (σ:St) (H:Hp) (Q:List V->Hp->Prop),Inv X pq σ H s->t σ H Q->wpAny (model X.prog X.w) X.A (spliced (backTo pos (starEach es X.env))) (AP X pq σ Q) X.xe s
def PS(X:Cx)(st:Stmt)(t:TS):Prop :=
 ∀(pq:br) (s:Shared) (σ:St) (H:Hp) (D:Ends),Inv X pq σ H s->t D σ H->wpAny (model X.prog X.w) X.A (exec st X.env) (SP X pq D) X.xe s
def AW(X:Cx)(st:List Stmt)(t:TS):Prop :=
 ∀(pq:br) (s:Shared) (σ:St) (H:Hp) (D:Ends),Inv X pq σ H s->t D σ H->wpAny (model X.prog X.w) X.A (execs st X.env) (SP X pq D) X.xe s
theorem fh{α:Type}{t:Sem α}{Q Q' : α->Shared->Prop}{M:Model}{A:Around}{E:iH}{s:Shared}(h:wpAny M A t Q E s)(hQ:∀ a s,Q a s->Q' a s):wpAny M A t Q' E s:=wpAny_mono h hQ fun _ _ x=>x
section
variable {X:Cx}
def LW(i:Nat):TE:=fun σ H Q=>∃ v,σ[i]?=some (some v)/\Q v H
def tC(v:V):TE:=fun _ H Q=>Q v H
theorem Kl{i:Nat}{x:Str}{pos:Pos}(hN:X.N[i]?=some x)(hv:Ou X.env.scope x)(hd:(x==("__debug__":Str))=false:=by decide)(hcd:(x==("__classdict__":Str))=false:=by decide):PE X (.Name x pos) (LW i):=by
 intro pq s σ H Q I h;obtain⟨v,e,h⟩:=h;obtain⟨m,hn,hl⟩:=I.loc;obtain⟨u,r,l⟩:=hl i x v hN e hv;have fin:EP X pq σ Q u s:=⟨v,H,I,r,h⟩;rcases l with⟨hk,hm⟩|⟨hk,c,hc,hcell⟩
 ·exact wpAny_Name (wpAny_loadName_local I.ok.kind hk hn hm fin) hd
 ·rcases hk with hk|hk
  ·exact wpAny_Name (wpAny_loadName_cell I.ok.kind hk hc hcell fin) hd
  ·exact wpAny_Name (wpAny_loadName_free I.ok.kind hk hc hcell fin hcd) hd
theorem ah{i j pos}:PE X (.Constant (.int i) j pos) (tC (.int i)):=fun _ _ _ H _ I h=>wpAny_Constant_int ⟨.int i,H,I.tok _,⟨_,rfl⟩,h⟩
theorem zl{b j pos}:PE X (.Constant (.bool b) j pos) (tC (.bl b)):=fun _ _ _ H _ I h=>Constant_bool ⟨.bl b,H,I,rfl,h⟩
theorem EJ{j pos}:PE X (.Constant .none j pos) (tC .iC):=fun _ _ _ H _ I h=>Constant_none ⟨.iC,H,I,rfl,h⟩
theorem tN{x j pos}:PE X (.Constant (.str x) j pos) (tC (.str x)):=fun _ _ _ H _ I h=>Calls.Constant_str ⟨.str x,H,I.tok _,⟨_,rfl⟩,h⟩
def Gl(X:Cx)(x:Str):Prop:=X.env.kindOf x=some .globalImplicit
theorem xU{E:iH}{pq:br}{s:Shared}{σ:St}{H:Hp}{x:Str}{u:Value}{pos:Pos}{Q:iH}(I:Inv X pq σ H s)(hg:Gl X x)(hm:X.mg x=some u)(h:Q u s)
 (hd:(x==("__debug__":Str))=false:=by decide):wpAny (model X.prog X.w) X.A (eval (.Name x pos) X.env) Q E s :=
 Calls.Name_function_global I.ok.kind hg (Calls.loadGlobal_global (by rw[I.ok.glob];exact I.mod.glob.keeps I.bk) hm h) hd
theorem tO{E:iH}{pq:br}{s:Shared}{σ:St}{H:Hp}{x:Str}{u:Value}{pos:Pos}{Q:iH}(I:Inv X pq σ H s)(hg:Gl X x)(hm:X.mg x=none)(hv:bootBuiltins x=some u)(h:Q u s)
 (hn:x≠"__name__":=by decide) (hd:(x==("__debug__":Str))=false:=by decide):wpAny (model X.prog X.w) X.A (eval (.Name x pos) X.env) Q E s:=by
 obtain⟨mb,h1,h2⟩:=I.mod.blt;exact Calls.Name_function_global I.ok.kind hg (Calls.loadGlobal_builtin (by rw[I.ok.glob];exact I.mod.glob.keeps I.bk) hm (by rw[I.ok.blt];exact h1.keeps I.bk) ((h2 x hn).trans hv) h) hd
theorem HD{x:Str}{v:V}{u:Value}{pos:Pos}(hg:Gl X x)(hm:X.mg x=some u)(r:RelV v u)(hd:(x==("__debug__":Str))=false:=by decide):PE X (.Name x pos) (tC v) :=
 fun _ _ _ H _ I h=>xU I hg hm ⟨v,H,I,r,h⟩ hd
variable {a b:Expr}{ta tb:TE}{pos:Pos}
def tB(t:TE):TT:=fun σ H Q=>t σ H fun x H1=>∃ c,x = .bl c/\Q c H1
theorem xV{e:Expr}{t:TE}(h:PE X e t)(he:∀ whole,isTrue e X.env whole=(do let v←whole;standAt e.pos;holding [v] (truthy v)):=by intro _;rfl):PT X e (tB t):=by
 intro pq s σ H Q I hw;refine isTrue_plain (fh (h pq s σ H _ I hw) fun v s1 ⟨x,H1,I1,r1,q1⟩=>?_) (he _)
 obtain⟨d,rfl,q⟩:=q1;cases r1;exact wpAny_truthy_bool ⟨H1,I1,q⟩
variable {tA Ow:TT}{rest:List Expr}
def PK(t u:TT):TT:=fun σ H Q=>t σ H fun c H1=>if c=true then u σ H1 Q else Q false H1
def Yz(t u:TT):TT:=fun σ H Q=>t σ H fun c H1=>if c=true then Q true H1 else u σ H1 Q
def PL(t:TT):TT:=fun σ H Q=>t σ H fun c H1=>Q (!c) H1
theorem xW(ha:PT X a tA):PW X (.BoolOp .And [a] pos) tA:=by
 intro wh pq s σ H Q I h;refine isTrue_and (fh (ha pq s σ H Q I h) fun c s1 e=>?_)
 cases c with
 | true=>exact isTrue_and_nil e
 | false=>exact e
theorem AX(ha:PT X a tA):PW X (.BoolOp .Or [a] pos) tA:=by
 intro wh pq s σ H Q I h;refine isTrue_or (fh (ha pq s σ H Q I h) fun c s1 e=>?_)
 cases c with
 | false=>exact isTrue_or_nil e
 | true=>exact e
theorem AY(ha:PT X a tA)(hb:PW X (.BoolOp .And (b::rest) pos) Ow):PW X (.BoolOp .And (a::b::rest) pos) (PK tA Ow):=by
 intro wh pq s σ H Q I h;refine isTrue_and (fh (ha pq s σ H _ I h) fun c s1 ⟨H1,I1,q1⟩=>?_)
 cases c with
 | true=>exact hb wh pq s1 σ H1 Q I1 q1
 | false=>exact⟨H1,I1,q1⟩
theorem EK(ha:PT X a tA)(hb:PW X (.BoolOp .Or (b::rest) pos) Ow):PW X (.BoolOp .Or (a::b::rest) pos) (Yz tA Ow):=by
 intro wh pq s σ H Q I h;refine isTrue_or (fh (ha pq s σ H _ I h) fun c s1 ⟨H1,I1,q1⟩=>?_)
 cases c with
 | true=>exact⟨H1,I1,q1⟩
 | false=>exact hb wh pq s1 σ H1 Q I1 q1
theorem AZ(ha:PT X a tA):PT X (.UnaryOp .Not a pos) (PL tA):=by
 intro pq s σ H Q I h;exact isTrue_not (ha pq s σ H (fun c H1=>Q (!c) H1) I h)
def LX(ta tb:TE):TE:=fun σ H Q=>ta σ H fun x H1=>∃ c,x = .bl c/\if c=true then tb σ H1 Q else Q (.bl false) H1
theorem EL{op}{t:TE}(h:PE X a t):PE X (.BoolOp op [a] pos) t:=fun pq s σ H Q I hw=>BoolOp_one (h pq s σ H Q I hw)
theorem EM(ha:PE X a ta)(hb:PE X (.BoolOp .And (b::rest) pos) tb):PE X (.BoolOp .And (a::b::rest) pos) (LX ta tb):=by
 intro pq s σ H Q I h;refine BoolOp_and (fh (ha pq s σ H _ I h) fun v s1 ⟨x,H1,I1,r1,q1⟩=>?_)
 obtain⟨c,rfl,q1⟩:=q1;cases r1;refine wpAny_truthy_bool ?_;cases c with
 | true=>exact hb pq s1 σ H1 Q I1 q1
 | false=>exact⟨.bl false,H1,I1,rfl,q1⟩
def YA(t:TT)(ta tb:TE):TE:=fun σ H Q=>t σ H fun c H1=>if c=true then ta σ H1 Q else tb σ H1 Q
theorem j6{c:Expr}(hc:PT X c tA)(ha:PE X a ta)(hb:PE X b tb):PE X (.IfExp c a b pos) (YA tA ta tb):=by
 intro pq s σ H Q I h;refine wpAny_IfExp (fh (hc pq s σ H _ I h) fun d s1 ⟨H1,I1,q1⟩=>?_)
 cases d with
 | true=>exact ha pq s1 σ H1 Q I1 q1
 | false=>exact hb pq s1 σ H1 Q I1 q1
end
def aW(K:bY)(H:Hp)(a:Addr)(xs:List V):Prop :=
 Rd H a (.lst xs)\/
  ∃(o:Obj) (its:Array Value) (n:Nat),K.lookup a=some o/\o.cls = .type "list"/\o.dict=none/\o.data = .seq its n/\its.size<=sizeLine/\Vals xs its.toList
def bI(K:bY)(H:Hp)(a:Addr)(xs:List V):Prop :=
 Rd H a (.tup xs)\/
  ∃(o:Obj) (its:Array Value) (n:Nat),K.lookup a=some o/\o.cls = .type "tuple"/\o.data = .seq its n/\its.size<=sizeLine/\Vals xs its.toList
def PM:Value->Option V
 | .none=>some .iC
 | .bool b=>some (.bl b)
 | .int i _=>some (.int i)
 | .str x _=>some (.str x)
 | .bytes b _=>some (.EF b)
 | .float b _=>some (.PB b)
 | .ref a=>some (.ref a)
 | .type n=>some (.ty n)
 | _=>none
theorem RelV.abs{x:V}{u:Value}(r:RelV x u):PM u=some x:=by
 cases x with
 | iC=>cases r;rfl
 | bl _=>cases r;rfl
 | int _=>obtain⟨t,rfl⟩:=r;rfl
 | str _=>obtain⟨t,rfl⟩:=r;rfl
 | EF _=>obtain⟨t,rfl⟩:=r;rfl
 | PB _=>obtain⟨t,rfl⟩:=r;rfl
 | ref _=>cases r;rfl
 | ty _=>cases r;rfl
theorem RelV.inj{x y:V}{u:Value}(r:RelV x u)(q:RelV y u):x=y:=Option.some.inj (r.abs.symm.trans q.abs)
theorem Vals.inj:∀{xs ys:List V} {us:List Value},Vals xs us->Vals ys us->xs=ys
 | _,_,_,.nil,.nil=>rfl
 | _,_,_,.cons r t,.cons r' t'=>by rw[r.inj r',Vals.inj t t']
section
variable {X:Cx}{pq:br}{σ:St}{H:Hp}{s:Shared}{a:Addr}{xs ys:List V}
theorem aW.of{K:bY}(h:H a=some (.lst xs)):aW K H a xs:=.inl (.inl h)
theorem bI.of{K:bY}(h:H a=some (.tup xs)):bI K H a xs:=.inl (.inl h)
theorem Inv.list(I:Inv X pq σ H s)(h:aW X.K H a xs):∃ its:List Value,Vals xs its/\PlainL s.heap a its.toArray/\xs.length<=sizeLine:=by
 rcases h with h|⟨o,its,n,hk,hc,hd,hs,hz,r⟩
 ·obtain⟨z,its,n,r,e⟩:=h.ok I.hok;exact⟨its,r,⟨_,n,e,rfl,rfl,rfl⟩,z⟩
 ·refine⟨its.toList,r,⟨o,n,I.Lw a o hk,hc,hd,by simpa using hs⟩,?_⟩
  have e:=r.length;simp only[Array.length_toList]at e
  lia
theorem Inv.tuple(I:Inv X pq σ H s)(h:bI X.K H a xs):∃ its:List Value,Vals xs its/\IsTup s.heap a its.toArray/\xs.length<=sizeLine:=by
 rcases h with h|⟨o,its,n,hk,hc,hs,hz,r⟩
 ·obtain⟨z,its,r,p⟩:=h.ok I.hok;exact⟨its,r,p,z⟩
 ·refine⟨its.toList,r,⟨o,I.Lw a o hk,hc,n,by simpa using hs⟩,?_⟩
  have e:=r.length;simp only[Array.length_toList]at e
  lia
theorem Inv.tP(I:Inv X pq σ H s)(h:aW X.K H a xs)(h' : aW X.K H a ys):xs=ys:=by
 obtain⟨its,r,⟨o,n,e,_,_,d⟩,_⟩:=I.list h;obtain⟨its',r',⟨o',n',e',_,_,d'⟩,_⟩:=I.list h';rw[e]at e';cases e';rw[d]at d';injection d' with d1 _
 have:its=its':=by simpa using congrArg Array.toList d1
 subst this;exact r.inj r'
theorem Inv.Dl(I:Inv X pq σ H s)(h:bI X.K H a xs)(h' : bI X.K H a ys):xs=ys:=by
 obtain⟨its,r,⟨o,e,_,n,d⟩,_⟩:=I.tuple h;obtain⟨its',r',⟨o',e',_,n',d'⟩,_⟩:=I.tuple h';rw[e]at e';cases e';rw[d]at d';injection d' with d1 _
 have:its=its':=by simpa using congrArg Array.toList d1
 subst this;exact r.inj r'
end
abbrev Cx.tQ(X:Cx)(E:iH):Cx:={ X with xe:=E}
abbrev Cx.EB(X:Cx):Cx:=X.tQ fun _ _=>False
theorem Cx.Ok.tQ{X:Cx}(ok:X.Ok)(E:iH):(X.tQ E).Ok :=
 ⟨ok.mod,ok.kind,ok.glob,ok.blt,ok.above,ok.inj,ok.has,ok.Lv,ok.hd,ok.frames,ok.AR,ok.PD,ok.bs,ok.HC,ok.AV,ok.EI,ok.funs,ok.Jr⟩
theorem Cx.Ok.jd{X:Cx}{E:iH}(ok:(X.tQ E).Ok):X.Ok :=
 ⟨ok.mod,ok.kind,ok.glob,ok.blt,ok.above,ok.inj,ok.has,ok.Lv,ok.hd,ok.frames,ok.AR,ok.PD,ok.bs,ok.HC,ok.AV,ok.EI,ok.funs,ok.Jr⟩
section
variable {X:Cx}{pq:br}{σ:St}{H:Hp}{s:Shared}{E:iH}
theorem Inv.tQ(I:Inv X pq σ H s)(E:iH):Inv (X.tQ E) pq σ H s:=⟨I.ok.tQ E,I.os,I.bare,I.base,I.loc,I.cell,I.free,I.j4,I.pin,I.hok,I.len⟩
theorem Inv.jd(I:Inv (X.tQ E) pq σ H s):Inv X pq σ H s:=⟨I.ok.jd,I.os,I.bare,I.base,I.loc,I.cell,I.free,I.j4,I.pin,I.hok,I.len⟩
theorem SP.jd{D:Ends}{f:Flow}{s' : Shared}(h:SP (X.tQ E) pq D f s'):SP X pq D f s':=by
 cases f with
 | next=>obtain⟨σ',H',I,q⟩:=h;exact⟨σ',H',I.jd,q⟩
 | brk=>obtain⟨σ',H',I,q⟩:=h;exact⟨σ',H',I.jd,q⟩
 | cont=>obtain⟨σ',H',I,q⟩:=h;exact⟨σ',H',I.jd,q⟩
 | ret u=>obtain⟨v,σ',H',I,r,q⟩:=h;exact⟨v,σ',H',I.jd,r,q⟩
theorem AW.EB{st:List Stmt}{t:TS}(h:AW X.EB st t):AW X st t:=fun pq s σ H D I hw =>
 wpAny_mono (h pq s σ H D (I.tQ _) hw) (fun _ _ q=>q.jd) fun _ _ z=>False.elim z
end
section
variable {X:Cx}{st:Stmt}{rest:List Stmt}{t u:TS}{e:Expr}{te:TE}{pos:Pos}
def bG:TS:=fun D σ H=>D.nx σ H
def Ends.on(D:Ends)(u:TS):Ends:={ D with nx:=u D}
def ay(t u:TS):TS:=fun D σ H=>t (D.on u) σ H
theorem bW:AW X [] bG:=fun _ _ σ H _ I h=>wpAny_execs_nil ⟨σ,H,I,h⟩
theorem ai(h1:PS X st t)(h2:AW X rest u):AW X (st::rest) (ay t u):=by
 intro pq s σ H D I h;refine wpAny_execs_cons (fh (h1 pq s σ H { D with nx:=u D} I h) fun f s1 q=>?_)
 cases f with
 | next =>
   obtain⟨σ',H',I',q⟩:=q;exact h2 pq s1 σ' H' D I' q
 | ret v=>exact q
 | brk=>exact q
 | cont=>exact q
theorem av(h1:PS X st t):AW X [st] t:=by
 intro pq s σ H D I h;refine wpAny_execs_cons (fh (h1 pq s σ H D I h) fun f s1 q=>?_)
 cases f with
 | next=>exact wpAny_execs_nil q
 | ret v=>exact q
 | brk=>exact q
 | cont=>exact q
theorem Inv.quiet{pq:br}{σ:St}{H:Hp}{s:Shared}(I:Inv X pq σ H s):interactive X.env=false:=by simp[interactive,I.ok.kind]
def LY(te:TE):TS:=fun D σ H=>te σ H fun _ H1=>D.nx σ H1
theorem gW(he:PE X e te)(hs:swapsWith e none pos.line X.env=pure false:=by rfl):PS X (.Expr e pos) (LY te):=by
 intro pq s σ H D I h;exact wpAny_Expr_any (fh (he pq s σ H _ I h) fun v s1 ⟨x,H1,I1,r1,q1⟩=>⟨σ,H1,I1,q1⟩) I.quiet hs
def PN(te:TE):TS:=fun D σ H=>te σ H D.rt
theorem aQ(he:PE X e te):PS X (.Return (some e) pos) (PN te):=by
 intro pq s σ H D I h;exact wpAny_Return_some (fh (he pq s σ H _ I h) fun v s1 ⟨x,H1,I1,r1,q1⟩=>⟨x,σ,H1,I1,r1,q1⟩)
def dB(c:TT)(t u:TS):TS:=fun D σ H=>c σ H fun b H1=>if b=true then t D σ H1 else u D σ H1
theorem fO{c:Expr}{a b:List Stmt}{tc:TT}(hc:PT X c tc)(ha:AW X a t)(hb:AW X b u):PS X (.If c a b pos) (dB tc t u):=by
 intro pq s σ H D I h;refine wpAny_If (fh (hc pq s σ H _ I h) fun d s1 ⟨H1,I1,q1⟩=>?_)
 cases d with
 | true=>exact ha pq s1 σ H1 D I1 q1
 | false=>exact hb pq s1 σ H1 D I1 q1
end
abbrev TG:=V->St->Hp->(St->Hp->Prop)->Prop
abbrev Js:=List V->St->Hp->(St->Hp->Prop)->Prop
def PG(X:Cx)(target:Expr)(t:TG):Prop :=
 ∀(pq:br) (s:Shared) (σ:St) (H:Hp) (v:V) (u:Value) (Q:St->Hp->Prop),Inv X pq σ H s->RelV v u->t v σ H Q->
  wpAny (model X.prog X.w) X.A (assign target X.env u) (fun _ s'=>∃ σ' H',Inv X pq σ' H' s'/\Q σ' H') X.xe s
def LZ(X:Cx)(ts:List Expr)(t:Js):Prop :=
 ∀(pq:br) (s:Shared) (σ:St) (H:Hp) (vs:List V) (us:List Value) (Q:St->Hp->Prop),Inv X pq σ H s->Vals vs us->t vs σ H Q->
  wpAny (model X.prog X.w) X.A (assignInOrder ((assignEach ts X.env).map (·.2)) us) (fun _ s'=>∃ σ' H',Inv X pq σ' H' s'/\Q σ' H') X.xe s
abbrev EN:=V->V->V->Hp->(Hp->Prop)->Prop
def Km(X:Cx)(t:EN):Prop :=
 ∀(pq:br) (s:Shared) (σ:St) (H:Hp) (o i v:V) (ov iv u:Value) (Q:Hp->Prop),Inv X pq σ H s->RelV o ov->RelV i iv->RelV v u->t o i v H Q->
  wpAny (model X.prog X.w) X.A (setItem ov iv u) (fun _ s'=>∃ H',Inv X pq σ H' s'/\Q H') X.xe s
abbrev L0:=V->V->Hp->VK->Prop
def WL(X:Cx)(op:Operator)(t:L0):Prop :=
 ∀(pq:br) (s:Shared) (σ:St) (H:Hp) (x y:V) (v u:Value) (Q:VK),Inv X pq σ H s->RelV x v->RelV y u->t x y H Q->
  wpAny (model X.prog X.w) X.A (inplaceOp op v u) (EP X pq σ Q) X.xe s
section
variable {X:Cx}{pos:Pos}
def Jt(i:Nat):TG:=fun v σ H Q=>Q (σ.set i (some v)) H
theorem aE{i:Nat}{x:Str}(hN:X.N.Nodup)(hi:X.N[i]?=some x)(hx:Loc X.env.scope x)(hf:X.fn x=true\/X.env.scope.names.lookup x=some .local:=by first | exact .inl rfl | exact .inr rfl | assumption):PG X (.Name x pos) (Jt i):=by
 intro pq s σ H v u Q I r h;exact wpAny_assign_Name (mK I hN hi hx r (fun s' I'=>⟨_,H,I',h⟩) hf)
def PR:Js:=fun vs σ H Q=>vs=[]/\Q σ H
def L1(t:TG)(u:Js):Js:=fun vs σ H Q=>∃ v r,vs=v::r/\t v σ H fun σ' H'=>u r σ' H' Q
theorem jB:LZ X [] PR:=by
 intro pq s σ H vs us Q I r h;obtain⟨e,h⟩:=h;subst e;cases r;exact assignInOrder_nil ⟨σ,H,I,h⟩
theorem bJ{e:Expr}{es:List Expr}{t:TG}{u:Js}(h1:PG X e t)(h2:LZ X es u)
 (hs:(assignEach (e::es) X.env).map (·.2)=assign e X.env::(assignEach es X.env).map (·.2):=by rfl):LZ X (e::es) (L1 t u):=by
 intro pq s σ H vs us Q I r h;obtain⟨v,vr,e1,h⟩:=h;subst e1;cases r with
 | cons r rr =>
   rw[hs];refine assignInOrder_cons (fh (h1 pq s σ H _ _ _ I r h) fun _ s1 ⟨σ1,H1,I1,q1⟩=>?_)
   exact h2 pq s1 σ1 H1 _ _ Q I1 rr q1
def L3(K:bY)(n:Nat)(t:Js):TG:=fun v σ H Q=>∃ a xs,v = .ref a/\bI K H a xs/\xs.length=n/\t xs σ H Q
theorem Kn{es:List Expr}{k:Nat}{t:Js}{n:Nat}(hc:X.calm=true)(h:LZ X es t)
 (hn:(assignEach es X.env).length=n:=by rfl) (hst:(assignEach es X.env).findIdx? (·.1)=none:=by rfl):PG X (.Tuple es k pos) (L3 X.K n t):=by
 intro pq s σ H v u Q I r hw;obtain⟨a,xs,e1,hq,hl,hw⟩:=hw;subst e1;cases r;obtain⟨its,rv,ht,hz⟩:=I.tuple hq;refine assign_Tuple_tuple (I.ok.hd hc) ht (by simp[hn,<-hl,rv.length]) hst fun h' hx=>?_
 have I1:Inv X pq σ H { s with heap:=h'}:=I.kept (t':=s.toks) fun b o e=>hx b o (Nat.ne_of_lt (Heap.lt_size e)) e
 exact h pq _ σ H xs _ Q I1 (by simpa using rv) hw
def PU(to ti:TE)(t:EN):TG:=fun v σ H Q=>to σ H fun o H1=>ti σ H1 fun i H2=>t o i v H2 fun H3=>Q σ H3
theorem tR{o i:Expr}{to ti:TE}{t:EN}(ho:PE X o to)(hi:PE X i ti)(hs:Km X t)
 (ha:∀ v,assign (.Subscript o i pos) X.env v=(do
  let ov←holding [v] (eval o X.env)
  let iv←holding [v,ov] (eval i X.env)
  standAt pos
  holding [v,ov,iv] (setItem ov iv v)
  release [v,ov,iv] []):=by intro _;rfl):PG X (.Subscript o i pos) (PU to ti t):=by
 intro pq s σ H v u Q I r h;rw[ha];refine iX (wpAny_holding (fh (ho pq s σ H _ I h) fun ov s1 ⟨x,H1,I1,r1,q1⟩=>?_))
 refine iX (wpAny_holding (fh (hi pq s1 σ H1 _ I1 q1) fun iv s2 ⟨y,H2,I2,r2,q2⟩=>?_))
 refine iX (wpAny_standAt (iX (wpAny_holding (fh (hs pq s2 σ H2 x y v ov iv u _ I2 r1 r2 r q2) fun _ s3 ⟨H3,I3,q3⟩=>?_))))
 exact wpAny_release ⟨σ,H3,I3,q3⟩
def L4(te:TE)(g:TG):TS:=fun D σ H=>te σ H fun x H1=>g x σ H1 D.nx
theorem rq{tg e:Expr}{te:TE}{g:TG}(he:PE X e te)(hg:PG X tg g)(hs:swapsWithSole [tg] e pos.line X.env=pure false:=by rfl)(hw:swappedStores [tg] e X.env=pure none:=by rfl)
 (h1:(assignEach [tg] X.env).map (·.2)=[assign tg X.env]:=by rfl):PS X (.Assign [tg] e pos) (L4 te g):=by
 intro pq s σ H D I h;refine wpAny_Assign_stores (fh (he pq s σ H _ I h) fun v s1 ⟨x,H1,I1,r1,q1⟩=>?_) hs hw
 rw[h1];exact fh (hg pq s1 σ H1 x v _ I1 r1 q1) fun _ s2 q=>q
theorem aN{i:Nat}{x:Str}{e:Expr}{te:TE}{pos' : Pos}(hN:X.N.Nodup)(hi:X.N[i]?=some x)(hx:Loc X.env.scope x)(he:PE X e te)(hs:swapsWith e (some (.Name x pos')) pos.line X.env=pure false:=by rfl)(hf:X.fn x=true\/X.env.scope.names.lookup x=some .local:=by first | exact .inl rfl | exact .inr rfl | assumption):
 PS X (.Assign [.Name x pos'] e pos) (L4 te (Jt i)):=by
 intro pq s σ H D I h;refine wpAny_Assign_Name (fh (he pq s σ H _ I h) fun v s1 ⟨y,H1,I1,r1,q1⟩=>?_) hs
 exact mK I1 hN hi hx r1 (fun s2 I2=>⟨_,H1,I2,q1⟩) hf
def PV(i:Nat)(te:TE)(ti:L0):TS:=fun D σ H=>∃ x,σ[i]?=some (some x)/\te σ H fun y H1=>ti x y H1 fun z H2=>D.nx (σ.set i (some z)) H2
theorem A3{i:Nat}{x:Str}{e:Expr}{te:TE}{op:Operator}{ti:L0}{pos' : Pos}(hN:X.N.Nodup)(hi:X.N[i]?=some x)(hx:Loc X.env.scope x)(he:PE X e te)(ho:WL X op ti)(hf:X.fn x=true\/X.env.scope.names.lookup x=some .local:=by first | exact .inl rfl | exact .inr rfl | assumption):
 PS X (.AugAssign (.Name x pos') op e pos) (PV i te ti):=by
 intro pq s σ H D I h;obtain⟨v,e1,h⟩:=h;obtain⟨m,hn,hl⟩:=I.loc;have YB:Ou X.env.scope x:=by rcases hx with k | k;exact .inl k;exact .inr (.inl k)
 obtain⟨u,r,l⟩:=hl i x v hi e1 YB;refine wpAny_AugAssign_Name ?_;have go:wpAny (model X.prog X.w) X.A (eval e X.env) (fun w s₂=>wpAny (model X.prog X.w) X.A (inplaceOp op u w) (fun r s₃=>wpAny (model X.prog X.w) X.A (storeName X.env x r) (fun _=>SP X pq D .next) X.xe s₃) X.xe s₂) X.xe s:=by
  refine fh (he pq s σ H _ I h) fun w s1 ⟨y,H1,I1,r1,q1⟩=>?_
  refine fh (ho pq s1 σ H1 v y u w _ I1 r r1 q1) fun z s2 ⟨zv,H2,I2,r2,q2⟩=>?_
  exact mK I2 hN hi hx r2 (fun s3 I3=>⟨_,H2,I3,q2⟩) hf
 rcases l with⟨hk,hm⟩|⟨hk,c,hc,hcell⟩
 ·exact wpAny_loadName_local I.ok.kind hk hn hm go
 ·rcases hk with hk|hk
  ·exact wpAny_loadName_cell I.ok.kind hk hc hcell go
  ·rcases hx with k|k
   ·have:X.env.scope.names.lookup x=some .free:=hk;rw[k]at this;cases this
   ·have:X.env.scope.names.lookup x=some .free:=hk;rw[k]at this;cases this
def L5(to ti te:TE)(HE:V->V->Hp->VK->Prop)(Ox:L0)(HF:EN):TS:=fun D σ H=>to σ H fun o H1=>ti σ H1 fun i H2=>HE o i H2 fun x H3=>te σ H3 fun y H4=>Ox x y H4 fun z H5=>HF o i z H5 fun H6=>D.nx σ H6
def L6(X:Cx)(t:V->V->Hp->VK->Prop):Prop :=
 ∀(pq:br) (s:Shared) (σ:St) (H:Hp) (o i:V) (ov iv:Value) (Q:VK),Inv X pq σ H s->RelV o ov->RelV i iv->t o i H Q->
  wpAny (model X.prog X.w) X.A (getItem ov iv) (EP X pq σ Q) X.xe s
theorem BZ{o i e:Expr}{to ti te:TE}{HE:V->V->Hp->VK->Prop}{Ox:L0}{HF:EN}{op:Operator}{tpos:Pos}(ho:PE X o to)(hi:PE X i ti)(hg:L6 X HE)(he:PE X e te)(hp:WL X op Ox)(hs:Km X HF)
 (ha:∀ ov iv new,augStore i ov iv new=(do holding [new,ov,iv] (setItem ov iv new);release [new,ov,iv] [];pure .next):=by intros;rfl):PS X (.AugAssign (.Subscript o i tpos) op e pos) (L5 to ti te HE Ox HF):=by
 intro pq s σ H D I h;refine wpAny_AugAssign_SubscriptAny (fh (ho pq s σ H _ I h) fun ov s1 ⟨x1,H1,I1,r1,q1⟩=>?_) ha
 refine fh (hi pq s1 σ H1 _ I1 q1) fun iv s2 ⟨x2,H2,I2,r2,q2⟩=>?_
 refine fh (hg pq s2 σ H2 x1 x2 ov iv _ I2 r1 r2 q2) fun old s3 ⟨x3,H3,I3,r3,q3⟩=>?_
 refine fh (he pq s3 σ H3 _ I3 q3) fun v s4 ⟨x4,H4,I4,r4,q4⟩=>?_
 refine fh (hp pq s4 σ H4 x3 x4 old v _ I4 r3 r4 q4) fun new s5 ⟨x5,H5,I5,r5,q5⟩=>?_
 exact fh (hs pq s5 σ H5 x1 x2 x5 ov iv new _ I5 r1 r2 r5 q5) fun _ s6 ⟨H6,I6,q6⟩=>⟨σ,H6,I6,q6⟩
def A4(c:TT)(tb:TS):TS:=fun D σ H=>∃ W:Nat->St->Hp->Prop,(∃ m,W m σ H)/\∀ m σ H,W m σ H->
 c σ H fun b H1=>if b=true then ∃ N:St->Hp->Prop,(∀ σ' H',N σ' H'->∃ m',m'<m/\W m' σ' H')/\tb { D with nx:=N,ct:=N,bk:=D.nx} σ H1 else D.nx σ H1
theorem EO{c:Expr}{body:List Stmt}{tc:TT}{tb:TS}(hp:PassesOwn (model X.prog X.w) X.A X.env X.xe)(hc:PT X c tc)(hb:AW X body tb):PS X (.While c body [] pos) (A4 tc tb):=by
 intro pq s σ H D I h;obtain⟨W,⟨m0,w0⟩,turn⟩:=h;refine wpAny_While (codeAny_whileLoop (fun n s'=>∃ σ' H',Inv X pq σ' H' s'/\W n σ' H') ?_ m0 ⟨σ,H,I,w0⟩)
 rintro n s1 ⟨σ1,H1,I1,w1⟩;refine wpAny_passesOwn hp (fh (hc pq s1 σ1 H1 _ I1 (turn n σ1 H1 w1)) fun b s2 ⟨H2,I2,q2⟩=>?_)
 cases b with
 | true =>
   obtain⟨N,hN,q2⟩:=q2;rw[if_pos rfl];refine wpAny_passesOwn hp (fh (hb pq s2 σ1 H2 _ I2 q2) fun f s3 q3=>?_)
   cases f with
   | next =>
     obtain⟨σ3,H3,I3,n3⟩:=q3;obtain⟨m',hm,w3⟩:=hN σ3 H3 n3;exact⟨m',hm,σ3,H3,I3,w3⟩
   | cont =>
     obtain⟨σ3,H3,I3,n3⟩:=q3;obtain⟨m',hm,w3⟩:=hN σ3 H3 n3;exact⟨m',hm,σ3,H3,I3,w3⟩
   | brk=>exact q3
   | ret v=>exact q3
 | false =>
   rw[if_neg Bool.false_ne_true];exact wpAny_execs_nil ⟨σ1,H2,I2,q2⟩
end
structure It where
 go:Nat->Hp->Prop
 HG:Nat->Hp->V->Hp->Prop
 stop:Nat->Hp->Prop
def jA(X:Cx)(pq:br)(H:Hp)(b:Addr):Prop :=
 H b=none/\b≠X.env.locals/\b∉X.fs/\(b∈X.ex\/X.s₀.heap.objs.size<=b)/\(∀ x c,X.env.cells.lookup x=some c->c≠b)/\∀ p∈X.pn++pq,p.1≠b
theorem Inv.HH{X:Cx}{pq:br}{σ:St}{H H' : Hp}{s:Shared}{b:Addr}(I:Inv X pq σ H s)(hb:s.heap.objs.size<=b)(hn:H' b=none):jA X pq H' b:=by
 refine⟨hn,Nat.ne_of_gt (Nat.lt_of_lt_of_le I.lt hb),I.Kf hb,.inr (Nat.le_trans I.sz hb),fun x c e z=>?_,fun p hp z=>?_⟩
 ·obtain⟨v,q⟩:=I.cell x c e;exact absurd (Nat.lt_of_lt_of_le q.lt (by rw[z];exact hb)) (Nat.lt_irrefl _)
 ·exact absurd (Nat.lt_of_lt_of_le (Heap.lt_size (I.pin p hp).1) (by rw[z];exact hb)) (Nat.lt_irrefl _)
structure Turn(P:Program)(w:World)(K:bY)(tg:Expr)(J:It)(fp:List Addr)(it:Addr)(tn:Nat->Heap->Prop):Prop where
 mem:it∈fp
 obj:∀ i h,tn i h->∀ b∈fp,∃ o,h.get? b=some o/\∀ v,o.data≠.cell v
 keep:∀ i h h',tn i h->(∀ b∈fp,∀ o,h.get? b=some o->h'.get? b=some o)->tn i h'
 item:∀(X:Cx),X.prog=P->X.w=w->X.K=K->X.calm=true->∀(i:Nat) (pq:br) (s:Shared) (σ:St) (H:Hp) (E:iH),Inv X pq σ H s->(∀ b∈fp,jA X pq H b)->tn i s.heap->J.go i H->
  wpAny (model P w) X.A (pyNext (.ref it)) (fun r s1=>∃ u,r=some u/\
   wpAny (model P w) X.A (letOwnedTupleGo tg (.ref it) u) (fun _ s2=>∃ x H',Inv X pq σ H' s2/\RelV x u/\J.HG i H x H'/\tn (i+1) s2.heap/\∀ b∈fp,H' b=none) E s1) E s
 done:∀(X:Cx),X.prog=P->X.w=w->X.K=K->X.calm=true->∀(i:Nat) (pq:br) (s:Shared) (σ:St) (H:Hp) (E:iH),Inv X pq σ H s->(∀ b∈fp,jA X pq H b)->tn i s.heap->J.stop i H->
  wpAny (model P w) X.A (pyNext (.ref it)) (fun r s1=>r=none/\Inv X pq σ H s1) E s
 self:∀(A:Around) (i:Nat) (s:Shared) (Q:iH) (E:iH),tn i s.heap->Q (.ref it) s->wpAny (model P w) A (pyIter (.ref it)) Q E s
abbrev TI:=St->Hp->(It->Hp->Prop)->Prop
def WM(X:Cx)(pq:br)(σ:St)(tg:Expr)(R:It->Hp->Prop)(itv:Value)(s2:Shared):Prop :=
 ∃(it:Addr) (fp:List Addr) (tn:Nat->Heap->Prop) (J:It) (H' : Hp),itv = .ref it/\Inv X pq σ H' s2/\Turn X.prog X.w X.K tg J fp it tn/\tn 0 s2.heap/\(∀ b∈fp,jA X pq H' b)/\R J H'
def PI(X:Cx)(tg iter:Expr)(wi:TI):Prop :=
 ∀(pq:br) (s:Shared) (σ:St) (H:Hp) (R:It->Hp->Prop),Inv X pq σ H s->wi σ H R->
  wpAny (model X.prog X.w) X.A (eval iter X.env) (fun v s1=>wpAny (model X.prog X.w) X.A (pyIter v) (WM X pq σ tg R) X.xe s1) X.xe s
theorem ER{M:Model}{A:Around}{E:iH}{s:Shared}{tg:Expr}{it:Addr}{u:Value}{o:Obj}{n:String}{vs:Array Value}{Q:Unit->Shared->Prop}(ho:s.heap.get? it=some o)(hc:o.cls = .type n)(hd:o.data = .fields vs)
 (hn:["enumerate","zip","dict_itemiterator","dict_reverseitemiterator","odict_iterator","itertools.zip_longest","itertools.pairwise"].contains n=false) (hQ:Q () s):wpAny M A (letOwnedTupleGo tg (.ref it) u) Q E s:=by
 unfold letOwnedTupleGo;cases tg<;>first
  | exact wpAny_pure hQ
  | (cases u<;>first
   | exact wpAny_pure hQ
   | (refine iX (wpAny_load ho ?_)
      rw[hc,hd];show wpAny M A (if(["enumerate","zip","dict_itemiterator","dict_reverseitemiterator","odict_iterator","itertools.zip_longest","itertools.pairwise"].contains n&&vs[0]? == some (rawInt _))=true then _ else _) Q E s
      rw[if_neg (by intro h;rw[hn,Bool.false_and]at h;cases h)]
      exact wpAny_pure hQ))
def HJ(K:bY)(a:Addr):It :=
 ⟨fun i H=>∃ xs x,aW K H a xs/\xs[i]?=some x,fun i H x H'=>H' = H/\∀ xs,aW K H a xs->xs[i]?=some x,fun i H=>∃ xs,aW K H a xs/\xs.length<=i⟩
def Lx(K:bY)(a:Addr):It :=
 ⟨fun i H=>∃ xs x,bI K H a xs/\xs[i]?=some x,fun i H x H'=>H' = H/\∀ xs,bI K H a xs->xs[i]?=some x,fun i H=>∃ xs,bI K H a xs/\xs.length<=i⟩
def ES(lo:Int)(n:Nat):It:=⟨fun i _=>i<n,fun i H x H'=>H' = H/\x = .int (lo+i),fun i _=>n<=i⟩
theorem Dm{P:Program}{w:World}{K:bY}{tg:Expr}(a it:Addr):Turn P w K tg (HJ K a) [it] it (fun i h=>h.IsListIter it a i) where
 mem:=by simp
 obj:=fun i h st b hb=>by
  have e:b=it:=by simpa using hb
  subst e;obtain⟨o,e,c,d⟩:=st;exact⟨o,e,fun v z=>by rw[d]at z;cases z⟩
 keep:=fun i h h' st k=>st.at fun o e=>k it (by simp) o e
 item:=by
  intro X hP hw hK hc i pq s σ H E I hf st hg;subst hP hw hK;obtain⟨xs,x,hq,hx⟩:=hg;obtain⟨its,rv,p,hz⟩:=I.list hq;obtain⟨u,hu,ru⟩:=rv.get hx;obtain⟨f0,f1,f2,f3,f4,f5⟩:=hf it (by simp)
  refine wpAny_pyNext_list_item st p.isList (x:=u) (by simpa using hu) fun h' st' sb=>?_
  have I1:Inv X pq σ H { s with heap:=h'}:=I.turned (t':=s.toks) (fun b o hb e=>(sb.2 b hb).trans e) f0 f1 f3 f4 f5
  obtain⟨o,e,c,d⟩:=id st';exact⟨u,rfl,ER (s:={ s with heap:=h'}) e c d (by decide) ⟨x,H,I1,ru,⟨rfl,fun ys hy=>by rw[I.tP hy hq];exact hx⟩,st',fun b hb=>(hf b hb).1⟩⟩
 done:=by
  intro X hP hw hK hc i pq s σ H E I hf st hg;subst hP hw hK;obtain⟨xs,hq,hx⟩:=hg;obtain⟨its,rv,p,hz⟩:=I.list hq;obtain⟨f0,f1,f2,f3,f4,f5⟩:=hf it (by simp)
  have hl:=rv.length;exact wpAny_pyNext_list_end (I.ok.hd hc) st p.isList (by simp;lia) fun h' eb=>⟨rfl,I.turned (t':=s.toks) (fun b o hb e=>eb b o hb e) f0 f1 f3 f4 f5⟩
 self:=fun _ _ _ _ _ st h=>wpAny_pyIter_listiter st h
theorem A5{P:Program}{w:World}{K:bY}{tg:Expr}(a it:Addr):Turn P w K tg (Lx K a) [it] it (fun i h=>h.IsTupleIter it a i) where
 mem:=by simp
 obj:=fun i h st b hb=>by
  have e:b=it:=by simpa using hb
  subst e;obtain⟨o,e,c,d⟩:=st;exact⟨o,e,fun v z=>by rw[d]at z;cases z⟩
 keep:=fun i h h' st k=>st.at fun o e=>k it (by simp) o e
 item:=by
  intro X hP hw hK hc i pq s σ H E I hf st hg;subst hP hw hK;obtain⟨xs,x,hq,hx⟩:=hg;obtain⟨its,rv,p,hz⟩:=I.tuple hq;obtain⟨u,hu,ru⟩:=rv.get hx;obtain⟨f0,f1,f2,f3,f4,f5⟩:=hf it (by simp)
  refine wpAny_pyNext_tuple_item st (show s.heap.IsTuple a its.toArray from p) (x:=u) (by simpa using hu) fun h' st' sb=>?_
  have I1:Inv X pq σ H { s with heap:=h'}:=I.turned (t':=s.toks) (fun b o hb e=>(sb.2 b hb).trans e) f0 f1 f3 f4 f5
  obtain⟨o,e,c,d⟩:=id st';exact⟨u,rfl,ER (s:={ s with heap:=h'}) e c d (by decide) ⟨x,H,I1,ru,⟨rfl,fun ys hy=>by rw[I.Dl hy hq];exact hx⟩,st',fun b hb=>(hf b hb).1⟩⟩
 done:=by
  intro X hP hw hK hc i pq s σ H E I hf st hg;subst hP hw hK;obtain⟨xs,hq,hx⟩:=hg;obtain⟨its,rv,p,hz⟩:=I.tuple hq;obtain⟨f0,f1,f2,f3,f4,f5⟩:=hf it (by simp)
  have hl:=rv.length;exact wpAny_pyNext_tuple_end (I.ok.hd hc) st (show s.heap.IsTuple a its.toArray from p) (by simp;lia) fun h' eb=>⟨rfl,I.turned (t':=s.toks) (fun b o hb e=>eb b o hb e) f0 f1 f3 f4 f5⟩
 self:=fun _ _ _ _ _ st h=>wpAny_pyIter_tupleiter st h
theorem A6{P:Program}{w:World}{K:bY}{tg:Expr}(it:Addr)(lo:Int)(n:Nat):Turn P w K tg (ES lo n) [it] it (fun i h=>IsRangeIter h it (lo+(i:Nat)*1) ((n:Int)-(i:Nat)) 1) where
 mem:=by simp
 obj:=fun i h st b hb=>by
  have e:b=it:=by simpa using hb
  subst e;exact⟨_,st,fun v z=>by
   have z' : Data.fields _=Data.cell v:=z;cases z'⟩
 keep:=fun i h h' st k=>k it (by simp) _ st
 item:=by
  intro X hP hw hK hc i pq s σ H E I hf st hg;subst hP hw hK;obtain⟨f0,f1,f2,f3,f4,f5⟩:=hf it (by simp)
  have W:=Walks.range (prog:=X.prog) (w:=X.w) (I.ok.hd hc) it lo 1 n;refine W.item i s _ _ hg st fun v h' tk hv st' kk=>?_
  obtain⟨t,rfl⟩:=hv;have I1:Inv X pq σ H { s with heap:=h',toks:=tk}:=I.turned (fun b o hb e=>kk b o (by simpa using hb) e) f0 f1 f3 f4 f5
  refine⟨_,rfl,ER (s:={ s with heap:=h',toks:=tk}) (n:="range_iterator") st' rfl rfl (by decide) ⟨.int (lo+i),H,I1,⟨t,?_⟩,⟨rfl,rfl⟩,st',fun b hb=>(hf b hb).1⟩⟩
  rw[Int.mul_one]
 done:=by
  intro X hP hw hK hc i pq s σ H E I hf st hg;subst hP hw hK;obtain⟨f0,f1,f2,f3,f4,f5⟩:=hf it (by simp)
  exact wpAny_pyNext_range_end (I.ok.hd hc) st (by have:n<=i:=hg;lia) fun h' eb=>⟨rfl,I.turned (t':=s.toks) (fun b o hb e=>eb b o hb e) f0 f1 f3 f4 f5⟩
 self:=fun _ _ _ _ _ st h=>wpAny_pyIter_rangeiter st h
section
variable {X:Cx}{tg:Expr}
def Ju(K:bY)(tl:TE):TI:=fun σ H R=>tl σ H fun x H1=>∃ a,x = .ref a/\(∃ xs,aW K H1 a xs)/\R (HJ K a) H1
def L7(K:bY)(tl:TE):TI:=fun σ H R=>tl σ H fun x H1=>∃ a,x = .ref a/\(∃ xs,bI K H1 a xs)/\R (Lx K a) H1
theorem HK{l:Expr}{tl:TE}(hl:PE X l tl):PI X tg l (Ju X.K tl):=by
 intro pq s σ H R I h;refine fh (hl pq s σ H _ I h) fun v s1 ⟨x,H1,I1,r1,q1⟩=>?_
 obtain⟨a,e,⟨xs,hq⟩,q⟩:=q1;subst e;cases r1;obtain⟨its,rv,p,hz⟩:=I1.list hq;refine wpAny_pyIter_list p.isList ?_;refine⟨s1.heap.objs.size,[s1.heap.objs.size],_,_,H1,rfl,I1.kept (t':=s1.toks) fun b o e=>Heap.get?_push_of_some _ e,Dm a _,⟨_,Heap.get?_push_size _ rfl,rfl,rfl⟩,fun b hb=>?_,q⟩
 have e:b=s1.heap.objs.size:=by simpa using hb
 subst e;exact I1.HH (Nat.le_refl _) (I1.hok.fresh (Nat.le_refl _))
theorem Ko{l:Expr}{tl:TE}(hl:PE X l tl):PI X tg l (L7 X.K tl):=by
 intro pq s σ H R I h;refine fh (hl pq s σ H _ I h) fun v s1 ⟨x,H1,I1,r1,q1⟩=>?_
 obtain⟨a,e,⟨xs,hq⟩,q⟩:=q1;subst e;cases r1;obtain⟨its,rv,p,hz⟩:=I1.tuple hq;refine wpAny_pyIter_tuple (show s1.heap.IsTuple a its.toArray from p) ?_
 refine⟨s1.heap.objs.size,[s1.heap.objs.size],_,_,H1,rfl,I1.kept (t':=s1.toks) fun b o e=>Heap.get?_push_of_some _ e,A5 a _,⟨_,Heap.get?_push_size _ rfl,rfl,rfl⟩,fun b hb=>?_,q⟩
 have e:b=s1.heap.objs.size:=by simpa using hb
 subst e;exact I1.HH (Nat.le_refl _) (I1.hok.fresh (Nat.le_refl _))
theorem zm{pq:br}{σ:St}{H:Hp}{s:Shared}{R:It->Hp->Prop}{E:iH}{lo hi:Int}{t u v:Tok}{tk:Nat}(I:Inv X pq σ H s)(h1 : -(2^62)<=lo)(h2:lo<2^62)(h3 : -(2^62)<=hi)(h4:hi<2^62)
 (q:R (ES lo (hi-lo).toNat) H):wpAny (model X.prog X.w) X.A (pyIter (.ref s.heap.objs.size)) (WM X pq σ tg R) E { s with heap:=s.heap.push { cls:=.type "range",data:=.fields #[.int lo t,.int hi u,.int 1 v]},toks:=tk}:=by
 refine wpAny_pyIter_range (IsRange.new ..) (small_one h1 h2 h3 h4) ?_;have I1:Inv X pq σ H { s with heap:=s.heap.push { cls:=.type "range",data:=.fields #[.int lo t,.int hi u,.int 1 v]},toks:=tk}:=I.kept fun b o e=>Heap.get?_push_of_some _ e
 refine⟨(s.heap.push { cls:=.type "range",data:=.fields #[.int lo t,.int hi u,.int 1 v]}).objs.size,[(s.heap.push { cls:=.type "range",data:=.fields #[.int lo t,.int hi u,.int 1 v]}).objs.size],_,_,H,rfl,
  I1.kept (t':=tk) fun b o e=>Heap.get?_push_of_some _ e,A6 _ lo (hi-lo).toNat,?_,fun b hb=>?_,q⟩
 ·have e1:lo+((0:Nat):Int)*1=lo:=by simp
  have e2:(((hi-lo).toNat:Nat):Int)-((0:Nat):Int)=Builtin.Range.rangeSize lo hi 1:=by rw[rangeSize_one];split<;>lia
  show IsRangeIter _ _ (lo+((0:Nat):Int)*1) ((((hi-lo).toNat:Nat):Int)-((0:Nat):Int)) 1;rw[e1,e2];exact Heap.get?_push_size _ rfl
 ·have e:b=(s.heap.push { cls:=.type "range",data:=.fields #[.int lo t,.int hi u,.int 1 v]}).objs.size:=by simpa using hb
  subst e;exact I1.HH (Nat.le_refl _) (I1.hok.fresh (Nat.le_refl _))
def L8(ta:TA):TI:=fun σ H R=>ta σ H fun vs H1=>∃ j:Int,vs=[.int j]/\-(2^62)<=j/\j<2^62/\R (ES 0 j.toNat) H1
def Ma(ta:TA):TI:=fun σ H R=>ta σ H fun vs H1=>∃ i j:Int,vs=[.int i,.int j]/\(-(2^62)<=i/\i<2^62/\-(2^62)<=j/\j<2^62)/\R (ES i (j-i).toNat) H1
theorem cH{a:Expr}{ta:TA}{p pos:Pos}(hg:Gl X "range")(hm:X.mg "range"=none)(ha:PA X [a] ta)(hs:starEach [a] X.env=[(false,eval a X.env)]:=by rfl):PI X tg (.Call (.Name "range" p) [a] [] pos) (L8 ta):=by
 intro pq s σ H R I h;refine Call_ (tO I hg hm boot_range (PyProof.Rows.callWith_type1 (fh (ha pos pq s σ H _ I h) fun us s1 ⟨vs,H1,I1,r1,q1⟩=>?_) hs rfl))
 obtain⟨j,e,q1,q2,q⟩:=q1;subst e;cases r1 with
 | cons r rr =>
   cases rr;obtain⟨t,rfl⟩:=r;exact call_range_1 (zm I1 (by lia) (by lia) q1 q2 (by simpa using q))
theorem nK{a b:Expr}{ta:TA}{p pos:Pos}(hg:Gl X "range")(hm:X.mg "range"=none)(ha:PA X [a,b] ta)(hs:starEach [a,b] X.env=[(false,eval a X.env),(false,eval b X.env)]:=by rfl)(hs2:starEach [b] X.env=[(false,eval b X.env)]:=by rfl):
 PI X tg (.Call (.Name "range" p) [a,b] [] pos) (Ma ta):=by
 intro pq s σ H R I h;refine Call_ (tO I hg hm boot_range (PyProof.Rows.callWith_type1 (fh (ha pos pq s σ H _ I h) fun us s1 ⟨vs,H1,I1,r1,q1⟩=>?_) (by rw[hs,hs2]) (by rw[hs2];rfl)))
 obtain⟨i,j,e,⟨q1,q2,q3,q4⟩,q⟩:=q1;subst e;cases r1 with
 | cons r rr =>
   cases rr with
   | cons r' rr =>
     cases rr;obtain⟨t,rfl⟩:=r;obtain⟨t',rfl⟩:=r';exact call_range_2 (zm I1 q1 q2 q3 q4 q)
def d9(wi:TI)(g:TG)(tb:TS):TS:=fun D σ H=>wi σ H fun J H1=>∃ W:Nat->Nat->St->Hp->Prop,(∃ m,W 0 m σ H1)/\∀ i m σ H,W i m σ H->
 (J.stop i H/\D.nx σ H)\/(J.go i H/\∃ N:St->Hp->Prop,(∀ σ' H',N σ' H'->∃ m',m'<m/\W (i+1) m' σ' H')/\∀ x H',J.HG i H x H'->g x σ H' fun σ2 H2=>tb { D with nx:=N,ct:=N,bk:=D.nx} σ2 H2)
def mL(fp:List Addr)(h:Heap):br:=fp.filterMap fun b=>(h.get? b).map fun o=>(b,o)
theorem cV{fp:List Addr}{h:Heap}{b:Addr}{o:Obj}(hb:b∈fp)(e:h.get? b=some o):(b,o)∈mL fp h:=List.mem_filterMap.mpr ⟨b,hb,by rw[e];rfl⟩
theorem Dn{fp:List Addr}{h:Heap}{p:Addr×Obj}(hp:p∈mL fp h):p.1∈fp/\h.get? p.1=some p.2:=by
 obtain⟨b,hb,e⟩:=List.mem_filterMap.mp hp;cases q:h.get? b with
 | none=>rw[q]at e;cases e
 | some o =>
   rw[q]at e;have e' : (b,o)=p:=Option.some.inj e;subst e';exact⟨hb,q⟩
theorem Inv.pinned{pq:br}{σ:St}{H:Hp}{s:Shared}{fp:List Addr}(I:Inv X pq σ H s)(hf:∀ b∈fp,jA X pq H b)(ho:∀ b∈fp,∃ o,s.heap.get? b=some o/\∀ v,o.data≠.cell v):Inv X (pq++mL fp s.heap) σ H s :=
 I.lj fun p hp=>(List.mem_append.mp hp).elim (fun z=>I.pin p (pO _ z)) fun z=>by
  obtain⟨hb,e⟩:=Dn z;obtain⟨f0,f1,f2,_⟩:=hf p.1 hb;obtain⟨o,e',d⟩:=ho p.1 hb;rw[e]at e';cases e';exact⟨e,f0,f1,f2,d⟩
theorem Inv.ic{pq pl:br}{σ:St}{H:Hp}{s:Shared}(I:Inv X (pq++pl) σ H s):Inv X pq σ H s:=I.lj fun p hp=>I.pin p (pO _ (List.mem_append_left _ hp))
theorem iD{iter:Expr}{body:List Stmt}{wi:TI}{g:TG}{tb:TS}{pos:Pos}(hp:PassesOwn (model X.prog X.w) X.A X.env X.xe)(hc:X.calm=true)(hi:PI X tg iter wi)(hg:PG X tg g)(hb:AW X body tb)
 (hs:∀ x,foldedSetIterable iter X.env x=pure x:=by intro _;rfl):PS X (.For tg iter body [] pos) (d9 wi g tb):=by
 intro pq s σ H D I h;refine wpAny_For (fh (hi pq s σ H _ I h) fun v s1 h1=>fh h1 fun itv s2 h2=>?_) hs
 obtain⟨it,fp,tn,J,H2,e,I2,T,st2,f2,W,⟨m0,w0⟩,turn⟩:=h2;subst e;have A7:∀{H' : Hp},(∀ b∈fp,H' b=none)->∀ b∈fp,jA X pq H' b:=fun hn b hb=>⟨hn b hb,(f2 b hb).2⟩
 refine codeAny_forLoop_any (fun n s'=>∃ i σ' H',Inv X pq σ' H' s'/\tn i s'.heap/\(∀ b∈fp,H' b=none)/\W i n σ' H') ?_ m0 ⟨0,σ,H2,I2,st2,fun b hb=>(f2 b hb).1,w0⟩
 rintro n s3 ⟨i,σ3,H3,I3,st3,B3,w3⟩;rcases turn i n σ3 H3 w3 with⟨stop,qn⟩|⟨go,N,hN,step⟩
 ·refine wpAny_passesOwn hp (fh (T.done X rfl rfl rfl hc i pq s3 σ3 H3 X.xe I3 (A7 B3) st3 stop) fun r s4 ⟨hr,I4⟩=>?_)
  subst hr;exact wpAny_execs_nil ⟨σ3,H3,I4,qn⟩
 ·refine wpAny_passesOwn hp (fh (T.item X rfl rfl rfl hc i pq s3 σ3 H3 X.xe I3 (A7 B3) st3 go) fun r s4 ⟨u,hr,h4⟩=>?_)
  subst hr;refine wpAny_passesOwn hp (fh h4 fun _ s5 ⟨x,H5,I5,r5,y5,xX,HL⟩=>?_)
  have HM:=I5.pinned (A7 HL) (T.obj _ _ xX);refine wpAny_passesOwn hp (fh (hg _ s5 σ3 H5 x u _ HM r5 (step x H5 y5)) fun _ s6 ⟨σ6,H6,I6,q6⟩=>?_)
  refine wpAny_passesOwn hp (fh (hb _ s6 σ6 H6 _ I6 q6) fun f s7 q7=>?_)
  have again:∀{σ7:St} {H7:Hp},Inv X (pq++mL fp s5.heap) σ7 H7 s7->N σ7 H7->∃ m,m<n/\∃ i σ' H',Inv X pq σ' H' s7/\tn i s7.heap/\(∀ b∈fp,H' b=none)/\W i m σ' H':=fun {σ7 H7} I7 n7=>by
   obtain⟨m',hm,w7⟩:=hN σ7 H7 n7;refine⟨m',hm,i+1,σ7,H7,I7.ic,T.keep _ _ _ xX fun b hb o e=>(I7.pin (b,o) (pO _ (pO _ (cV hb e)))).1,fun b hb=>?_,w7⟩
   obtain⟨o,e,d⟩:=T.obj _ _ xX b hb;exact(I7.pin (b,o) (pO _ (pO _ (cV hb e)))).2.1
  cases f with
  | next=>obtain⟨σ7,H7,I7,n7⟩:=q7;exact again I7 n7
  | cont=>obtain⟨σ7,H7,I7,n7⟩:=q7;exact again I7 n7
  | brk=>obtain⟨σ7,H7,I7,q7⟩:=q7;exact⟨σ7,H7,I7.ic,q7⟩
  | ret v=>obtain⟨x7,σ7,H7,I7,r7,q7⟩:=q7;exact⟨x7,σ7,H7,I7.ic,r7,q7⟩
end
theorem tS{K:bY}{a:Addr}{xs:List V}{g:TG}{tb:TS}{D:Ends}{σ:St}{H:Hp}(Pv:Nat->St->Hp->Prop)(h0:Pv 0 σ H)(hl:∀ i σ H,i<=xs.length->Pv i σ H->aW K H a xs)
 (hs:∀ i x σ H,xs[i]?=some x->Pv i σ H->g x σ H fun σ2 H2=>tb { D with nx:=Pv (i+1),ct:=Pv (i+1),bk:=D.nx} σ2 H2) (hd:∀ σ H,Pv xs.length σ H->D.nx σ H) :
 ∃ W:Nat->Nat->St->Hp->Prop,(∃ m,W 0 m σ H)/\∀ i m σ H,W i m σ H->
   ((HJ K a).stop i H/\D.nx σ H)\/((HJ K a).go i H/\∃ N:St->Hp->Prop,(∀ σ' H',N σ' H'->∃ m',m'<m/\W (i+1) m' σ' H')/\∀ x H',(HJ K a).HG i H x H'->g x σ H' fun σ2 H2=>tb { D with nx:=N,ct:=N,bk:=D.nx} σ2 H2):=by
 refine⟨fun i m σ H=>m=xs.length-i/\i<=xs.length/\Pv i σ H,⟨xs.length,by simp,Nat.zero_le _,h0⟩,?_⟩
 rintro i m σ H ⟨rfl,hi,p⟩;have q:=hl i σ H hi p
 by_cases hlt:i<xs.length
 ·refine .inr ⟨⟨xs,xs[i],q,by simp[hlt]⟩,Pv (i+1),fun σ' H' p'=>⟨xs.length-(i+1),by lia,rfl,hlt,p'⟩,fun x H' y=>?_⟩
  obtain⟨e,y⟩:=y;subst e;exact hs i x σ _ (y xs q) p
 ·have e:i=xs.length:=by lia
  subst e;exact .inl ⟨⟨xs,q,Nat.le_refl _⟩,hd σ H p⟩
theorem HN{K:bY}{a:Addr}{xs:List V}{g:TG}{tb:TS}{D:Ends}{σ:St}{H:Hp}(Pv:Nat->St->Hp->Prop)(h0:Pv 0 σ H)(hl:∀ i σ H,i<=xs.length->Pv i σ H->bI K H a xs)
 (hs:∀ i x σ H,xs[i]?=some x->Pv i σ H->g x σ H fun σ2 H2=>tb { D with nx:=Pv (i+1),ct:=Pv (i+1),bk:=D.nx} σ2 H2) (hd:∀ σ H,Pv xs.length σ H->D.nx σ H) :
 ∃ W:Nat->Nat->St->Hp->Prop,(∃ m,W 0 m σ H)/\∀ i m σ H,W i m σ H->
   ((Lx K a).stop i H/\D.nx σ H)\/((Lx K a).go i H/\∃ N:St->Hp->Prop,(∀ σ' H',N σ' H'->∃ m',m'<m/\W (i+1) m' σ' H')/\∀ x H',(Lx K a).HG i H x H'->g x σ H' fun σ2 H2=>tb { D with nx:=N,ct:=N,bk:=D.nx} σ2 H2):=by
 refine⟨fun i m σ H=>m=xs.length-i/\i<=xs.length/\Pv i σ H,⟨xs.length,by simp,Nat.zero_le _,h0⟩,?_⟩
 rintro i m σ H ⟨rfl,hi,p⟩;have q:=hl i σ H hi p
 by_cases hlt:i<xs.length
 ·refine .inr ⟨⟨xs,xs[i],q,by simp[hlt]⟩,Pv (i+1),fun σ' H' p'=>⟨xs.length-(i+1),by lia,rfl,hlt,p'⟩,fun x H' y=>?_⟩
  obtain⟨e,y⟩:=y;subst e;exact hs i x σ _ (y xs q) p
 ·have e:i=xs.length:=by lia
  subst e;exact .inl ⟨⟨xs,q,Nat.le_refl _⟩,hd σ H p⟩
theorem iY{lo:Int}{n:Nat}{g:TG}{tb:TS}{D:Ends}{σ:St}{H:Hp}(Pv:Nat->St->Hp->Prop)(h0:Pv 0 σ H)
 (hs:∀ i σ H,i<n->Pv i σ H->g (.int (lo+i)) σ H fun σ2 H2=>tb { D with nx:=Pv (i+1),ct:=Pv (i+1),bk:=D.nx} σ2 H2) (hd:∀ σ H,Pv n σ H->D.nx σ H) :
 ∃ W:Nat->Nat->St->Hp->Prop,(∃ m,W 0 m σ H)/\∀ i m σ H,W i m σ H->
   ((ES lo n).stop i H/\D.nx σ H)\/((ES lo n).go i H/\∃ N:St->Hp->Prop,(∀ σ' H',N σ' H'->∃ m',m'<m/\W (i+1) m' σ' H')/\∀ x H',(ES lo n).HG i H x H'->g x σ H' fun σ2 H2=>tb { D with nx:=N,ct:=N,bk:=D.nx} σ2 H2):=by
 refine⟨fun i m σ H=>m=n-i/\i<=n/\Pv i σ H,⟨n,by simp,Nat.zero_le _,h0⟩,?_⟩
 rintro i m σ H ⟨rfl,hi,p⟩
 by_cases hlt:i<n
 ·refine .inr ⟨hlt,Pv (i+1),fun σ' H' p'=>⟨n-(i+1),by lia,rfl,hlt,p'⟩,fun x H' y=>?_⟩
  obtain⟨e,y⟩:=y;subst e y;exact hs i σ _ hlt p
 ·have e:i=n:=by lia
  subst e;exact .inl ⟨Nat.le_refl _,hd σ H p⟩
abbrev R2:=V->V->Hp->VK->Prop
def mO(X:Cx)(f:Value->Value->Sem Value)(r:R2):Prop :=
 ∀(pq:br) (s:Shared) (σ:St) (H:Hp) (x y:V) (v u:Value) (Q:VK),Inv X pq σ H s->RelV x v->RelV y u->r x y H Q->
  wpAny (model X.prog X.w) X.A (f v u) (EP X pq σ Q) X.xe s
def PX(X:Cx)(f:Value->Sem Value)(r:V->Hp->VK->Prop):Prop :=
 ∀(pq:br) (s:Shared) (σ:St) (H:Hp) (x:V) (v:Value) (Q:VK),Inv X pq σ H s->RelV x v->r x H Q->
  wpAny (model X.prog X.w) X.A (f v) (EP X pq σ Q) X.xe s
def jC(X:Cx)(f:Value)(r:List V->Hp->VK->Prop):Prop :=
 ∀(pq:br) (s:Shared) (σ:St) (H:Hp) (xs:List V) (us:List Value) (Q:VK),Inv X pq σ H s->Vals xs us->r xs H Q->
  wpAny (model X.prog X.w) X.A (call f us) (EP X pq σ Q) X.xe s
def Oz(r:R2)(ta tb:TE):TE:=fun σ H Q=>ta σ H fun x H1=>tb σ H1 fun y H2=>r x y H2 Q
def YC(r:V->Hp->VK->Prop)(ta:TE):TE:=fun σ H Q=>ta σ H fun x H1=>r x H1 Q
def rI(C:Int->Int->Prop)(g:Int->Int->V):R2:=fun x y H Q=>∃ i j,x = .int i/\y = .int j/\C i j/\Q (g i j) H
def Dp(g:Int->Int->V):R2:=fun x y H Q=>∃ i j,x = .int i/\y = .int j/\Q (g i j) H
def rU(g:Int->V):V->Hp->VK->Prop:=fun x H Q=>∃ i,x = .int i/\Q (g i) H
section
variable {X:Cx}{a b c:Expr}{ta tb tc:TE}{pos:Pos}
theorem Kp(ha:PE X a ta)(hb:PE X b tb){pq:br}{s:Shared}{σ:St}{H:Hp}{R:V->V->Hp->Prop}(I:Inv X pq σ H s)
 (h:ta σ H fun x H1=>tb σ H1 fun y H2=>R x y H2) {Q:iH} {f:Value->Value->Sem Value}
 (hf:∀ v u s2 x y H2,Inv X pq σ H2 s2->RelV x v->RelV y u->R x y H2->wpAny (model X.prog X.w) X.A (f v u) Q X.xe s2) :
 wpAny (model X.prog X.w) X.A (eval a X.env) (fun v s₁=>wpAny (model X.prog X.w) X.A (eval b X.env) (fun u s₂=>wpAny (model X.prog X.w) X.A (f v u) Q X.xe s₂) X.xe s₁) X.xe s:=by
 refine fh (ha pq s σ H _ I h) fun v s1 ⟨x,H1,I1,r1,q1⟩=>?_
 refine fh (hb pq s1 σ H1 _ I1 q1) fun u s2 ⟨y,H2,I2,r2,q2⟩=>?_
 exact hf v u s2 x y H2 I2 r1 r2 q2
theorem aJ{op:Operator}{r:R2}(ho:mO X (binaryOp op) r)(ha:PE X a ta)(hb:PE X b tb):PE X (.BinOp a op b pos) (Oz r ta tb):=by
 intro pq s σ H Q I h;exact wpAny_BinOp (Kp ha hb I h fun v u s2 x y H2 I2 rx ry q=>ho pq s2 σ H2 x y v u Q I2 rx ry q)
theorem ET{op:UnaryOp}{r:V->Hp->VK->Prop}(ho:PX X (unaryOp op) r)(ha:PE X a ta):PE X (.UnaryOp op a pos) (YC r ta):=by
 intro pq s σ H Q I h;exact UnaryOp_ (fh (ha pq s σ H _ I h) fun v s1 ⟨x,H1,I1,r1,q1⟩=>ho pq s1 σ H1 x v Q I1 r1 q1)
theorem Jv{f:Value->Value->Sem Value}{C:Int->Int->Prop}{g:Int->Int->Int}
 (rule:∀(i j:Int) (t u:Tok) (s:Shared) (Q:iH) (E:iH),C i j->Q (.int (g i j) s.toks) { s with toks:=s.toks+1}->wpAny (model X.prog X.w) X.A (f (.int i t) (.int j u)) Q E s) :
 mO X f (rI C fun i j=>.int (g i j)):=by
 intro pq s σ H x y v u Q I rx ry h;obtain⟨i,j,rfl,rfl,hc,q⟩:=h;obtain⟨t,rfl⟩:=rx;obtain⟨t',rfl⟩:=ry;exact rule i j t t' s _ _ hc ⟨.int (g i j),H,I.tok _,⟨_,rfl⟩,q⟩
theorem A8{f:Value->Value->Sem Value}{g:Int->Int->Int}
 (rule:∀(i j:Int) (t u:Tok) (s:Shared) (Q:iH) (E:iH),Q (.int (g i j) s.toks) { s with toks:=s.toks+1}->wpAny (model X.prog X.w) X.A (f (.int i t) (.int j u)) Q E s) :
 mO X f (Dp fun i j=>.int (g i j)):=by
 intro pq s σ H x y v u Q I rx ry h;obtain⟨i,j,rfl,rfl,q⟩:=h;obtain⟨t,rfl⟩:=rx;obtain⟨t',rfl⟩:=ry;exact rule i j t t' s _ _ ⟨.int (g i j),H,I.tok _,⟨_,rfl⟩,q⟩
theorem HP{f:Value->Value->Sem Value}{g:Int->Int->Bool}
 (rule:∀(i j:Int) (t u:Tok) (s:Shared) (Q:iH) (E:iH),Q (.bool (g i j)) s->wpAny (model X.prog X.w) X.A (f (.int i t) (.int j u)) Q E s) :
 mO X f (Dp fun i j=>.bl (g i j)):=by
 intro pq s σ H x y v u Q I rx ry h;obtain⟨i,j,rfl,rfl,q⟩:=h;obtain⟨t,rfl⟩:=rx;obtain⟨t',rfl⟩:=ry;exact rule i j t t' s _ _ ⟨.bl (g i j),H,I,rfl,q⟩
def Kq(i j:Int):Prop:=0<j/\j<1073741824
def Mb(i j:Int):Prop:=0<=j/\j<=1000000/\i.natAbs<2^64
def Kr(i j:Int):Prop:=(-(2^64)<i/\i<2^64)\/(-(2^64)<j/\j<2^64)
theorem Kr.ok{i j:Int}(h:Kr i j):IntMulOk i j:=by
 rcases h with⟨h1,h2⟩|⟨h1,h2⟩
 ·exact .of_left (intBits_le_64 h1 h2)
 ·exact .of_right (intBits_le_64 h1 h2)
theorem A9(k:Nat):(0:Int)<=2^k:=by
 rw[two_pow_cast];exact Int.natCast_nonneg _
theorem gB:mO X (binaryOp .Add) (Dp fun i j=>.int (i+j)):=A8 fun _ _ _ _ _ _ _ q=>add_int q
theorem tT:mO X (binaryOp .Sub) (Dp fun i j=>.int (i-j)):=A8 fun _ _ _ _ _ _ _ q=>sub_int q
theorem rz:mO X (binaryOp .Mult) (rI Kr fun i j=>.int (i*j)):=Jv fun _ _ _ _ _ _ _ hc q=>mul_int q hc.ok
theorem lq:mO X (binaryOp .FloorDiv) (rI Kq fun i j=>.int (i/j)):=Jv fun i j _ _ _ _ _ hc q=>by
 have h1:(0:Int)<j:=hc.1;have h2:j<1073741824:=hc.2;exact floordiv_int (by lia) (by rw[Int.fdiv_eq_ediv_of_nonneg i (by lia)];exact q) (.inl (PyProof.noPylong_small (by lia)))
theorem d7:mO X (binaryOp .Mod) (rI (fun _ j=>0<j) fun i j=>.int (i%j)):=Jv fun i j _ _ _ _ _ hc q=>by
 have h1:(0:Int)<j:=hc;exact mod_int' (by lia) (by rw[Int.fmod_eq_emod_of_nonneg i (by lia)];exact q)
theorem xY:mO X (binaryOp .Pow) (rI Mb fun i j=>.int (i^j.toNat)):=Jv fun _ _ _ _ _ _ _ hc q=>pow_int_small hc.1 hc.2.1 hc.2.2 q
theorem rA:mO X (binaryOp .LShift) (rI Mb fun i j=>.int (i*2^j.toNat)):=Jv fun _ _ _ _ _ _ _ hc q=>lshift_int_small hc.1 hc.2.1 hc.2.2 q
theorem EU:mO X (binaryOp .RShift) (rI (fun _ j=>0<=j) fun i j=>.int (i/2^j.toNat)):=Jv fun i j _ _ _ _ _ hc q =>
 rshift_int hc (by rw[Int.fdiv_eq_ediv_of_nonneg i (A9 _)];exact q)
theorem EV:mO X (binaryOp .BitAnd) (Dp fun i j=>.int (Builtin.bitAnd i j)):=A8 fun _ _ _ _ _ _ _ q=>and_int q
theorem oY:mO X (binaryOp .BitXor) (Dp fun i j=>.int (Builtin.bitXor i j)):=A8 fun _ _ _ _ _ _ _ q=>xor_int q
theorem xZ:mO X (inplaceOp .Add) (Dp fun i j=>.int (i+j)):=A8 fun _ _ _ _ _ _ _ q=>iadd_int q
theorem Ks:mO X (inplaceOp .BitOr) (Dp fun i j=>.int (Builtin.bitOr i j)):=A8 fun _ _ _ _ _ _ _ q=>ior_int q
theorem HQ:mO X (inplaceOp .BitXor) (Dp fun i j=>.int (Builtin.bitXor i j)):=A8 fun _ _ _ _ _ _ _ q=>ixor_int q
theorem YD{f:Value->Sem Value}{g:Int->Int}
 (rule:∀(i:Int) (t:Tok) (s:Shared) (Q:iH) (E:iH),Q (.int (g i) s.toks) { s with toks:=s.toks+1}->wpAny (model X.prog X.w) X.A (f (.int i t)) Q E s) :
 PX X f (rU fun i=>.int (g i)):=by
 intro pq s σ H x v Q I rx h;obtain⟨i,rfl,q⟩:=h;obtain⟨t,rfl⟩:=rx;exact rule i t s _ _ ⟨.int (g i),H,I.tok _,⟨_,rfl⟩,q⟩
theorem Ba:PX X (unaryOp .USub) (rU fun i=>.int (-i)):=YD fun _ _ _ _ _ q=>neg_int q
end
def Mc:V->V->Bool
 | .iC,.iC=>true | .iC,.int _=>true | .int _,.iC=>true | .iC,.bl _=>true | .bl _,.iC=>true | .iC,.str _=>true | .str _,.iC=>true
 | .int _,.int _=>true | .bl _,.bl _=>true | .str _,.str _=>true | .EF _,.EF _=>true
 | .int _,.str _=>true | .str _,.int _=>true | .bl _,.str _=>true | .str _,.bl _=>true
 | _,_=>false
def YE:R2:=fun x y H Q=>Mc x y=true/\Q (.bl (decide (x=y))) H
def YF:R2:=fun x y H Q=>Mc x y=true/\Q (.bl (!decide (x=y))) H
theorem B4{i j:Int}:decide (V.int i=V.int j)=(i==j):=by
 rw[Bool.eq_iff_iff];simp
theorem EW{i j:Bool}:decide (V.bl i=V.bl j)=(i==j):=by
 rw[Bool.eq_iff_iff];simp
theorem B5{i j:Str}:decide (V.str i=V.str j)=(i==j):=by
 rw[Bool.eq_iff_iff];simp
theorem B6{i j:Array UInt8}:decide (V.EF i=V.EF j)=(i.toList==j.toList):=by
 rw[Bool.eq_iff_iff];cases i;cases j;simp
section
variable {X:Cx}{a b c:Expr}{ta tb tc:TE}{pos:Pos}
theorem bB{pq:br}{σ:St}{H:Hp}{s:Shared}{Q:VK}{k k' : Bool}(I:Inv X pq σ H s)(q:Q (.bl k) H)(e:k=k'):EP X pq σ Q (.bool k') s:=by
 subst e;exact⟨.bl k,H,I,rfl,q⟩
theorem gx:mO X (compareOp .Eq) YE:=by
 intro pq s σ H x y v u Q I rx ry h;obtain⟨hs,q⟩:=h;cases x with
 | iC =>
   cases rx;cases y with
   | iC=>cases ry;exact PySem.EqNone.eq_none_none (bB I q (by simp))
   | bl j=>cases ry;exact PySem.EqNone.eq_none_bool (bB I q (by simp))
   | int j=>obtain⟨t',rfl⟩:=ry;exact PySem.EqNone.eq_none_int (bB I q (by simp))
   | str j=>obtain⟨t',rfl⟩:=ry;exact PySem.EqNone.eq_none_str (bB I q (by simp))
   | _=>exact absurd (show false=true from hs) Bool.false_ne_true
 | bl i =>
   cases rx;cases y with
   | iC=>cases ry;exact PySem.EqNone.eq_bool_none (bB I q (by simp))
   | bl j=>cases ry;exact eq_bool (bB I q EW)
   | str j=>obtain⟨t',rfl⟩:=ry;exact PySem.EqMixed.eq_bool_str (bB I q (by simp))
   | _=>exact absurd (show false=true from hs) Bool.false_ne_true
 | int i =>
   obtain⟨t,rfl⟩:=rx;cases y with
   | iC=>cases ry;exact PySem.EqNone.eq_int_none (bB I q (by simp))
   | int j=>obtain⟨t',rfl⟩:=ry;exact eq_int (bB I q B4)
   | str j=>obtain⟨t',rfl⟩:=ry;exact PySem.EqMixed.eq_int_str (bB I q (by simp))
   | _=>exact absurd (show false=true from hs) Bool.false_ne_true
 | str i =>
   obtain⟨t,rfl⟩:=rx;cases y with
   | iC=>cases ry;exact PySem.EqNone.eq_str_none (bB I q (by simp))
   | bl j=>cases ry;exact PySem.EqMixed.eq_str_bool (bB I q (by simp))
   | int j=>obtain⟨t',rfl⟩:=ry;exact PySem.EqMixed.eq_str_int (bB I q (by simp))
   | str j=>obtain⟨t',rfl⟩:=ry;exact eq_str (bB I q B5)
   | _=>exact absurd (show false=true from hs) Bool.false_ne_true
 | EF i =>
   obtain⟨t,rfl⟩:=rx;cases y with
   | EF j=>obtain⟨t',rfl⟩:=ry;exact PySem.W.eq_bytes (bB I q B6)
   | _=>exact absurd (show false=true from hs) Bool.false_ne_true
 | _=>cases y<;>exact absurd (show false=true from hs) Bool.false_ne_true
theorem pQ:mO X (compareOp .NotEq) YF:=by
 intro pq s σ H x y v u Q I rx ry h;obtain⟨hs,q⟩:=h;cases x with
 | iC =>
   cases rx;cases y with
   | iC=>cases ry;exact PySem.EqNone.ne_none_none (bB I q (by simp))
   | bl j=>cases ry;exact PySem.EqNone.ne_none_bool (bB I q (by simp))
   | int j=>obtain⟨t',rfl⟩:=ry;exact PySem.EqNone.ne_none_int (bB I q (by simp))
   | str j=>obtain⟨t',rfl⟩:=ry;exact PySem.EqNone.ne_none_str (bB I q (by simp))
   | _=>exact absurd (show false=true from hs) Bool.false_ne_true
 | bl i =>
   cases rx;cases y with
   | iC=>cases ry;exact PySem.EqNone.ne_bool_none (bB I q (by simp))
   | bl j=>cases ry;exact ne_bool (bB I q (congrArg not EW))
   | str j=>obtain⟨t',rfl⟩:=ry;exact PySem.EqMixed.ne_bool_str (bB I q (by simp))
   | _=>exact absurd (show false=true from hs) Bool.false_ne_true
 | int i =>
   obtain⟨t,rfl⟩:=rx;cases y with
   | iC=>cases ry;exact PySem.EqNone.ne_int_none (bB I q (by simp))
   | int j=>obtain⟨t',rfl⟩:=ry;exact ne_int (bB I q (congrArg not B4))
   | str j=>obtain⟨t',rfl⟩:=ry;exact PySem.EqMixed.ne_int_str (bB I q (by simp))
   | _=>exact absurd (show false=true from hs) Bool.false_ne_true
 | str i =>
   obtain⟨t,rfl⟩:=rx;cases y with
   | iC=>cases ry;exact PySem.EqNone.ne_str_none (bB I q (by simp))
   | bl j=>cases ry;exact PySem.EqMixed.ne_str_bool (bB I q (by simp))
   | int j=>obtain⟨t',rfl⟩:=ry;exact PySem.EqMixed.ne_str_int (bB I q (by simp))
   | str j=>obtain⟨t',rfl⟩:=ry;exact ne_str (bB I q (congrArg not B5))
   | _=>exact absurd (show false=true from hs) Bool.false_ne_true
 | EF i =>
   obtain⟨t,rfl⟩:=rx;cases y with
   | EF j=>obtain⟨t',rfl⟩:=ry;exact PySem.W.ne_bytes (bB I q (congrArg not B6))
   | _=>exact absurd (show false=true from hs) Bool.false_ne_true
 | _=>cases y<;>exact absurd (show false=true from hs) Bool.false_ne_true
theorem B7:mO X (compareOp .Lt) (Dp fun i j=>.bl (decide (i<j))):=HP fun _ _ _ _ _ _ _ q=>lt_int q
theorem Me:mO X (compareOp .LtE) (Dp fun i j=>.bl (decide (i<=j))):=HP fun _ _ _ _ _ _ _ q=>le_int q
theorem zo:mO X (compareOp .Gt) (Dp fun i j=>.bl (decide (j<i))):=HP fun _ _ _ _ _ _ _ q=>gt_int q
theorem Mf:mO X (compareOp .GtE) (Dp fun i j=>.bl (decide (j<=i))):=HP fun _ _ _ _ _ _ _ q=>ge_int q
theorem Ku:mO X (compareOp .Is) (fun x y H Q=>y = .iC/\Q (.bl (decide (x = .iC))) H):=by
 intro pq s σ H x y v u Q I rx ry h;obtain⟨rfl,q⟩:=h;cases ry;refine is_none_gen (bB I q ?_);cases x<;>first
  | (cases rx;rfl)
  | (obtain⟨t,rfl⟩:=rx;rfl)
theorem aX(b:Expr){op:CmpOp}(h:op≠.In:=by decide)(h2:op≠.NotIn:=by decide):behindInMarks op b=false:=by
 have e1:(op==CmpOp.In)=false:=by cases op<;>first | rfl | exact absurd rfl h
 have e2:(op==CmpOp.NotIn)=false:=by cases op<;>first | rfl | exact absurd rfl h2
 cases b<;>simp[behindInMarks,e1,e2]
theorem nL{op:CmpOp}{r:R2}(ho:mO X (compareOp op) r)(ha:PE X a ta)(hb:PE X b tb)(hm:behindInMarks op b=false):PE X (.Compare a [op] [b] pos) (Oz r ta tb):=by
 intro pq s σ H Q I h;exact wpAny_Compare1 (Kp ha hb I h fun v u s2 x y H2 I2 rx ry q=>ho pq s2 σ H2 x y v u Q I2 rx ry q) hm
def Mg(t:TE):TT:=fun σ H Q=>t σ H fun x H'=>∃ k,x = .bl k/\Q k H'
theorem aP{op:CmpOp}{r:R2}(ho:mO X (compareOp op) r)(ha:PE X a ta)(hb:PE X b tb)(hm:behindInMarks op b=false):PT X (.Compare a [op] [b] pos) (Mg (Oz r ta tb)):=by
 intro pq s σ H Q I h;refine wpAny_isTrue_Compare1 (fh (ha pq s σ H _ I h) fun v s1 ⟨x,H1,I1,r1,q1⟩=>fh (hb pq s1 σ H1 _ I1 q1) fun u s2 ⟨y,H2,I2,r2,q2⟩ =>
  fh (ho pq s2 σ H2 x y v u _ I2 r1 r2 q2) fun c s3 ⟨z,H3,I3,r3,k,e,q3⟩=>?_) hm
 subst e;cases r3;exact wpAny_truthy_bool ⟨H3,I3,q3⟩
theorem tU:(sizeLine:Nat)<2^63:=by rw[sizeLine_eq];decide
theorem vals1{x:V}{us:List Value}(r:Vals [x] us):∃ u,us=[u]/\RelV x u:=by
 cases r with
 | cons r1 r2=>cases r2;exact⟨_,rfl,r1⟩
theorem vals2{x y:V}{us:List Value}(r:Vals [x,y] us):∃ u w',us=[u,w']/\RelV x u/\RelV y w':=by
 cases r with
 | cons r1 r2 =>
   cases r2 with
   | cons r3 r4=>cases r4;exact⟨_,_,rfl,r1,r3⟩
theorem EX:jC X (.builtin "abs") (fun xs H Q=>∃ i,xs=[.int i]/\Q (.int (if i<0 then -i else i)) H):=by
 intro pq s σ H xs us Q I r h;obtain⟨i,rfl,q⟩:=h;obtain⟨u,rfl,t,rfl⟩:=vals1 r;exact call_abs_int fun u tk=>⟨.int (if i<0 then -i else i),H,I.tok _,⟨_,rfl⟩,q⟩
theorem wj(hc:X.calm=true):jC X (.builtin "max") (fun xs H Q=>∃ i j,xs=[.int i,.int j]/\Q (.int (if j > i then j else i)) H):=by
 intro pq s σ H xs us Q I r h;obtain⟨i,j,rfl,q⟩:=h;obtain⟨u,w',rfl,⟨t,rfl⟩,⟨t',rfl⟩⟩:=vals2 r;refine max_two_ints (I.ok.hd hc) fun h' tk k=>⟨_,H,I.kept k,?_,q⟩
 by_cases hj:j > i
 ·rw[if_pos hj,if_pos hj];exact⟨_,rfl⟩
 ·rw[if_neg hj,if_neg hj];exact⟨_,rfl⟩
theorem wm(hc:X.calm=true):jC X (.builtin "min") (fun xs H Q=>∃ i j,xs=[.int i,.int j]/\Q (.int (if j<i then j else i)) H):=by
 intro pq s σ H xs us Q I r h;obtain⟨i,j,rfl,q⟩:=h;obtain⟨u,w',rfl,⟨t,rfl⟩,⟨t',rfl⟩⟩:=vals2 r;refine min_two_ints (I.ok.hd hc) fun h' tk k=>⟨_,H,I.kept k,?_,q⟩
 by_cases hj:j<i
 ·rw[if_pos hj,if_pos hj];exact⟨_,rfl⟩
 ·rw[if_neg hj,if_neg hj];exact⟨_,rfl⟩
end
structure mC(k:Nat)(A:Around):Prop where
 hd:A.handled=none
 dp:A.depth+3*k+5<recursionLimit
 un:A.units+16*k+200<cLine
theorem mC.mono{j k:Nat}{A:Around}(r:mC k A)(h:j<=k):mC j A:=⟨r.hd,by have:=r.dp;lia,by have:=r.un;lia⟩
theorem mC.deeper{k:Nat}{A:Around}(r:mC (k+1) A)(env:Env):mC k (A.deeper env) :=
 ⟨r.hd,by have:=r.dp;show A.depth+1+3*k+5<_;lia,by have:=r.un;show A.units+3+16*k+200<_;lia⟩
theorem mC.depth{k:Nat}{A:Around}(r:mC k A):A.depth<recursionLimit:=by have:=r.dp;lia
theorem mC.units{k:Nat}{A:Around}(r:mC k A):A.units+64<cLine:=by have:=r.un;lia
def PY:TA:=fun _ H Q=>Q [] H
def Mh(ta:TE)(tr:TA):TA:=fun σ H Q=>ta σ H fun x H1=>tr σ H1 fun xs H2=>Q (x::xs) H2
section
variable {X:Cx}{e:Expr}{es:List Expr}{te:TE}{t:TA}{pos:Pos}
theorem af:PA X [] PY:=fun _ _ _ _ H Q I h=>Calls.spliced_nil ⟨[],H,I,.nil,h⟩
theorem aa(ha:PE X e te)(hr:PA X es t)(hs:starEach (e::es) X.env=(false,eval e X.env)::starEach es X.env:=by rfl):PA X (e::es) (Mh te t):=by
 intro pos pq s σ H Q I h;rw[hs];show wpAny _ _ (spliced ((false,eval e X.env)::backTo pos (starEach es X.env))) _ _ s;refine Calls.spliced_cons (fh (ha pq s σ H _ I h) fun u s1 ⟨x,H1,I1,r1,q1⟩=>?_)
 exact fh (hr pos pq s1 σ H1 _ I1 q1) fun us s2 ⟨xs,H2,I2,r2,q2⟩=>⟨x::xs,H2,I2,.cons r1 r2,q2⟩
def PZ(t:TA):TE:=fun σ H Q=>t σ H fun xs H1=>xs.length<=sizeLine/\∀ p,H1 p=none->Q (.ref p) (upd H1 p (.tup xs))
def P0(t:TA):TE:=fun σ H Q=>t σ H fun xs H1=>xs.length<=sizeLine/\∀ p,H1 p=none->Q (.ref p) (upd H1 p (.lst xs))
theorem mP{x1}(h:PA X es t):PE X (.Tuple es x1 pos) (PZ t):=by
 intro pq s σ H Q I hq;refine wpAny_Tuple_spliced (fh (h pos pq s σ H _ I hq) fun us s1 ⟨xs,H1,I1,r,z,q⟩=>⟨by rw[<-r.length];exact z,?_⟩)
 have hf:H1 s1.heap.objs.size=none:=I1.hok.fresh (Nat.le_refl _);refine⟨.ref s1.heap.objs.size,upd H1 s1.heap.objs.size (.tup xs),I1.laid (t':=s1.toks) (fun b u e=>Heap.get?_push_of_some _ e) (Nat.le_refl _) ?_,rfl,q _ hf⟩
 exact⟨z,us,r,⟨_,Heap.get?_push_size _ rfl,rfl,_,rfl⟩⟩
theorem fP(h:PA X es t):PE X (.List es pos) (P0 t):=by
 intro pq s σ H Q I hq;refine wpAny_List_spliced (fh (h pos pq s σ H _ I hq) fun us s1 ⟨xs,H1,I1,r,z,q⟩=>⟨by rw[<-r.length];exact z,?_⟩)
 have hf:H1 s1.heap.objs.size=none:=I1.hok.fresh (Nat.le_refl _);refine⟨.ref s1.heap.objs.size,upd H1 s1.heap.objs.size (.lst xs),I1.laid (t':=s1.toks) (fun b u e=>Heap.get?_push_of_some _ e) (Nat.le_refl _) ?_,rfl,q _ hf⟩
 exact⟨z,us,0,r,Heap.get?_push_size _ rfl⟩
end
abbrev Sp:=List V->Hp->VK->XK->Prop
abbrev EY:=List Env->Hp->Shared->XK->Value->Shared->Prop
structure HR(P:Program)(w:World)(K:bY)(mg:jY)(base:Heap)(A:Around)(outer:List Env)(s:Shared)(H:Hp):Prop where
 frames:A.frames=some outer
 mod:Mod K mg base
 bs:∀ b o,base.get? b=some o->s.heap.get? b=some o/\H b=none
 HC:base.objs.size<=s.heap.objs.size
 funs:s.heap.FunFrames base outer
 Jr:∀ b∈frs outer,H b=none
 hok:rj P w H s.heap
 bare:AllBare s.gens
def CE(outer:List Env)(P:Program)(w:World)(H:Hp)(s:Shared)(Q:VK)(u:Value)(s' : Shared):Prop :=
 ∃ v H',s'.os=s.os/\AllBare s'.gens/\Un (frs outer) [] H H' s.heap s'.heap/\rj P w H' s'.heap/\RelV v u/\Q v H'
def CR(CX:EY)(outer:List Env)(P:Program)(w:World)(H:Hp)(s:Shared)(Q:VK)(E:XK)(r:Result)(s' : Shared):Prop :=
 match r with
 | .ok (.ret u)=>CE outer P w H s Q u s'
 | .ok _=>False
 | .error e=>CX outer H s E e s'
structure aL(P:Program)(w:World)(K:bY)(mg:jY)(base:Heap)(CX:EY)(k:Nat)(f:Addr)(fd:FuncData)(ps:List Str)(sp:Sp):Prop where
 len:∀ vs H Q E,sp vs H Q E->vs.length=ps.length
 run:∀(A:Around) (outer:List Env) (s:Shared) (H:Hp) (args:Args) (us:List Value) (vs:List V) (Q:VK) (E:XK),mC k A->HR P w K mg base A outer s H->BindsTo s fd args (ps.zip us)->Vals vs us->sp vs H Q E->
  codeAny (model P w) A (.call (.ref f) args) (CR CX outer P w H s Q E) s
section
variable {X:Cx}{pq:br}{σ:St}{H:Hp}{s s' : Shared}
theorem Inv.P1(I:Inv X pq σ H s):HR X.prog X.w X.K X.mg X.base X.A X.stack s H :=
 ⟨I.ok.frames,I.ok.mod,I.bs,Nat.le_trans I.ok.HC I.sz,I.stack,I.pP,I.hok,I.bare⟩
theorem Inv.after{Q:VK}{u:Value}(I:Inv X pq σ H s)(h:CE X.stack X.prog X.w H s Q u s'):EP X pq σ Q u s':=by
 obtain⟨v,H',os,bare,un,hok,r,q⟩:=h;obtain⟨hh,g,d,t,os'⟩:=s';obtain rfl:os' = s.os:=os;exact⟨v,H',I.call (h':=hh) (g':=g) (d':=d) (t':=t) (ch:=[]) un hok bare (fun b z=>absurd z (by simp)),r,q⟩
end
def Mi(sp:Sp)(Jw:List V)(E:XK)(t:TA):TE:=fun σ H Q=>t σ H fun vs H1=>sp (vs++Jw) H1 Q E
def Binds(K:bY)(fd:FuncData)(ps:List Str)(ds:List Value):Prop :=
 ∀(s:Shared) (us:List Value),K.In s.heap->(us++ds).length=ps.length->BindsTo s fd ⟨us,[]⟩ (ps.zip (us++ds))
theorem Binds.all{K:bY}{fd:FuncData}{ps:List Str}(h:∀ us:List Value,us.length=ps.length->bindArgs fd ⟨us,[]⟩=pure (ps.zip us)):Binds K fd ps []:=fun s us _ hl=>by
 rw[List.append_nil]at hl ⊢;exact .of_eq (h us hl)
def Passes(CX:EY)(X:Cx)(E:XK):Prop:=∀(pq:br) (σ:St) (H:Hp) (s:Shared) (e:Value) (s' : Shared),Inv X pq σ H s->CX X.stack H s E e s'->X.xe e s'
section
variable {X:Cx}{CX:EY}{k:Nat}{f C:Addr}{fd:FuncData}{ps:List Str}{sp:Sp}{Jw:List V}{ds:List Value}{E:XK}{x m:Str}{p pos apos:Pos}{e o:Expr}{es:List Expr}{ta:TE}{t:TA}
theorem Kv{pq:br}{σ:St}{H:Hp}{s:Shared}{Q:VK}{us:List Value}{vs:List V}(F:aL X.prog X.w X.K X.mg X.base CX k f fd ps sp)(hr:mC k X.A)(hb:Binds X.K fd ps ds)(hd:Vals Jw ds)(hx:Passes CX X E)
 (I:Inv X pq σ H s) (r:Vals vs us) (h:sp (vs++Jw) H Q E):wpAny (model X.prog X.w) X.A (call (.ref f) us) (EP X pq σ Q) X.xe s:=by
 have r2:Vals (vs++Jw) (us++ds):=r.append hd;have hl:(us++ds).length=ps.length:=by rw[<-r2.length];exact F.len _ _ _ _ h
 refine wpAny_call (codeAny_mono (F.run X.A X.stack s H ⟨us,[]⟩ (us++ds) (vs++Jw) Q E hr I.P1 (hb s us I.Lw hl) r2 h) fun r s' hq=>?_)
 cases r with
 | error e=>exact hx pq σ H s e s' I hq
 | ok fl =>
   cases fl with
   | ret u=>exact I.after hq
   | next=>exact False.elim hq
   | brk=>exact False.elim hq
   | cont=>exact False.elim hq
theorem aA(F:aL X.prog X.w X.K X.mg X.base CX k f fd ps sp)(hr:mC k X.A)(hg:Gl X x)(hm:X.mg x=some (.ref f))(hk:PySem.W.keepIn X.K (.ref f)=true)(hb:Binds X.K fd ps ds)(hd:Vals Jw ds)(hx:Passes CX X E)
 (ha:PA X (e::es) t) (hdb:(x==("__debug__":Str))=false:=by decide) (he:starEach (e::es) X.env=(false,eval e X.env)::starEach es X.env:=by rfl) (hpl:(backTo pos (starEach es X.env)).any (·.1)=false:=by rfl) :
 PE X (.Call (.Name x p) (e::es) [] pos) (Mi sp Jw E t):=by
 intro pq s σ H Q I h;refine wpAny_Call_Name_kw (xU I hg hm ?_ hdb);refine PySem.W.callWith_K (h₀:=X.base) I.ok.mod.Ot hk (fh (ha pos pq s σ H _ I h) fun us s1 ⟨vs,H1,I1,r,q⟩=>⟨I1.Lw,?_⟩) he hpl
 exact Kv F hr hb hd hx I1 r q
end
structure aI(N P:List Str)(sc:Scope):Prop where
 kind:sc.kind = .function
 co:sc.isCoroutine=false
 gen:sc.isGenerator=false
 nd:N.Nodup
 pre:N.take P.length=P
 par:∀ x∈P,sc.names.lookup x=some .local\/sc.names.lookup x=some .cell
 Kw:∀ y∈sc.names,y.2≠.free
theorem wo{kindOf:Str->Option NameKind}{x:Str}:∀{binds:List (Str×Value)} {m:jY},(∀ v,(x,v)∉binds)->bindL kindOf binds m x=m x
 | [],_,_=>rfl
 | (n,v)::r,m,h=>by
   unfold bindL;rw[wo fun w hw=>h w (vz _ hw)]
   split
   ·have:x≠n:=by rintro rfl;exact h v List.mem_cons_self
    simp[this]
   ·rfl
theorem wq{kindOf:Str->Option NameKind}{x:Str}:∀{binds:List (Str×Value)} {m:jY},(∀ v,(x,v)∉binds)->bindC kindOf binds m x=m x
 | [],_,_=>rfl
 | (n,v)::r,m,h=>by
   unfold bindC;rw[wq fun w hw=>h w (vz _ hw)]
   split
   ·rfl
   ·have:x≠n:=by rintro rfl;exact h v List.mem_cons_self
    simp[this]
theorem wu{kindOf:Str->Option NameKind}{x:Str}{v:Value}:∀{P:List Str} {vs:List Value} {i:Nat} {m:jY},P.Nodup->P[i]?=some x->vs[i]?=some v->kindOf x=some .local->
 bindL kindOf (P.zip vs) m x=some v
 | [],_,_,_,_,h,_,_=>by simp at h
 | _::_,[],_,_,_,_,h,_=>by simp at h
 | p::P,w::vs,0,m,nd,h1,h2,hk=>by
   simp at h1 h2;subst h1;subst h2;show bindL kindOf ((p,w)::P.zip vs) m p=_;unfold bindL;rw[wo fun v hv=>(List.nodup_cons.mp nd).1 (List.of_mem_zip hv).1,if_pos hk]
   simp
 | p::P,w::vs,i+1,m,nd,h1,h2,hk=>by
   show bindL kindOf ((p,w)::P.zip vs) m x=_;unfold bindL;exact wu (i:=i) (List.nodup_cons.mp nd).2 (by simpa using h1) (by simpa using h2) hk
theorem wz{kindOf:Str->Option NameKind}{x:Str}{v:Value}:∀{P:List Str} {vs:List Value} {i:Nat} {m:jY},P.Nodup->P[i]?=some x->vs[i]?=some v->kindOf x≠some .local->
 bindC kindOf (P.zip vs) m x=some v
 | [],_,_,_,_,h,_,_=>by simp at h
 | _::_,[],_,_,_,_,h,_=>by simp at h
 | p::P,w::vs,0,m,nd,h1,h2,hk=>by
   simp at h1 h2;subst h1;subst h2;show bindC kindOf ((p,w)::P.zip vs) m p=_;unfold bindC;rw[wq fun v hv=>(List.nodup_cons.mp nd).1 (List.of_mem_zip hv).1,if_neg hk]
   simp
 | p::P,w::vs,i+1,m,nd,h1,h2,hk=>by
   show bindC kindOf ((p,w)::P.zip vs) m x=_;unfold bindC;exact wz (i:=i) (List.nodup_cons.mp nd).2 (by simpa using h1) (by simpa using h2) hk
def start(N:List Str)(vs:List V):St:=vs.map some++List.replicate (N.length-vs.length) none
def zp(CX:EY)(P:Program)(w:World)(K:bY)(mg:jY)(base:Heap)(N:List Str)(qual:Str)(scope:Scope)(f:Addr)(cd:Value)(A:Around)(outer:List Env)(s:Shared)(H:Hp)(E:XK):Cx where
 prog:=P
 w:=w
 K:=K
 mg:=mg
 base:=base
 A:=A.deeper (envOfC qual scope s.heap.objs.size f cd)
 N:=N
 s₀:=s
 H₀:=H
 env:=envOfC qual scope s.heap.objs.size f cd
 outer:=outer
 stack:=envOfC qual scope s.heap.objs.size f cd::outer
 ex:=[]
 calm:=true
 fn:=fun _=>true
 pn:=[]
 xe:=fun e s'=>wpAny (model P w) (A.deeper (envOfC qual scope s.heap.objs.size f cd)) (leaving (envOfC qual scope s.heap.objs.size f cd) e) (fun _ s''=>CX outer H s E e s'') (fun e' s''=>CX outer H s E e' s'') s'
theorem zq{sc:Scope}{n:Nat}{x:Str}(h:sc.names.lookup x=some .cell):∃ c,(cellsFrom n sc.names []).lookup x=some c:=by
 have q:=PySem.W.cellsFrom_some sc.names n [] (.inl h);exact Option.isSome_iff_exists.mp q
theorem Dq{CX:EY}{P:Program}{w:World}{K:bY}{mg:jY}{base:Heap}{N ps:List Str}{qual:Str}{scope:Scope}{f:Addr}{cd:Value}{A:Around}{outer:List Env}{s s1:Shared}{H:Hp}{E:XK}{us:List Value}{vs:List V}
 (S:aI N ps scope) (hd:A.handled=none) (e0:HR P w K mg base A outer s H) (hl:vs.length=ps.length) (r:Vals vs us)
 (x:InCallC s s.heap.objs.size (bindL (envOfC qual scope s.heap.objs.size f cd).kindOf (ps.zip us) fun _=>none) (cellsFrom (s.heap.objs.size+1) scope.names []) (bindC (envOfC qual scope s.heap.objs.size f cd).kindOf (ps.zip us) fun _=>none) s1) :
 Inv (zp CX P w K mg base N qual scope f cd A outer s H E) [] (start N vs) H s1:=by
 have hpl:ps.length<=N.length:=by have:=congrArg List.length S.pre;rw[List.length_take]at this;lia
 obtain⟨h1,tk,rfl,hk⟩:=x.done;have Mj:∀ b:Addr,b∉(zp CX P w K mg base N qual scope f cd A outer s H E).ex:=fun b z=>absurd (show b∈([]:List Addr) from z) (by simp)
 refine⟨⟨e0.mod,S.kind,rfl,rfl,Nat.le_refl _,fun y z c h1 h2=>?_,fun y hy=>?_,fun y c _ h=>?_,fun _=>hd,Around.frames_deeper e0.frames,.inr ⟨rfl,rfl⟩,fun b z=>absurd z (Mj b),e0.bs,e0.HC,fun b _ _=>Mj b,fun b z=>absurd z (Mj b),e0.funs,e0.Jr⟩,
  rfl,e0.bare,Un.kept hk,⟨_,x.toInCall.ns,fun i y v h1 h2 h3=>?_⟩,fun y c h=>⟨_,x.cell y c h⟩,e0.hok.fresh (Nat.le_refl _),fun y c h=>?_,fun p hp=>absurd (show p∈([]:br) from hp) (by simp),e0.hok.kept hk,?_⟩
 ·exact name_of_addr x.apart (PySem.mem_of_lookup h1) (PySem.mem_of_lookup h2)
 ·have hy:scope.names.lookup y=some .cell\/scope.names.lookup y=some .free:=hy;rcases hy with hy|hy
  ·exact zq hy
  ·exact absurd rfl (S.Kw _ (PySem.mem_of_lookup hy))
 ·exact Nat.le_of_lt (x.above y c (PySem.mem_of_lookup h))
 ·have hi:i<vs.length:=by
   unfold start at h2
   by_cases hi:i<vs.length
   ·exact hi
   ·rw[List.getElem?_append_right (by simpa using hi)]at h2
    rw[List.getElem?_replicate]at h2
    split at h2<;>cases h2
  have ha:vs[i]?=some v:=by
   unfold start at h2;rw[List.getElem?_append_left (by simpa using hi),List.getElem?_map]at h2
   cases e:vs[i]? with
   | none=>rw[e]at h2;cases h2
   | some a=>rw[e]at h2;cases h2;rfl
  obtain⟨u,hu,rv⟩:=r.get ha;have hp:ps[i]?=some y:=by
   rw[<-S.pre,List.getElem?_take_of_lt (by lia)];exact h1
  have WN:ps.Nodup:=by rw[<-S.pre];exact S.nd.sublist (List.take_sublist _ _)
  refine⟨u,rv,?_⟩;rcases S.par y (nJ hp) with k|k
  ·exact .inl ⟨k,wu WN hp hu k⟩
  ·obtain⟨c,e⟩:=zq (n:=s.heap.objs.size+1) k;refine .inr ⟨.inl k,c,e,?_⟩;have q:=x.cell y c e;rw[wz WN hp hu (by show scope.names.lookup y≠_;rw[k];decide)]at q
   exact q
 ·exact e0.hok.fresh (Nat.le_of_lt (x.above y c (PySem.mem_of_lookup h)))
 ·unfold start;show _=N.length;rw[List.length_append,List.length_map,List.length_replicate]
  lia
theorem Jx{CX:EY}{P:Program}{w:World}{K:bY}{mg:jY}{base:Heap}{k:Nat}{f:Addr}{name qual:Str}{params:Arguments}{body:List Stmt}{scope:Scope}{dV kV doc pm cdv ct oc:Value}{an od:Option Addr}
 {osl:Array (Option Value)} {N ps:List Str} {sp:Sp} (lk:K.lookup f=some ⟨oc,od,.func (PySem.W.fnOf name qual params body scope dV kV doc pm an cdv ct),osl⟩) (hcd:PySem.W.codeIn K cdv qual=true) (S:aI N ps scope)
 (len:∀ vs H Q E,sp vs H Q E->vs.length=ps.length)
 (hbody:∀(A:Around) (outer:List Env) (s:Shared) (H:Hp) (vs:List V) (Q:VK) (E:XK),mC k (A.deeper (envOfC qual scope s.heap.objs.size f cdv))->sp vs H Q E->
  ∃ t,AW (zp CX P w K mg base N qual scope f cdv A outer s H E) body t/\t { nx:=fun _ H'=>Q .iC H',rt:=Q} (start N vs) H) :
 aL P w K mg base CX (k+1) f (PySem.W.fnOf name qual params body scope dV kV doc pm an cdv ct) ps sp:=by
 refine⟨len,fun A outer s H args us vs Q E hr e0 hb r B8=>?_⟩
 have hl:=len _ _ _ _ B8;have KX:K.In s.heap:=e0.mod.Ot.keeps fun b o e=>(e0.bs b o e).1
 have lim:s.heap.NoLimit:=e0.mod.nolimit.keeps fun b o e=>(e0.bs b o e).1
 have hkind:∀ y∈ps.zip us,scope.names.lookup y.1=some .local\/(scope.names.lookup y.1=some .cell/\((cellsFrom (s.heap.objs.size+1) scope.names []).lookup y.1).isSome=true):=fun⟨n,v⟩ hy=>by
  rcases S.par n (List.of_mem_zip hy).1 with q|q
  ·exact .inl q
  ·exact .inr ⟨q,PySem.W.cellsFrom_some _ _ _ (.inl q)⟩
 refine codeAny_call_function hr.depth (KX _ _ lk) rfl S.co S.gen rfl (PySem.W.codeRec_of KX hcd) (hb _ _ _ _ ?_);refine wpAny_newFunctionEnv_cells S.kind hkind fun env he s1 x=>?_
 subst he;refine⟨lim.keeps x.toInCall.keep,codeAny_func ?_⟩;obtain⟨t,ht,hq⟩:=hbody A outer s H vs Q E (hr.deeper _) B8;have I:Inv (zp CX P w K mg base N qual scope f cdv A outer s H E) [] (start N vs) H s1:=Dq S hr.hd e0 hl r x;refine wpAny_mono (ht [] s1 (start N vs) H _ I hq) (fun fl s' hs=>?_) fun e s' hs=>hs
 have fin:∀{σ' : St} {H' : Hp} {v:V} {u:Value},Inv (zp CX P w K mg base N qual scope f cdv A outer s H E) [] σ' H' s'->RelV v u->Q v H'->CE outer P w H s Q u s' :=
  fun {σ' H' v u} J rv q=>⟨v,H',J.os,J.bare,J.base,J.hok,rv,q⟩
 cases fl with
 | ret u =>
   obtain⟨v,σ',H',J,rv,q⟩:=hs;exact fin J rv q
 | next =>
   obtain⟨σ',H',J,q⟩:=hs;exact fin (v:=V.iC) (u:=Value.none) J rfl q
 | brk =>
   obtain⟨_,_,_,q⟩:=hs;exact False.elim q
 | cont =>
   obtain⟨_,_,_,q⟩:=hs;exact False.elim q
section
variable {X:Cx}{x:Str}{p pos:Pos}{e:Expr}{es:List Expr}{t:TA}{id T:String}{r:List V->Hp->VK->Prop}
def WO(r:List V->Hp->VK->Prop)(t:TA):TE:=fun σ H Q=>t σ H fun vs H1=>r vs H1 Q
theorem bf(hc:jC X (.builtin id) r)(hg:Gl X x)(hm:X.mg x=none)(hv:bootBuiltins x=some (.builtin id))(ha:PA X (e::es) t)(hn:x≠"__name__":=by decide)(hdb:(x==("__debug__":Str))=false:=by decide)
 (he:starEach (e::es) X.env=(false,eval e X.env)::starEach es X.env:=by rfl) (hpl:(backTo pos (starEach es X.env)).any (·.1)=false:=by rfl):PE X (.Call (.Name x p) (e::es) [] pos) (WO r t):=by
 intro pq s σ H Q I h;refine wpAny_Call_Name_kw (tO I hg hm hv ?_ hn hdb);exact PyProof.Rows.callWith_builtin1 (fh (ha pos pq s σ H _ I h) fun us s1 ⟨vs,H1,I1,r1,q1⟩=>hc pq s1 σ H1 vs us Q I1 r1 q1) he hpl
theorem gC(hc:jC X (.type T) r)(hg:Gl X x)(hm:X.mg x=none)(hv:bootBuiltins x=some (.type T))(ha:PA X (e::es) t)(hn:x≠"__name__":=by decide)(hdb:(x==("__debug__":Str))=false:=by decide)
 (he:starEach (e::es) X.env=(false,eval e X.env)::starEach es X.env:=by rfl) (hpl:(backTo pos (starEach es X.env)).any (·.1)=false:=by rfl):PE X (.Call (.Name x p) (e::es) [] pos) (WO r t):=by
 intro pq s σ H Q I h;refine wpAny_Call_Name_kw (tO I hg hm hv ?_ hn hdb);exact PyProof.Rows.callWith_type1 (fh (ha pos pq s σ H _ I h) fun us s1 ⟨vs,H1,I1,r1,q1⟩=>hc pq s1 σ H1 vs us Q I1 r1 q1) he hpl
end
end L2
namespace HT
open PySem PyProof.Rows
section
variable {prog:Program}{w:World}{A:Around}{E:iH}{s:Shared}
def gy(n d:Nat):Option Int->Nat
 | none=>d
 | some v=>if v<0 then(v+(n:Int)).toNat else min v.toNat n
theorem EZ(n d:Nat):gy n d none=d:=rfl
theorem HS(n d k:Nat):gy n d (some (k:Int))=min k n:=by
 show(if(k:Int)<0 then((k:Int)+(n:Int)).toNat else min (k:Int).toNat n)=min k n
 rw[if_neg (by lia),Int.toNat_natCast]
theorem Kx(n d:Nat)(hd:d<=n)(o:Option Int):gy n d o<=n:=by
 cases o with
 | none=>exact hd
 | some v =>
   show(if v<0 then(v+(n:Int)).toNat else min v.toNat n)<=n
   by_cases hv:v<0
   ·rw[if_pos hv];lia
   ·rw[if_neg hv];exact Nat.min_le_right _ _
theorem B9(v:Int)(n d:Nat):(if v<0 then max (v+(n:Int)) 0 else min v (n:Int))=((gy n d (some v):Nat):Int):=by
 show(if v<0 then max (v+(n:Int)) 0 else min v (n:Int))=(((if v<0 then(v+(n:Int)).toNat else min v.toNat n):Nat):Int)
 by_cases hv:v<0
 ·simp only[if_pos hv];lia
 ·simp only[if_neg hv];lia
theorem Bb(lo hi:Option Int)(n:Nat):Builtin.Slice.sliceAdjust lo hi 1 (n:Int)=(((gy n 0 lo:Nat):Int),((gy n n hi:Nat):Int)):=by
 have h1 : ¬((1:Int)<0):=by lia
 unfold Builtin.Slice.sliceAdjust;simp only[h1,if_false];refine Prod.ext ?_ ?_
 ·cases lo with
  | none=>rfl
  | some v=>exact B9 v n 0
 ·cases hi with
  | none=>rfl
  | some v=>exact B9 v n n
theorem Bc(i j:Nat):Builtin.Slice.slicePlaces (i:Int) (j:Int) 1=j-i:=by
 unfold Builtin.Slice.slicePlaces;have h1:(1:Int) > 0:=by lia
 simp only[h1,if_true,Int.ediv_one]
 split<;>lia
theorem tV{v:Value}{o:Option Int}{Q:Option Int->Shared->Prop}(p:IsPart v o)(h:Q o s):wpAny (model prog w) A (Builtin.Slice.slicePartIndex v) Q E s:=by
 cases p with
 | none=>exact slicePart_none h
 | int i t=>exact slicePart_int h
theorem j7{sl:Addr}{vl vu:Value}{lo hi:Option Int}{n:Nat}{Q:Int×Int×Nat->Shared->Prop}(hs:s.heap.IsSliceOf sl vl vu .none)(pl:IsPart vl lo)(pu:IsPart vu hi)
 (h:Q (((gy n 0 lo:Nat):Int),1,gy n n hi-gy n 0 lo) s):wpAny (model prog w) A (Builtin.Slice.sliceApplied (.ref sl) (pure (n:Int))) Q E s:=by
 obtain⟨os,hos,hcs,hds⟩:=id hs;unfold Builtin.Slice.sliceApplied Builtin.Slice.sliceFields;refine wpAny_bind (wpAny_bind (wpAny_field hos hds (x:=vl) rfl (wpAny_bind (wpAny_field hos hds (x:=vu) rfl (wpAny_bind (wpAny_field hos hds (x:=.none) rfl (wpAny_pure ?_)))))));refine wpAny_bind (slicePart_none ?_);show wpAny _ _ (if((1:Int)==0)=true then _ else _) _ _ s
 rw[if_neg (by decide)]
 refine wpAny_bind (tV pl (wpAny_bind (tV pu (wpAny_bind (wpAny_pure ?_)))));show wpAny _ _ (match Builtin.Slice.sliceAdjust lo hi 1 (n:Int) with | (lo,hi)=>pure (lo,(1:Int),Builtin.Slice.slicePlaces lo hi 1)) _ _ s
 rw[Bb lo hi n];show wpAny _ _ (pure (((gy n 0 lo:Nat):Int),(1:Int),Builtin.Slice.slicePlaces ((gy n 0 lo:Nat):Int) ((gy n n hi:Nat):Int) 1)) _ _ s;rw[Bc];exact wpAny_pure h
theorem E1(xs:Array Value)(i k:Nat):((List.range k).filterMap fun(m:Nat)=>xs[((i:Int)+(m:Int)*1).toNat]?).toArray=((xs.toList.drop i).take k).toArray:=by
 have e:(fun(m:Nat)=>xs[((i:Int)+(m:Int)*1).toNat]?)=fun m=>xs[i+m]?:=by
  funext m
  have:((i:Int)+(m:Int)*1).toNat=i+m:=by lia
  rw[this]
 rw[e];have:=pick_run xs i k;rw[List.filterMap_map]at this;have e2:((fun x=>xs[x]?)∘fun x=>i+x)=fun m=>xs[i+m]?:=rfl
 rw[e2]at this;rw[this]
theorem jD{t sl:Addr}{items:Array Value}{vl vu:Value}{lo hi:Option Int}{Q:iH}(ht:IsTup s.heap t items)(hs:s.heap.IsSliceOf sl vl vu .none)(pl:IsPart vl lo)(pu:IsPart vu hi)
 (hw : ¬(gy items.size 0 lo=0/\gy items.size items.size hi=items.size))
 (h:Q (.ref s.heap.objs.size) { s with heap:=s.heap.push { cls:=.type "tuple",data:=.seq ((items.toList.drop (gy items.size 0 lo)).take (gy items.size items.size hi-gy items.size 0 lo)).toArray}})
 (hsz:items.size<=sizeLine):wpAny (model prog w) A (getItem (.ref t) (.ref sl)) Q E s:=by
 have Ca:sizeOk (.seq ((items.toList.drop (gy items.size 0 lo)).take (gy items.size items.size hi-gy items.size 0 lo)).toArray):=by
  show((items.toList.drop (gy items.size 0 lo)).take (gy items.size items.size hi-gy items.size 0 lo)).toArray.size<=sizeLine;rw[List.size_toArray,List.length_take,List.length_drop,Array.length_toList]
  lia
 have hj:gy items.size items.size hi<=items.size:=Kx _ _ (Nat.le_refl _) hi;obtain⟨os,hos,hcs,hds⟩:=id hs;have P4:s.TypeIs (.ref sl) "slice":=⟨os,hos,hcs⟩;unfold getItem
 try with_reducible refine wpAny_holding ?_
 first | refine wpAny_bind (wpAny_pure ?_) | skip
 refine wpAny_bind (wpAny_sequenceKey ht.typeIs (by decide) ?_)
 refine wpAny_bind (wpAny_callSpecial?_slot (name:=Str.ofString "__getitem__") ht.typeIs PyProof.Rows.slot_tuple_getitem
  (wpAny_call_entry PyProof.Rows.slot_tuple_getitem ht.typeIs entry_tuple_getitem ?_ (args_tuple_getitem _ _)))
 show wpAny _ _ (Builtin.Tuple.tupleItemsOf (.ref t) >>= _) _ _ s;refine wpAny_bind (tupleItemsOf_ ht ?_);refine wpAny_bind (wpAny_typeOf P4 ?_);rw[if_pos (by decide)]
 refine wpAny_bind (j7 hs pl pu ?_);have hno : ¬((((gy items.size 0 lo:Nat):Int)==0&&(1:Int)==1&&(gy items.size items.size hi-gy items.size 0 lo)==items.size)=true):=by
  intro q;rw[Bool.and_eq_true,Bool.and_eq_true]at q;have q1:((gy items.size 0 lo:Nat):Int)=0:=eq_of_beq q.1.1;have q2:gy items.size items.size hi-gy items.size 0 lo=items.size:=eq_of_beq q.2;exact hw ⟨by lia,by lia⟩
 show wpAny _ _ (if(((gy items.size 0 lo:Nat):Int)==0&&(1:Int)==1&&(gy items.size items.size hi-gy items.size 0 lo)==items.size)=true then _ else _) _ _ s
 rw[if_neg hno,E1]
 first
  | exact wpAny_bind (m:=Builtin.Tuple.tupleExact _) (wpAny_newObj_type (wpAny_pure ⟨_,rfl,wpAny_pure h⟩) Ca)
  | exact wpAny_bind (m:=Builtin.Tuple.tupleExact _) (wpAny_newObj_type (wpAny_bind (wpAny_pure (wpAny_pure ⟨_,rfl,wpAny_pure h⟩))) Ca)
  | exact wpAny_bind (wpAny_bind (m:=Builtin.Tuple.tupleExact _) (wpAny_newObj_type (wpAny_pure (wpAny_pure ⟨_,rfl,wpAny_pure h⟩)) Ca))
  | exact wpAny_bind (wpAny_bind (m:=Builtin.Tuple.tupleExact _) (wpAny_newObj_type (wpAny_pure ⟨_,rfl,wpAny_pure h⟩) Ca))
end
end HT
namespace L2
open PySem PySem.Spec PyProof.Rows
abbrev TO:=St->Hp->(Option Int->Hp->Prop)->Prop
def PO(X:Cx)(e:Option Expr)(t:TO):Prop :=
 ∀(pq:br) (s:Shared) (σ:St) (H:Hp) (Q:Option Int->Hp->Prop),Inv X pq σ H s->t σ H Q->
  wpAny (model X.prog X.w) X.A (evalPart e X.env) (fun u s'=>∃ o H',Inv X pq σ H' s'/\IsPart u o/\Q o H') X.xe s
def HU:TO:=fun _ H Q=>Q none H
def Mk(t:TE):TO:=fun σ H Q=>t σ H fun x H1=>∃ i,x = .int i/\Q (some i) H1
section
variable {X:Cx}{e:Expr}{te:TE}{lo hi:Option Expr}{tl th:TO}{pos p2:Pos}
theorem pR:PO X none HU:=by
 intro pq s σ H Q I h;rw[evalPart_none];exact wpAny_pure ⟨none,H,I,.none,h⟩
theorem pS(h:PE X e te):PO X (some e) (Mk te):=by
 intro pq s σ H Q I hw;rw[evalPart_some];refine fh (h pq s σ H _ I hw) fun u s1 ⟨x,H1,I1,r1,q1⟩=>?_
 obtain⟨i,rfl,q⟩:=q1;obtain⟨t,rfl⟩:=r1;exact⟨some i,H1,I1,.int i t,q⟩
def OA(X:Cx)(r:V->Option Int->Option Int->Hp->VK->Prop):Prop :=
 ∀(pq:br) (s:Shared) (σ:St) (H:Hp) (x:V) (v vl vu:Value) (lo hi:Option Int) (sl:Addr) (Q:VK),Inv X pq σ H s->RelV x v->s.heap.IsSliceOf sl vl vu .none->IsPart vl lo->IsPart vu hi->r x lo hi H Q->
  ∃ T id,typeLookup (.type T) "__getitem__"=pure (some (.builtin id))/\s.TypeIs v T/\wpAny (model X.prog X.w) X.A (getItem v (.ref sl)) (EP X pq σ Q) X.xe s
def YG(r:V->Option Int->Option Int->Hp->VK->Prop)(te:TE)(tl th:TO):TE:=fun σ H Q=>te σ H fun x H1=>tl σ H1 fun l H2=>th σ H2 fun u H3=>r x l u H3 Q
theorem mQ{r:V->Option Int->Option Int->Hp->VK->Prop}(hr:OA X r)(he:PE X e te)(hl:PO X lo tl)(hu:PO X hi th):PE X (.Subscript e (.Slice lo hi none p2) pos) (YG r te tl th):=by
 intro pq s σ H Q I h;refine Subscript_ (fh (he pq s σ H _ I h) fun v s1 ⟨x,H1,I1,r1,q1⟩=>?_)
 refine wpAny_Slice (fh (hl pq s1 σ H1 _ I1 q1) fun vl s2 ⟨l,H2,I2,pl,q2⟩=>fh (hu pq s2 σ H2 _ I2 q2) fun vu s3 ⟨u,H3,I3,pu,q3⟩=>?_)
 rw[evalPart_none];refine wpAny_pure ?_;have I4:Inv X pq σ H3 { s3 with heap:=s3.heap.push { cls:=.type "slice",data:=.fields #[vl,vu,.none]}}:=I3.kept (t':=s3.toks) fun b ob q=>Heap.get?_push_of_some _ q
 obtain⟨T,id,hT,ht,hg⟩:=hr pq { s3 with heap:=s3.heap.push { cls:=.type "slice",data:=.fields #[vl,vu,.none]}} σ H3 x v vl vu l u s3.heap.objs.size Q I4 r1 (Heap.IsSliceOf.new ..) pl pu q3
 show wpAny (model X.prog X.w) X.A (subscriptTail e (.Slice lo hi none p2) v (.ref s3.heap.objs.size)) (EP X pq σ Q) X.xe { s3 with heap:=s3.heap.push { cls:=.type "slice",data:=.fields #[vl,vu,.none]}}
 exact tail_any (ops:=[.ref s3.heap.objs.size,v]) ht hT hg (by with_unfolding_all rfl)
def sP(xs:List V)(lo hi:Option Int):List V:=(xs.drop (HT.gy xs.length 0 lo)).take (HT.gy xs.length xs.length hi-HT.gy xs.length 0 lo)
theorem sd(xs:List V)(lo hi:Option Int):(sP xs lo hi).length<=xs.length:=by
 unfold sP;rw[List.length_take,List.length_drop]
 lia
def Ml(K:bY):V->Option Int->Option Int->Hp->VK->Prop:=fun x lo hi H Q=>∃ a xs,x = .ref a/\bI K H a xs/\
 ¬(HT.gy xs.length 0 lo=0/\HT.gy xs.length xs.length hi=xs.length)/\∀ p,H p=none->Q (.ref p) (upd H p (.tup (sP xs lo hi)))
theorem Ky:OA X (Ml X.K):=by
 intro pq s σ H x v vl vu lo hi sl Q I rx hs pl pu h;obtain⟨a,xs,rfl,hx,hw,q⟩:=h;cases rx;obtain⟨its,r,ht,hz⟩:=I.tuple hx;have hlen:its.toArray.size=xs.length:=by rw[List.size_toArray];exact r.length.symm
 refine⟨"tuple",_,PyProof.Rows.slot_tuple_getitem.lookup,ht.typeIs,?_⟩;refine HT.jD ht hs pl pu (by rw[hlen];exact hw) ?_ (by rw[hlen];exact hz)
 rw[hlen];refine⟨.ref s.heap.objs.size,_,I.laid (t':=s.toks) (o:=.tup (sP xs lo hi)) (fun b ob q=>Heap.get?_push_of_some _ q) (Nat.le_refl _) ?_,rfl,q _ (I.hok.fresh (Nat.le_refl _))⟩
 exact⟨Nat.le_trans (sd xs lo hi) hz,_,(r.drop (HT.gy xs.length 0 lo)).take (HT.gy xs.length xs.length hi-HT.gy xs.length 0 lo),IsTup.new _ _⟩
end
def HV(n:Nat)(i:Int):Option Nat:=if 0<=i then(if i<n then some i.toNat else none) else if -(n:Int)<=i then some (i+n).toNat else none
def E2{α:Type}(xs:List α)(i:Int):Option α:=(HV xs.length i).bind fun j=>xs[j]?
theorem Cb{n:Nat}{i:Int}{j:Nat}(h:HV n i=some j):seqIndex? i n=some j/\j<n/\-(n:Int)<=i/\i<n:=by
 unfold HV at h
 by_cases h0:0<=i
 ·rw[if_pos h0]at h
  by_cases h1:i<n
  ·rw[if_pos h1]at h;have e:i.toNat=j:=Option.some.inj h;exact⟨by rw[seqIndex_of h0 h1,e],by lia,by lia,h1⟩
  ·rw[if_neg h1]at h;cases h
 ·rw[if_neg h0]at h
  by_cases h1 : -(n:Int)<=i
  ·rw[if_pos h1]at h;have e:(i+n).toNat=j:=Option.some.inj h;exact⟨by rw[seqIndex_neg (by lia) h1,e],by lia,h1,by lia⟩
  ·rw[if_neg h1]at h;cases h
theorem Cc{α:Type}{xs:List α}{i:Int}{v:α}(h:E2 xs i=some v):∃ j,seqIndex? i xs.length=some j/\xs[j]?=some v/\j<xs.length/\-(xs.length:Int)<=i/\i<xs.length:=by
 unfold E2 at h;cases e:HV xs.length i with
 | none=>rw[e]at h;cases h
 | some j =>
   rw[e]at h;obtain⟨h1,h2,h3,h4⟩:=Cb e;exact⟨j,h1,h,h2,h3,h4⟩
theorem aq{α:Type}{xs:List α}{j:Nat}{v:α}(h:xs[j]?=some v):E2 xs (j:Int)=some v:=by
 have hj:j<xs.length:=(zj.mp h).1;have e:HV xs.length (j:Int)=some j:=by
  unfold HV;rw[if_pos (by lia),if_pos (by lia)];simp
 unfold E2;rw[e];exact h
def HW(b:Expr):Prop:=∀ o i,subscripted b false o i=operate [o,i] (getItem o i)
def Mm(X:Cx)(r:R2):Prop :=
 ∀(value slice:Expr) (pq:br) (s:Shared) (σ:St) (H:Hp) (x y:V) (v u:Value) (Q:VK),Inv X pq σ H s->RelV x v->RelV y u->r x y H Q->
  subscripted slice false v u=operate [v,u] (getItem v u)->wpAny (model X.prog X.w) X.A (subscriptTail value slice v u) (EP X pq σ Q) X.xe s
def P5(X:Cx)(id:String)(r:V->List V->Hp->VK->Prop):Prop :=
 ∀(pq:br) (s:Shared) (σ:St) (H:Hp) (x:V) (xs:List V) (v:Value) (us:List Value) (Q:VK),Inv X pq σ H s->RelV x v->Vals xs us->r x xs H Q->
  wpAny (model X.prog X.w) X.A (call (.builtin id) (v::us)) (EP X pq σ Q) X.xe s
section
variable {X:Cx}{a b:Expr}{ta tb:TE}{pos:Pos}
theorem aD{r:R2}(hr:Mm X r)(ha:PE X a ta)(hb:PE X b tb)(hs:HW b):PE X (.Subscript a b pos) (Oz r ta tb):=by
 intro pq s σ H Q I h;exact Subscript_ (Kp ha hb I h fun v u s2 x y H2 I2 rx ry q=>hr a b pq s2 σ H2 x y v u Q I2 rx ry q (hs _ _))
def Mn(K:bY):R2:=fun x y H Q=>∃ p xs i v,x = .ref p/\y = .int i/\aW K H p xs/\E2 xs i=some v/\Q v H
def Mp(K:bY):R2:=fun x y H Q=>∃ p xs i v,x = .ref p/\y = .int i/\bI K H p xs/\E2 xs i=some v/\Q v H
theorem HX:Mm X (Mn X.K):=by
 intro value slice pq s σ H x y v u Q I rx ry h hs;obtain⟨p,xs,i,z,rfl,rfl,hq,he,q⟩:=h;cases rx;obtain⟨t,rfl⟩:=ry;obtain⟨its,r,pl,hz⟩:=I.list hq;obtain⟨j,h1,h2,h3,h4,h5⟩:=Cc he;obtain⟨w,ew,rw'⟩:=r.get h2;have hl:=r.length;have hn:=tU;have fin:EP X pq σ Q w s:=⟨z,H,I,rw',q⟩
 by_cases h0:0<=i
 ·have hj:i.toNat=j:=by
   rw[seqIndex_of h0 h5]at h1;exact Option.some.inj h1
  exact item_listR pl.isList h0 (by lia) (by rw[hj];simpa using ew) fin hs
 ·have hj:(i+(its.toArray.size:Int)).toNat=j:=by
   rw[seqIndex_neg (by lia) h4]at h1
   rw[List.size_toArray,<-hl];exact Option.some.inj h1
  exact subscriptTail_builtinR (x:=w) pl.isList.typeIs slot_list_getitem.lookup
   (wpAny_getItem_list_neg (Q:=fun r s'=>r=w/\EP X pq σ Q r s') pl.isList (by lia) (by rw[List.size_toArray]<;>lia) (by lia) (by rw[hj];simpa using ew) ⟨rfl,fin⟩) hs
theorem Kz:Mm X (Mp X.K):=by
 intro value slice pq s σ H x y v u Q I rx ry h hs;obtain⟨p,xs,i,z,rfl,rfl,hq,he,q⟩:=h;cases rx;obtain⟨t,rfl⟩:=ry;obtain⟨its,r,pl,hz⟩:=I.tuple hq;obtain⟨j,h1,h2,h3,h4,h5⟩:=Cc he;obtain⟨w,ew,rw'⟩:=r.get h2;have hl:=r.length;have hn:=tU;have fin:EP X pq σ Q w s:=⟨z,H,I,rw',q⟩;exact subscriptTail_builtinR (x:=w) pl.typeIs slot_tuple_getitem.lookup
  (getItem_tuple (j:=j) (Q:=fun r s'=>r=w/\EP X pq σ Q r s') pl (by lia) (by lia) (by rw[List.size_toArray,<-hl];exact h1) (by simpa using ew) ⟨rfl,fin⟩) hs
theorem Bd(its:List Value)(n j:Nat)(u:Value):Obj.mapSeq (·.setIfInBounds j u) { cls:=.type "list",data:=.seq its.toArray n}={ cls:=.type "list",data:=.seq (its.set j u).toArray n}:=by
 simp[Obj.mapSeq]
theorem Inv.lst{pq:br}{σ:St}{H:Hp}{s:Shared}{p:Addr}{xs:List V}(I:Inv X pq σ H s)(h:H p=some (.lst xs)):
 ∃(its:List Value) (n:Nat),Vals xs its/\s.heap.get? p=some { cls:=.type "list",data:=.seq its.toArray n}/\xs.length<=sizeLine:=by
 obtain⟨z,its,n,r,e⟩:=I.hok p _ h;exact⟨its,n,r,e,z⟩
theorem Inv.KA{pq:br}{σ:St}{H:Hp}{s:Shared}{p:Addr}{xs ys:List V}{its its' : List Value}{n n' : Nat}{f:Obj->Obj}(I:Inv X pq σ H s)(h:H p=some (.lst xs))
 (ho:s.heap.get? p=some { cls:=.type "list",data:=.seq its.toArray n}) (hf:f { cls:=.type "list",data:=.seq its.toArray n}={ cls:=.type "list",data:=.seq its'.toArray n'}) (r:Vals ys its') (hz:ys.length<=sizeLine) (t:Nat) :
 Inv X pq σ (upd H p (.lst ys)) { s with heap:=s.heap.update p f,toks:=t}:=by
 have e:(s.heap.update p f).get? p=some { cls:=.type "list",data:=.seq its'.toArray n'}:=by
  rw[Heap.get?_update_self f ho (by rw[hf]<;>rfl),hf]
 refine I.write (x:=p) (e:=p) (by rw[h];trivial) (.inl rfl) (fun b u hb q=>(Heap.get?_update_other _ _ (Ne.symm hb)).trans q) ⟨_,e⟩ ?_
 exact⟨hz,its',n',r,e⟩
def Mq:V->V->V->Hp->(Hp->Prop)->Prop:=fun o i v H Q=>∃ p xs k j,o = .ref p/\i = .int k/\H p=some (.lst xs)/\HV xs.length k=some j/\Q (upd H p (.lst (xs.set j v)))
theorem set_list:Km X Mq:=by
 intro pq s σ H o i v ov iv u Q I ro ri rv h;obtain⟨p,xs,k,j,rfl,rfl,hp,hj,q⟩:=h;cases ro;obtain⟨t,rfl⟩:=ri;obtain⟨its,n,r,ho,hz⟩:=I.lst hp;obtain⟨h1,h2,h3,h4⟩:=Cb hj;have hl:=r.length;have hn:=tU;have I' : Inv X pq σ (upd H p (.lst (xs.set j v))) { s with heap:=s.heap.update p (Obj.mapSeq (·.setIfInBounds j u))} :=
  I.KA hp ho (Bd its n j u) (r.set rv j) (by rw[List.length_set];exact hz) s.toks
 by_cases h0:0<=k
 ·have hk:k.toNat=j:=by
   rw[seqIndex_of h0 h4]at h1;exact Option.some.inj h1
  exact PySem.W.ki_setAt ho h0 (by lia) (by rw[List.size_toArray,<-hl];exact h4) (by rw[hk];exact⟨_,I',q⟩)
 ·have hk:(k+(its.toArray.size:Int)).toNat=j:=by
   rw[seqIndex_neg (by lia) h3]at h1
   rw[List.size_toArray,<-hl];exact Option.some.inj h1
  exact PySem.W.ki_setBack ho (by lia) (by rw[List.size_toArray,<-hl];exact h3) (by lia) (by rw[hk];exact⟨_,I',q⟩)
def pT:V->Bool
 | .iC=>true
 | .bl _=>true
 | .int _=>true
 | .str _=>true
 | _=>false
def HY:V->V->Bool
 | .iC,.iC=>true
 | .bl a,.bl b=>a==b
 | .bl a,.int b=>(if a then 1 else 0)==b
 | .int a,.bl b=>a==(if b then 1 else 0)
 | .int a,.int b=>a==b
 | .str a,.str b=>a==b
 | _,_=>false
theorem KC{A:Around}{s:Shared}{y x:V}{u v:Value}(ry:RelV y u)(rx:RelV x v)(fy:pT y=true)(fx:pT x=true):SeqAt.EqAt A s u v (HY y x):=by
 cases y with
 | iC =>
   cases ry;cases x with
   | iC=>cases rx;exact SeqAt.EqAt.same _
   | bl b=>cases rx;exact SeqAt.EqAt.none_bool b
   | int b=>obtain⟨t,rfl⟩:=rx;exact SeqAt.EqAt.none_int b t
   | str b=>obtain⟨t,rfl⟩:=rx;exact SeqAt.EqAt.none_str b t
   | _=>exact absurd (show false=true from fx) Bool.false_ne_true
 | bl a =>
   cases ry;cases x with
   | iC=>cases rx;exact SeqAt.EqAt.bool_none a
   | bl b=>cases rx;exact SeqAt.EqAt.bool_bool a b
   | int b=>obtain⟨t,rfl⟩:=rx;exact SeqAt.EqAt.bool_int a b t
   | str b=>obtain⟨t,rfl⟩:=rx;exact SeqAt.EqAt.bool_str a b t
   | _=>exact absurd (show false=true from fx) Bool.false_ne_true
 | int a =>
   obtain⟨t',rfl⟩:=ry;cases x with
   | iC=>cases rx;exact SeqAt.EqAt.int_none a t'
   | bl b=>cases rx;exact SeqAt.EqAt.int_bool a t' b
   | int b=>obtain⟨t,rfl⟩:=rx;exact SeqAt.EqAt.int_int a t' b t
   | str b=>obtain⟨t,rfl⟩:=rx;exact SeqAt.EqAt.int_str a t' b t
   | _=>exact absurd (show false=true from fx) Bool.false_ne_true
 | str a =>
   obtain⟨t',rfl⟩:=ry;cases x with
   | iC=>cases rx;exact SeqAt.EqAt.str_none a t'
   | bl b=>cases rx;exact SeqAt.EqAt.str_bool a t' b
   | int b=>obtain⟨t,rfl⟩:=rx;exact SeqAt.EqAt.str_int a t' b t
   | str b=>obtain⟨t,rfl⟩:=rx;exact SeqAt.EqAt.str_str a t' b t
   | _=>exact absurd (show false=true from fx) Bool.false_ne_true
 | _=>exact absurd (show false=true from fy) Bool.false_ne_true
def Be(x:V)(u:Value):Bool:=match u with
 | .none=>HY .iC x
 | .bool b=>HY (.bl b) x
 | .int i _=>HY (.int i) x
 | .str z _=>HY (.str z) x
 | _=>false
theorem E3{x y:V}{u:Value}(r:RelV y u)(f:pT y=true):Be x u=HY y x:=by
 cases y with
 | iC=>cases r;rfl
 | bl b=>cases r;rfl
 | int i=>obtain⟨t,rfl⟩:=r;rfl
 | str z=>obtain⟨t,rfl⟩:=r;rfl
 | _=>exact absurd (show false=true from f) Bool.false_ne_true
theorem pU{x:V}:∀{xs:List V} {us:List Value},Vals xs us->xs.all pT=true->us.any (Be x)=xs.any fun y=>HY y x
 | _,_,.nil,_=>rfl
 | y::xs,u::us,.cons r t,f=>by
   rw[List.all_cons,Bool.and_eq_true]at f;rw[List.any_cons,List.any_cons,E3 r f.1,pU t f.2]
theorem mR{A:Around}{s:Shared}{x:V}{v:Value}(rx:RelV x v)(fx:pT x=true):∀{xs:List V} {us:List Value},Vals xs us->xs.all pT=true->∀ u∈us,SeqAt.EqAt A s u v (Be x u)
 | _,_,.nil,_=>fun u hu=>by cases hu
 | y::xs,u::us,.cons r t,f=>fun u' hu=>by
   rw[List.all_cons,Bool.and_eq_true]at f;rcases List.mem_cons.mp hu with rfl|hu
   ·rw[E3 r f.1];exact KC r rx f.1 fx
   ·exact mR rx fx t f.2 u' hu
def HZ(x:V)(xs:List V):Bool:=xs.any fun y=>HY y x
def OB(K:bY)(neg:Bool):R2:=fun x y H Q=>∃ p xs,y = .ref p/\(aW K H p xs\/bI K H p xs)/\pT x=true/\xs.all pT=true/\Q (.bl (if neg then !HZ x xs else HZ x xs)) H
theorem Dr:mO X (compareOp .In) (OB X.K false):=by
 intro pq s σ H x y v u Q I rx ry h;obtain⟨p,xs,rfl,hq,fx,fs,q⟩:=h;cases ry;rcases hq with hq|hq
 ·obtain⟨its,r,pl,hz⟩:=I.list hq;refine SeqAt.in_listAt (Be x) pl.isList (fun w hw=>mR rx fx r fs w (by simpa using hw)) ⟨.bl _,H,I,rfl,?_⟩
  rw[show its.toArray.any (Be x)=its.any (Be x) by simp,pU r fs]
  exact q
 ·obtain⟨its,r,pl,hz⟩:=I.tuple hq;refine SeqAt.in_tupleAt (Be x) pl (fun w hw=>mR rx fx r fs w (by simpa using hw)) ⟨.bl _,H,I,rfl,?_⟩
  rw[show its.toArray.any (Be x)=its.any (Be x) by simp,pU r fs]
  exact q
theorem x8:mO X (compareOp .NotIn) (OB X.K true):=by
 intro pq s σ H x y v u Q I rx ry h;obtain⟨p,xs,rfl,hq,fx,fs,q⟩:=h;cases ry;rcases hq with hq|hq
 ·obtain⟨its,r,pl,hz⟩:=I.list hq;refine SeqAt.notIn_listAt (Be x) pl.isList (fun w hw=>mR rx fx r fs w (by simpa using hw)) ⟨.bl _,H,I,rfl,?_⟩
  rw[show its.toArray.any (Be x)=its.any (Be x) by simp,pU r fs]
  exact q
 ·obtain⟨its,r,pl,hz⟩:=I.tuple hq;refine SeqAt.notIn_tupleAt (Be x) pl (fun w hw=>mR rx fx r fs w (by simpa using hw)) ⟨.bl _,H,I,rfl,?_⟩
  rw[show its.toArray.any (Be x)=its.any (Be x) by simp,pU r fs]
  exact q
theorem x9:jC X (.builtin "len") (fun xs H Q=>∃ p ys,xs=[.ref p]/\(aW X.K H p ys\/bI X.K H p ys)/\Q (.int ys.length) H):=by
 intro pq s σ H xs us Q I r h;obtain⟨p,ys,rfl,hq,q⟩:=h;obtain⟨u,rfl,rx⟩:=vals1 r;cases rx;have hn:=tU;rcases hq with hq|hq
 ·obtain⟨its,r',pl,hz⟩:=I.list hq;have hlen:=r'.length;exact Calls.call_len_list pl.isList (by simp only[List.size_toArray]<;>lia) ⟨.int ys.length,H,I.tok _,⟨s.toks+1,by rw[List.size_toArray,hlen]⟩,q⟩
 ·obtain⟨its,r',pl,hz⟩:=I.tuple hq;have hlen:=r'.length;exact len_tuple pl (by simp only[List.size_toArray]<;>lia) ⟨.int ys.length,H,I.tok _,⟨s.toks+1,by rw[List.size_toArray,hlen]⟩,q⟩
theorem yc:jC X (.type "list") (fun xs H Q=>∃ p ys,xs=[.ref p]/\(aW X.K H p ys\/bI X.K H p ys)/\∀ l,H l=none->Q (.ref l) (upd H l (.lst ys))):=by
 intro pq s σ H xs us Q I r h;obtain⟨p,ys,rfl,hq,q⟩:=h;obtain⟨u,rfl,rx⟩:=vals1 r;cases rx;have fin:∀(its:List Value),Vals ys its->ys.length<=sizeLine->∀(h' : Heap) (c' : Nat),(∀ b o',s.heap.get? b=some o'->h'.get? b=some o')->
  h'.get? s.heap.objs.size=some { cls:=.type "list",dict:=none,data:=.seq its.toArray c',slots:=#[]}->EP X pq σ Q (.ref s.heap.objs.size) { s with heap:=h'}:=fun its r' hz h' c' kp e =>
  ⟨.ref s.heap.objs.size,_,I.laid (t':=s.toks) kp (Nat.le_refl _) (show gw X.prog X.w _ h' _ (.lst ys) from⟨hz,its,c',r',e⟩),rfl,q _ (I.hok.fresh (Nat.le_refl _))⟩
 rcases hq with hq|hq
 ·obtain⟨its,r',pl,hz⟩:=I.list hq;have hlen:=r'.length;obtain⟨o,ho,hc,n,hd⟩:=pl.isList;exact call_list_seq p (.inl rfl) ho hc hd (fun h' c' kp e=>fin its r' hz h' c' kp e) (by simp only[List.size_toArray]<;>lia)
 ·obtain⟨its,r',pl,hz⟩:=I.tuple hq;have hlen:=r'.length;obtain⟨o,ho,hc,n,hd⟩:=pl;exact call_list_seq p (.inr rfl) ho hc hd (fun h' c' kp e=>fin its r' hz h' c' kp e) (by simp only[List.size_toArray]<;>lia)
theorem vB:jC X (.type "tuple") (fun xs H Q=>∃ p ys,xs=[.ref p]/\((aW X.K H p ys/\∀ l,H l=none->Q (.ref l) (upd H l (.tup ys)))\/(bI X.K H p ys/\Q (.ref p) H))):=by
 intro pq s σ H xs us Q I r h;obtain⟨p,ys,rfl,h⟩:=h;obtain⟨u,rfl,rx⟩:=vals1 r;cases rx;rcases h with⟨hq,q⟩|⟨hq,q⟩
 ·obtain⟨its,r',pl,hz⟩:=I.list hq;have hlen:=r'.length;refine call_tuple_list pl.isList (fun h' kp=>?_) (by simp only[List.size_toArray]<;>lia)
  have I1:Inv X pq σ H { s with heap:=h'}:=I.kept (t':=s.toks) kp
  have I2:Inv X pq σ (upd H h'.objs.size (.tup ys)) { s with heap:=h'.push { cls:=.type "tuple",data:=.seq its.toArray}} :=
   I1.laid (t':=s.toks) (fun b o e=>Heap.get?_push_of_some _ e) (Nat.le_refl _) (show gw X.prog X.w _ _ _ (.tup ys) from⟨hz,its,r',IsTup.new _ _⟩)
  exact⟨.ref h'.objs.size,_,I2,rfl,q _ (I1.hok.fresh (Nat.le_refl _))⟩
 ·obtain⟨its,r',pl,hz⟩:=I.tuple hq;exact call_tuple_same pl ⟨.ref p,H,I,rfl,q⟩
def P6(K:bY)(T:String)(x:V)(H:Hp):Prop:=match x with
 | .str _=>T="str"
 | .int _=>T="int"
 | .ref p=>(T="list"/\∃ xs,aW K H p xs)\/(T="tuple"/\∃ o,K.lookup p=some o/\o.cls = .type "tuple"/\o.dict=none)\/
  (T="dict"/\((∃ kvs,H p=some (.dK kvs))\/∃ kvs,H p=some (.dT kvs)))\/(T="set"/\∃ S n,H p=some (.set S n))
 | _=>False
theorem E4{pq:br}{σ:St}{H:Hp}{s:Shared}{T:String}{x:V}{v:Value}(I:Inv X pq σ H s)(r:RelV x v)(ty:P6 X.K T x H):
 s.TypeIs v T/\∀ a,v = .ref a->∃ ob,s.heap.get? a=some ob/\ob.dict=none:=by
 cases x with
 | str z =>
   obtain⟨t,rfl⟩:=r;cases(show T="str" from ty)
   exact⟨typeIs_str s z t,fun _ e=>nomatch e⟩
 | int i =>
   obtain⟨t,rfl⟩:=r;cases(show T="int" from ty)
   exact⟨typeIs_int s i t,fun _ e=>nomatch e⟩
 | ref p =>
   cases r;rcases ty with⟨rfl,xs,hq⟩|⟨rfl,o,hk,hc,hd⟩|⟨rfl,hk⟩|⟨rfl,S,n,hk⟩
   ·obtain⟨its,_,pl,_⟩:=I.list hq;refine⟨pl.isList.typeIs,fun a e=>?_⟩
    cases e;obtain⟨o,n,e,c,hd,_⟩:=pl;exact⟨o,e,hd⟩
   ·refine⟨⟨o,I.Lw p o hk,hc⟩,fun a e=>?_⟩
    cases e;exact⟨o,I.Lw _ o hk,hd⟩
   ·have z:∃ o,s.heap.get? p=some o/\o.ExactDict:=by
     rcases hk with⟨kvs,hk⟩|⟨kvs,hk⟩
     ·obtain⟨_,_,_,_,o,_,_,e,ex,_⟩:=I.hok p _ hk;exact⟨o,e,ex⟩
     ·obtain⟨_,_,_,_,o,_,_,e,ex,_⟩:=I.hok p _ hk;exact⟨o,e,ex⟩
    obtain⟨o,e,ex⟩:=z;refine⟨⟨o,e,ex.1⟩,fun a e2=>?_⟩
    cases e2;exact⟨o,e,ex.2.1⟩
   ·obtain⟨o,_,_,_,e,ex,_⟩:=I.hok p _ hk;refine⟨⟨o,e,ex.1⟩,fun a e2=>?_⟩
    cases e2;exact⟨o,e,ex.2.1⟩
 | _=>exact False.elim ty
def P7(K:bY)(T:String)(r:V->List V->Hp->VK->Prop)(to:TE):TE:=fun σ H Q=>to σ H fun x H1=>P6 K T x H1/\r x [] H1 Q
def P8(K:bY)(T:String)(r:V->List V->Hp->VK->Prop)(to:TE)(t:TA):TE:=fun σ H Q=>to σ H fun x H1=>P6 K T x H1/\t σ H1 fun xs H2=>r x xs H2 Q
variable {o e:Expr}{es:List Expr}{to:TE}{t:TA}{name:Str}{apos cpos:Pos}{T id:String}{r:V->List V->Hp->VK->Prop}
theorem E5(pa:PlainAttrs T)(slot:Slot T name id)(hty:typeOf (.builtin id)=pure (.type "method_descriptor"))(hm:P5 X id r)(ho:PE X o to)
 (hbase:attributeBase o name X.env (eval o X.env)=eval o X.env:=by rfl) (hline:(apos.endLine==cpos.line)=true:=by rfl):PE X (.Call (.Attribute o name apos) [] [] cpos) (P7 X.K T r to):=by
 intro pq s σ H Q I h;refine wpAny_Call_method0_late hbase hline (fh (ho pq s σ H _ I h) fun v s1 ⟨x,H1,I1,r1,ty,q1⟩=>?_)
 obtain⟨h1,h2⟩:=E4 I1 r1 ty;exact⟨T,id,pa,slot,hty,h1,h2,Calls.callWith_builtin rfl (PySem.evalArgs_none (hm pq s1 σ H1 x [] v [] Q I1 r1 .nil q1))⟩
theorem tW(pa:PlainAttrs T)(slot:Slot T name id)(hty:typeOf (.builtin id)=pure (.type "method_descriptor"))(hm:P5 X id r)(ho:PE X o to)(ha:PA X (e::es) t)
 (hbase:attributeBase o name X.env (eval o X.env)=eval o X.env:=by rfl)
 (hfew:((backTo cpos (starEach (e::es) X.env)).all (fun x=>!x.1)&&(backToKw cpos (keywordEach [] X.env)).all (fun x=>x.1.isSome)
  && decide ((e::es).length+([]:List Keyword).length+(if([]:List Keyword).isEmpty then 0 else 1)<30))=true:=by rfl)
 (hline:(apos.endLine==cpos.line)=true:=by rfl) (hs:starEach (e::es) X.env=(false,eval e X.env)::starEach es X.env:=by rfl) (hplain:(backTo cpos (starEach es X.env)).any (·.1)=false:=by rfl) :
 PE X (.Call (.Attribute o name apos) (e::es) [] cpos) (P8 X.K T r to t):=by
 intro pq s σ H Q I h;refine wpAny_Call_method_late hbase hfew hline rfl (fh (ho pq s σ H _ I h) fun v s1 ⟨x,H1,I1,r1,ty,q1⟩=>?_)
 obtain⟨h1,h2⟩:=E4 I1 r1 ty;refine⟨T,id,pa,slot,hty,h1,h2,?_⟩;have hA:=ha cpos pq s1 σ H1 _ I1 q1;rw[hs]at hA ⊢;refine Calls.callWith_builtin (by show(false || (backTo cpos (starEach es X.env)).any (·.1))=false;rw[hplain]<;>rfl) (Calls.evalArgs_plain ?_)
 exact fh hA fun us s2 ⟨vs,H2,I2,r2,q2⟩=>hm pq s2 σ H2 x vs v us Q I2 r1 r2 q2
end
def YH(X:Cx)(id:String)(r:V->List V->Hp->VK->Prop):Prop :=
 ∀(pq:br) (s:Shared) (σ:St) (H:Hp) (x:V) (xs:List V) (v:Value) (us:List Value) (Q:VK),Inv X pq σ H s->RelV x v->Vals xs us->r x xs H Q->
  wpAny (model X.prog X.w) X.A (call (.builtin id) (v::us)) (EP X pq σ Q) X.xe s
theorem Vals.one:∀{x:V} {us:List Value},Vals [x] us->∃ u,us=[u]/\RelV x u
 | _,_,.cons r .nil=>⟨_,rfl,r⟩
theorem Vals.rep{xs:List V}{us:List Value}(h:Vals xs us):∀ k:Nat,Vals (List.replicate k xs).flatten (List.replicate k us).flatten
 | 0=>.nil
 | k+1=>by
   rw[List.replicate_succ,List.replicate_succ,List.flatten_cons,List.flatten_cons];exact Vals.append h (Vals.rep h k)
theorem foldl_rep(its:List Value):∀(k:Nat) (acc:List Value),
 List.foldl (fun x1 x2=>x1++x2) acc.toArray (List.replicate k its.toArray)=(acc++(List.replicate k its).flatten).toArray
 | 0,acc=>by simp
 | k+1,acc=>by
   have e:acc.toArray++its.toArray=(acc++its).toArray:=by simp
   have e2:(acc++its)++(List.replicate k its).flatten=acc++(List.replicate (k+1) its).flatten:=by
    rw[List.replicate_succ,List.flatten_cons,List.append_assoc]
   rw[<-e2,<-foldl_rep its k (acc++its),<-e,List.replicate_succ,List.foldl_cons]
section
variable {X:Cx}{pq:br}{σ:St}{H:Hp}{s:Shared}{l b:Addr}{xs ys zs:List V}
theorem Inv.P9{its its' : List Value}{n:Nat}{f:Array Value->Array Value}{t' : Nat}(I:Inv X pq σ H s)(hH:H l=some (.lst xs))
 (e:s.heap.get? l=some { cls:=.type "list",data:=.seq its.toArray n}) (hf:f its.toArray=its'.toArray) (hv:Vals ys its') (hz:ys.length<=sizeLine) :
 Inv X pq σ (upd H l (.lst ys)) { s with heap:=s.heap.update l (Obj.mapSeq f),toks:=t'}:=by
 have q:=PySem.IsL.update e f;rw[hf]at q;refine I.write (x:=l) (e:=l) (by rw[hH];exact trivial) (.inl rfl) (fun b' u hb hu=>(Heap.get?_update_other s.heap (Obj.mapSeq f) (Ne.symm hb)).trans hu) ⟨_,q⟩ ?_
 exact⟨hz,its',_,hv,q⟩
theorem Inv.Qc{its:List Value}{t' : Nat}(I:Inv X pq σ H s)(hv:Vals ys its)(hz:ys.length<=sizeLine):
 Inv X pq σ (upd H s.heap.objs.size (.lst ys)) { s with heap:=s.heap.push { cls:=.type "list",data:=.seq its.toArray},toks:=t'} :=
 I.laid (fun _ _ q=>Heap.get?_push_of_some _ q) (Nat.le_refl _) ⟨hz,its,0,hv,Heap.get?_push_size _ rfl⟩
theorem Inv.fresh(I:Inv X pq σ H s):H s.heap.objs.size=none:=I.hok.fresh (Nat.le_refl _)
theorem Inv.Mr(I:Inv X pq σ H s)(hH:H l=some (.lst xs)):xs.length<=sizeLine/\∃(its:List Value) (n:Nat),Vals xs its/\xs.length=its.length/\s.heap.get? l=some { cls:=.type "list",data:=.seq its.toArray n}:=by
 obtain⟨z,its,n,r,e⟩:=I.hok l _ hH;exact⟨z,its,n,r,r.length,e⟩
theorem E6{n:Nat}(h:n<=sizeLine):Builtin.List.listTooLong n=false:=by
 unfold Builtin.List.listTooLong;exact ia (by lia)
end
section
variable {X:Cx}
def Ia:V->List V->Hp->VK->Prop:=fun x vs H Q=>∃ l xs y,x = .ref l/\vs=[y]/\H l=some (.lst xs)/\xs.length<sizeLine/\Q .iC (upd H l (.lst (xs++[y])))
theorem dO:YH X "list.append" Ia:=by
 intro pq s σ H x vs v us Q I rx rv h;obtain⟨l,xs,y,rfl,rfl,hH,hz,q⟩:=h;cases rx;obtain⟨u,rfl,ru⟩:=rv.one;obtain⟨z,its,n,r,hl,e⟩:=I.Mr hH;refine call_meets F.slot_list_append ⟨_,e,rfl⟩ F.entry_list_append (F.args_list_append_2 _ _) (PySem.list_append l its.toArray n u (by rw[List.size_toArray];lia)) ⟨e,?_⟩
 refine⟨.iC,_,I.P9 (its':=its++[u]) hH e (by simp) (r.append (.cons ru .nil)) ?_,rfl,q⟩
 rw[List.length_append,List.length_singleton]
 lia
def Qd:R2:=fun x y H Q=>∃ l k xs,x = .ref l/\y = .int k/\H l=some (.lst xs)/\-(2^63)<=k/\k<2^63/\xs.length*k.toNat<=sizeLine/\
 ∀ p,H p=none->Q (.ref p) (upd H p (.lst (List.replicate k.toNat xs).flatten))
theorem len_rep{α:Type}(xs:List α)(k:Nat):(List.replicate k xs).flatten.length=k*xs.length:=by
 induction k with
 | zero=>simp
 | succ k ih=>rw[List.replicate_succ,List.flatten_cons,List.length_append,ih,Nat.succ_mul,Nat.add_comm]
theorem yd:mO X (binaryOp .Mult) Qd:=by
 intro pq s σ H x y v u Q I rx ry h;obtain⟨l,k,xs,rfl,rfl,hH,h1,h2,hz,q⟩:=h;cases rx;obtain⟨t,rfl⟩:=ry;obtain⟨z,its,n,r,hl,e⟩:=I.Mr hH;have hlen:its.toArray.size*k.toNat<=sizeLine:=by rw[List.size_toArray,<-hl];exact hz
 have Qe : ¬ its.toArray.size*k.toNat > (2^63-1)/8:=by
  have:(sizeLine:Nat)<=(2^63-1)/8:=by decide
  lia
 have hfit : ¬(!Builtin.List.listFitsIndex k)=true:=by
  rw[fitsIndex_both h1 h2];exact Bool.false_ne_true
 have Ms : ¬ Builtin.List.listTooLong (its.toArray.size*k.toNat)=true:=by
  rw[E6 hlen];exact Bool.false_ne_true
 have hnew:List.foldl (fun x1 x2=>x1++x2) #[] (List.replicate (if its.toArray.isEmpty=true then 0 else k.toNat) its.toArray)=(List.replicate k.toNat its).flatten.toArray:=by
  have f0:∀ m:Nat,List.foldl (fun x1 x2=>x1++x2) #[] (List.replicate m its.toArray)=(List.replicate m its).flatten.toArray:=fun m=>by
   have:=foldl_rep its m [];rw[List.nil_append]at this;exact this
  rw[f0];cases its with
  | nil=>simp
  | cons a r'=>rw[if_neg (by simp)]
 refine wpAny_binaryOp_repeat_ref (T:="list") (U:="int") (by decide) ⟨_,e,rfl⟩ (fun s'=>typeIs_int s' k t) noFill_list_mul F.fills_int_mul F.slot_int_rmul repeat_list F.slot_int_index.lookup
  (call_meets F.slot_int_rmul (typeIs_int s k t) F.entry_int_rmul (F.args_int_rmul_2 _ _) (int___rmul___int_list k t l its.toArray n)
   ⟨e,rfl,⟨_,e,rfl⟩,call_meets F.slot_list_mul ⟨_,e,rfl⟩ F.entry_list_mul (F.args_list_mul_2 _ _) (AutoListH.list___mul___list_int_3 l its.toArray n k t hfit Qe Ms) ⟨e,?_⟩⟩)
 rw[hnew];exact⟨.ref _,_,I.Qc (t':=s.toks) (r.rep k.toNat) (by rw[len_rep,Nat.mul_comm];exact hz),rfl,q _ I.fresh⟩
end
end L2
namespace Att
open PySem PySem.W PySem.Calls PyProof.Rows
theorem sQ{P:Params}{h:Heap}:∀(ns:List Int) (vs:List Value),WellAll P h vs (ns.map WData.int)->IntsAre vs ns:=by
 intro ns
 induction ns with
 | nil =>
   intro vs w;rw[List.map_nil]at w;cases w;exact .nil
 | cons n ns ih =>
   intro vs w;rw[List.map_cons]at w;cases w with
   | cons a b =>
     cases a;exact .cons _ _ (ih _ b)
theorem Ds{l:OpenLaw}{n:Nat}(hn:l.most=some n){P:Params}{h:Heap}{args:List WData}{vals:List Value}
 (hpre:l.row.toRowW.claim.pre args=true) (Qf:WellAll P h vals args) :
 ∃ a vs ns,vals=[Value.ref a]/\args=[WData.list (ns.map WData.int)]/\h.get? a=some { cls:=.type "list",data:=.seq vs.toArray}/\IntsAre vs ns/\ns.length<=n:=by
 have hsh:WShape.hasAll [] args [.list .int]=true:=(pre_splitW hpre).1;have hc:l.pre.holds [] { args:=args}=true:=(pre_splitW hpre).2;obtain⟨d,r,rfl,h1,h2⟩:=hasAllW_cons hsh;obtain rfl:=hasAllW_nil h2;obtain⟨xs,rfl,h3⟩:=hasW_list h1;obtain⟨ns,rfl⟩:=items_int h3;have hlen:ns.length<=n:=by
  unfold OpenLaw.pre at hc;have h4:(WTm.not (.lt (.lit (.int (n:Int))) (.len (.arg 0)))).holds [] { args:=[.list (ns.map .int)]}=true:=by
   have h4:=(holds_andW hc).1;rw[hn]at h4;exact h4
  have h5:=condW_of h4 (w_not (w_lt w_lit (w_len_list (w_arg rfl))));rw[List.length_map]at h5;refine Nat.le_of_not_lt fun q=>?_
  have q' : (n:Int)<((ns.length:Nat):Int):=by lia
  first
   | (rw[eG q']at h5;exact absurd h5 (by decide))
   | (simp at h5;lia)
 cases Qf with
 | cons w1 w2 =>
   cases w2;cases w1 with
   | list ho hall=>exact⟨_,_,ns,rfl,rfl,ho,sQ ns _ hall,hlen⟩
theorem Du(l:OpenLaw)(args:List WData):l.row.toRowW.claim.post args (.bool true) args=true :=
 postW_of (r:=l.row.toRowW) (X:=(true==true))
  (show WShape.has [] (.bool true) .bool=true by first | rfl | decide | simp[WShape.has,WShape.arms,WShape.armsAll])
  (show(WTm.eq .res (.lit (.bool true))).value [] { args:=args,res:=some (.bool true),after:=args}=some (.bool (true==true)) from w_eq_bool (w_res rfl) w_lit) rfl
theorem zu{l:OpenLaw}{n:Nat}{q:Program}{loose:List Str}{XP:(Str->Option Value)->Heap->Prop}{YP:World->Heap->Prop}{d:DefRec}
 (hn:l.most=some n) (Mt:d.params.defaults=[])
 (call:∀(w:World) (s₀ s₁:Shared) (mg mb:jY) (fa:Addr) (o:Obj) (pm cd doc:Value) (a:Addr) (vs:List Value) (ns:List Int),
  Ground q loose [] XP w s₀ mg mb s₁.heap->YP w s₁.heap->
  s₁.heap.get? fa=some o->o.data = .func (docDef d.name d.params d.body d.scope pm cd doc)->s₁.heap.CodeRec cd d.name->mg d.name=some (.ref fa)->
  s₁.heap.get? a=some { cls:=.type "list",data:=.seq vs.toArray}->IntsAre vs ns->ns.length<=n->s₁.gens = #[]->
  codeAny (model l.prog w) callerA (.call (.ref fa) ⟨[.ref a],[]⟩) (fun r s'=>r = .ok (.ret (.bool true))/\OldK s₁.heap s'.heap/\s'.os=s₁.os/\AllBare s'.gens) s₁) :
 WalkO q loose XP YP l.row.toRowW d [] (fun f vs=>PySem.call f vs):=by
 intro w s₀ s₁ mg mb G Y fa o pm cd doc dV kV ho hd hcd hD hmg hg args vals as hpre hlay hrd Qf hlo;obtain rfl:dV = .none:=Dflts.none hD Mt;obtain rfl:kV = .none:=Dflts.noKw hD;obtain⟨a,vs,ns,rfl,rfl,hobj,hints,hlen⟩:=Ds hn hpre Qf;refine enter_call (codeAny_mono (call w s₀ s₁ mg mb fa o pm cd doc a vs ns G Y ho (fd_plain hd) hcd hmg hobj hints hlen hg) fun r s' hq=>?_)
 obtain⟨rfl,h2,h3,h4⟩:=hq;exact⟨.inl ⟨.bool true,.bool true,[],rfl,fun _=>rfl,.bool true,Du l _,fun _=>⟨List.Pairwise.nil,fun _ hm=>(nomatch hm)⟩⟩,h2,h3,h4⟩
end Att
namespace L2
open PySem PySem.Spec PyProof.Rows
theorem wA:∀{vs:List Value} {ns:List Int},IntsAre vs ns->Vals (ns.map V.int) vs
 | _,_,.nil=>.nil
 | _,_,.cons n t h=>.cons ⟨t,rfl⟩ (wA h)
def KD(H:Hp):Prop:=∀ b,H b=none\/∃ o xs,H b=some (.EG o (.lst xs))
theorem E7{P:Program}{w:World}{K:bY}{mg mb:jY}{CX:EY}{k:Nat}{fa a:Addr}{fd:FuncData}{x:Str}{sp:Sp}{s₁:Shared}{vs:List Value}{ns:List Int}
 (KX:K.In s₁.heap) (hns:s₁.heap.Ns mainGlobals mg) (hb:s₁.heap.Ns builtinsNs mb) (Qg:∀ x:Str,x≠"__name__"->mb x=bootBuiltins x) (hlim:s₁.heap.NoLimit) (hbm:∃ bm ob,mg "__builtins__"=some (.ref bm)/\bm≠builtinsNs/\s₁.heap.get? bm=some ob/\ob.cls = .type "module"/\ob.dict=some builtinsNs/\ob.data = .plain) (hg:s₁.gens = #[])
 (ha:s₁.heap.get? a=some { cls:=.type "list",data:=.seq vs.toArray}) (hi:IntsAre vs ns) (hl:ns.length<=sizeLine) (hr:mC k callerA)
 (F:∀ base:Heap,K.In base->base.Ns mainGlobals mg->aL P w K mg base CX k fa fd [x] sp) (hbind:∀(s:Shared) (u:Value),BindsTo s fd ⟨[u],[]⟩ [(x,u)])
 (B8:∀ H:Hp,KD H->aW K H a (ns.map V.int)->sp [.ref a] H (fun v _=>v = .bl true) fun _ _ _=>False)
 (Qh:∀ H e s',CX [] H s₁ (fun _ _ _=>False) e s'->False) :
 codeAny (model P w) callerA (.call (.ref fa) ⟨[.ref a],[]⟩) (fun r s'=>r = .ok (.ret (.bool true))/\OldK s₁.heap s'.heap/\s'.os=s₁.os/\AllBare s'.gens) s₁:=by
 have rv:=wA hi;have Qi:=hi.length;have core:∀ H:Hp,KD H->aW K H a (ns.map V.int)->rj P w H s₁.heap->(∀ b,H b≠none->b=a)->(H a≠none->K.lookup a=none)->
  codeAny (model P w) callerA (.call (.ref fa) ⟨[.ref a],[]⟩) (fun r s'=>r = .ok (.ret (.bool true))/\OldK s₁.heap s'.heap/\s'.os=s₁.os/\AllBare s'.gens) s₁:=by
  intro H hO hS hok hA hK;have ye:∀{b:Addr} {o:Obj},s₁.heap.get? b=some o->H b=none->(xT s₁.heap H).get? b=some o:=fun e n=>EH e n
  have Mj:∀{b:Addr} {o:Obj} {es:Array DictEntry} {ep:Nat},s₁.heap.get? b=some o->o.data = .dict es ep->H b=none:=fun {b o es ep} e d=>by
   cases q:H b with
   | none=>rfl
   | some u =>
     have e' : b=a:=hA b (by rw[q];simp)
     subst e';rw[ha]at e;cases e;have d' : Data.seq vs.toArray _=Data.dict es ep:=d;cases d'
  have OD:∀{b:Addr} {m:jY},s₁.heap.Ns b m->(xT s₁.heap H).Ns b m:=fun {b m} ⟨o,es,ep,e,d,r⟩=>⟨o,es,ep,ye e (Mj e d),d,r⟩
  have WQ:K.In (xT s₁.heap H):=fun b o e=>ye (KX b o e) (by
   cases q:H b with
   | none=>rfl
   | some u =>
     have e' : b=a:=hA b (by rw[q];simp)
     subst e';rw[hK (by rw[q];simp)]at e;cases e)
  have hM:Mod K mg (xT s₁.heap H):=⟨WQ,OD hns,⟨mb,OD hb,Qg⟩,(let⟨mc,h1,h2⟩:=hlim;⟨mc,OD h1,h2⟩),(let⟨bm,ob,b1,b2,b3,b4,b5,b6⟩:=hbm;⟨bm,ob,b1,b2,ye b3 (by
   cases q:H bm with
   | none=>rfl
   | some u =>
     have e' : bm=a:=hA bm (by rw[q];simp)
     subst e';rw[ha]at b3;cases b3;cases b6),b4,b5,b6⟩)⟩
  have e0:HR P w K mg (xT s₁.heap H) callerA [] s₁ H:=⟨rfl,hM,fun b o e=>HB e,Nat.le_of_eq (Dj _ _),trivial,fun b hb=>absurd (show b∈([]:List Addr) from hb) (by simp),hok,.of_eq hg⟩
  refine codeAny_mono ((F _ WQ (OD hns)).run callerA [] s₁ H ⟨[.ref a],[]⟩ [.ref a] [.ref a] _ _ hr e0 (hbind s₁ (.ref a)) (.cons rfl .nil) (B8 H hO hS)) fun r s' h=>?_
  cases r with
  | error e=>exact(Qh H e s' h).elim
  | ok fl =>
    cases fl with
    | next=>exact False.elim h
    | brk=>exact False.elim h
    | cont=>exact False.elim h
    | ret u =>
      obtain⟨v,H',os,bare,un,Qj,r',q⟩:=h;have q' : v = .bl true:=q;subst q';obtain rfl:u=Value.bool true:=r';refine⟨rfl,OldK.of_keep fun b o e=>?_,os,bare⟩
      cases q:H b with
      | none=>exact un.keep b o e q (by intro z;exact absurd (show b∈([]:List Addr) from z) (by simp)) (by simp)
      | some u =>
        rcases hO b with z|⟨ob,xs,z⟩
        ·rw[q]at z;cases z
        ·have z2:=un.rm b ob _ z;obtain⟨e1,_⟩:=hok b _ z;obtain⟨e2,_⟩:=Qj b _ z2;rw[e]at e1;cases e1;exact e2
 cases hk:K.lookup a with
 | some o =>
   have e:=KX a o hk;rw[ha]at e;cases e;refine core (fun _=>none) (fun _=>.inl rfl) (.inr ⟨_,vs.toArray,_,hk,rfl,rfl,rfl,by rw[List.size_toArray,Qi];exact hl,by simpa using rv⟩) (fun b u z=>by have z' : (none:Option HO)=some u:=z;cases z') (fun b z=>absurd rfl z) fun z=>absurd rfl z
 | none =>
   refine core (fun b=>if b=a then some (.EG { cls:=.type "list",data:=.seq vs.toArray} (.lst (ns.map V.int))) else none) (fun b=>?_) (.inl (.inr ⟨{ cls:=.type "list",data:=.seq vs.toArray},if_pos rfl⟩)) (fun b u z=>?_) (fun b z=>?_) fun _=>hk
   ·by_cases hb:b=a
    ·exact .inr ⟨_,_,if_pos hb⟩
    ·exact .inl (if_neg hb)
   ·by_cases hb:b=a
    ·have z':=(if_pos hb).symm.trans z;cases z';subst hb;exact⟨ha,by rw[List.length_map];exact hl,vs,_,rv,ha⟩
    ·have z':=(if_neg hb).symm.trans z;cases z'
   ·by_cases hb:b=a
    ·exact hb
    ·exact absurd (if_neg hb) z
theorem Ib{l:PySem.W.OpenLaw}{n k:Nat}{q:Program}{loose:List Str}{XP:(Str->Option Value)->Heap->Prop}{YP:World->Heap->Prop}{d:DefRec}{K:Params->bY}{CX:World->EY}{sp:World->Sp}{x:Str}
 (hn:l.most=some n) (hn2:n<=sizeLine) (Mt:d.params.defaults=[]) (hr:mC k callerA)
 (hY:∀(w:World) (h:Heap),YP w h->(K w.params).In h)
 (F:∀(w:World) (mg:jY) (fa:Addr) (h:Heap),(K w.params).In h->h.Ns mainGlobals mg->mg d.name=some (.ref fa)->
  ∃ fd:FuncData,(∀(s:Shared) (u:Value),BindsTo s fd ⟨[u],[]⟩ [(x,u)])/\
    ∀ base:Heap,(K w.params).In base->base.Ns mainGlobals mg->aL l.prog w (K w.params) mg base (CX w) k fa fd [x] (sp w))
 (B8:∀(w:World) (H:Hp) (a:Addr) (ns:List Int),ns.length<=n->KD H->aW (K w.params) H a (ns.map V.int)->sp w [.ref a] H (fun v _=>v = .bl true) fun _ _ _=>False)
 (Qh:∀(w:World) (H:Hp) (s:Shared) (e:Value) (s' : Shared),CX w [] H s (fun _ _ _=>False) e s'->False) :
 PySem.W.WalkO q loose XP YP l.row.toRowW d [] (fun f vs=>PySem.call f vs):=by
 refine Att.zu hn Mt fun w s₀ s₁ mg mb fa o pm cd doc a vs ns G Y ho hd hcd hmg hobj hints hlen hg=>?_
 have KX:=hY w _ Y;obtain⟨fd,hb,hF⟩:=F w mg fa _ KX G.T.g hmg;exact E7 KX G.T.g G.T.b G.T.builtins G.T.nolimit G.T.bmain hg hobj hints (Nat.le_trans hlen hn2) hr hF hb (fun H hO hS=>B8 w H a ns hlen hO hS) fun H e s'=>Qh w H s₁ e s'
end L2
namespace L2
open PySem PySem.Spec PyProof.Rows
def aH(s:Stmt):Arguments:=match s with
 | .FunctionDef _ a _ _ _ _ _ _ _ _=>a
 | _=>{ posonlyargs:=[],args:=[],vararg:=none,kwonlyargs:=[],kw_defaults:=[],kwarg:=none,defaults:=[]}
def aF(s:Stmt):List Stmt:=match s with
 | .FunctionDef _ _ b _ _ _ _ _ _ _=>b
 | _=>[]
def ae(s:Stmt):Scope:=match s with
 | .FunctionDef _ _ _ _ _ _ sc _ _ _=>sc
 | _=>{ kind:=.function,names:=[],isGenerator:=false,isCoroutine:=false}
abbrev dh:EY:=fun _ _ _ _ _ _=>False
abbrev E0:XK:=fun _ _ _=>False
theorem bg{X:Cx}:Passes dh X E0:=fun _ _ _ _ _ _ _ h=>h.elim
structure iE(K:bY)(x qual:Str)(st:Stmt)(f:Addr)(fd:FuncData):Prop where
 ex:∃(oc:Value) (od:Option Addr) (kV doc pm:Value) (an:Option Addr) (cdv ct:Value) (osl:Array (Option Value)),
  fd=PySem.W.fnOf x qual (aH st) (aF st) (ae st) .none kV doc pm an cdv ct/\K.lookup f=some ⟨oc,od,.func fd,osl⟩/\PySem.W.codeIn K cdv qual=true
 kp:PySem.W.keepIn K (.ref f)=true
section
variable {P:Program}{w:World}{K:bY}{mg:jY}{base:Heap}
theorem iE.ok{x qual:Str}{st:Stmt}{f:Addr}{fd:FuncData}{N ps:List Str}{k:Nat}{sp:Sp}(F:iE K x qual st f fd)(S:aI N ps (ae st))(len:∀ vs H Q E,sp vs H Q E->vs.length=ps.length)
 (hbody:∀(cdv:Value) (A:Around) (outer:List Env) (s:Shared) (H:Hp) (vs:List V) (Q:VK) (E:XK),mC k (A.deeper (envOfC qual (ae st) s.heap.objs.size f cdv))->sp vs H Q E->
  ∃ t,AW (zp dh P w K mg base N qual (ae st) f cdv A outer s H E).EB (aF st) t/\t { nx:=fun _ H'=>Q .iC H',rt:=Q} (start N vs) H):aL P w K mg base dh (k+1) f fd ps sp:=by
 obtain⟨oc,od,kV,doc,pm,an,cdv,ct,osl,rfl,lk,hcd⟩:=F.ex;refine Jx lk hcd S len fun A outer s H vs Q E hr B8=>?_
 obtain⟨t,h,q⟩:=hbody cdv A outer s H vs Q E hr B8;exact⟨t,h.EB,q⟩
theorem iE.binds{x qual:Str}{st:Stmt}{f:Addr}{fd:FuncData}{ps:List Str}(F:iE K x qual st f fd)
 (h:∀(kV doc pm:Value) (an:Option Addr) (cdv ct:Value) (us:List Value),us.length=ps.length->bindArgs (PySem.W.fnOf x qual (aH st) (aF st) (ae st) .none kV doc pm an cdv ct) ⟨us,[]⟩=pure (ps.zip us)):Binds K fd ps []:=by
 obtain⟨oc,od,kV,doc,pm,an,cdv,ct,osl,rfl,lk,hcd⟩:=F.ex;exact .all (h kV doc pm an cdv ct)
theorem aU{x qual:Str}{st:Stmt}{f:Addr}{oc:Value}{od an:Option Addr}{osl:Array (Option Value)}{kV doc pm cdv ct:Value}(l:K.lookup f=some ⟨oc,od,.func (PySem.W.fnOf x qual (aH st) (aF st) (ae st) .none kV doc pm an cdv ct),osl⟩)
 (c:PySem.W.codeIn K cdv qual=true) (k:PySem.W.keepIn K (.ref f)=true):iE K x qual st f (PySem.W.fnOf x qual (aH st) (aF st) (ae st) .none kV doc pm an cdv ct):=⟨⟨oc,od,kV,doc,pm,an,cdv,ct,osl,rfl,l,c⟩,k⟩
end
theorem gD{n:Nat}(h:n<=1000):n<sizeLine:=Nat.lt_of_le_of_lt h (by decide)
section
variable {X:Cx}
theorem pv(i:Nat){x:Str}{pos:Pos}(hN:X.N[i]?=some x:=by rfl)(hv:Ou X.env.scope x:=by first | exact Or.inl rfl | exact Or.inr (Or.inl rfl) | exact Or.inr (Or.inr rfl))(hd:(x==("__debug__":Str))=false:=by decide)
 (hcd:(x==("__classdict__":Str))=false:=by decide):PE X (.Name x pos) (LW i):=Kl hN hv hd hcd
end
theorem iL{A B:Prop}(h:B):if false=true then A else B:=by
 rw[if_neg Bool.false_ne_true];exact h
theorem lu{A B:Prop}(h:A):if true=true then A else B:=by
 rw[if_pos rfl];exact h
theorem zy{c A B:Prop}[Decidable c](h1:c->A)(h2 : ¬ c->B):if c then A else B:=by
 by_cases h:c
 ·rw[if_pos h];exact h1 h
 ·rw[if_neg h];exact h2 h
theorem tX{c A B:Prop}[Decidable c](hc:c)(h:B):if(!decide c)=true then A else B:=by
 rw[eG hc];exact iL h
def au(H H' : Hp):Prop:=∀ b o,H b=some o->H' b=some o
theorem au.refl(H:Hp):au H H:=fun _ _ h=>h
theorem au.trans{H H1 H2:Hp}(a:au H H1)(b:au H1 H2):au H H2:=fun c o h=>b c o (a c o h)
theorem au.free{H H' : Hp}(e:au H H'){l:Addr}(h:H' l=Option.none):H l=Option.none:=by
 cases q:H l with
 | none=>rfl
 | some o =>
   rw[e l o q]at h;cases h
theorem au.seq{K:bY}{H H' : Hp}{a:Addr}{xs:List V}(e:au H H')(h:aW K H a xs):aW K H' a xs:=by
 rcases h with(h|⟨o,h⟩) | h
 ·exact .inl (.inl (e _ _ h))
 ·exact .inl (.inr ⟨o,e _ _ h⟩)
 ·exact .inr h
def bN(cells:List (Str×Addr)):List (Str×NameKind)->List (Str×Addr)->List (Str×Addr)
 | [],cs=>cs
 | (n,k)::r,cs=>bN cells r (if(k==NameKind.free)=true then(n,(cells.lookup n).getD 0)::cs else cs)
theorem tY{env:Env}{f:Str×NameKind->List (Str×Addr)->Sem (ForInStep (List (Str×Addr)))}
 (hf1:∀ n k cs c,(k==NameKind.free)=true->env.cells.lookup n=some c->f (n,k) cs=pure (.yield ((n,c)::cs)))
 (hf2:∀ n k cs,(k==NameKind.free)=false->f (n,k) cs=pure (.yield cs)) :
 ∀(names:List (Str×NameKind)) (cs:List (Str×Addr)),(∀ n k,(n,k)∈names->(k==NameKind.free)=true->∃ c,env.cells.lookup n=some c)->
  forIn names cs f=(pure (bN env.cells names cs):Sem (List (Str×Addr)))
 | [],cs,_=>by rw[List.forIn_nil];rfl
 | (n,k)::r,cs,h=>by
   have ih:=fun cs=>tY hf1 hf2 r cs fun m j hm=>h m j (vz _ hm)
   rw[List.forIn_cons];cases e:(k==NameKind.free) with
   | true =>
     obtain⟨c,hc⟩:=h n k List.mem_cons_self e;rw[hf1 n k cs c e hc,pure_bind];show forIn r ((n,c)::cs) f=_;rw[ih]
     conv=>rhs;unfold bN
     rw[if_pos e,hc];rfl
   | false =>
     rw[hf2 n k cs e,pure_bind];show forIn r cs f=_;rw[ih]
     conv=>rhs;unfold bN
     rw[if_neg (by rw[e];exact Bool.false_ne_true)]
theorem ly{scope:Scope}{env:Env}(h:∀ n k,(n,k)∈scope.names->(k==NameKind.free)=true->∃ c,env.cells.lookup n=some c):closureFor scope env=pure (bN env.cells scope.names []):=by
 simp only[closureFor];rw[tY (env:=env) ?_ ?_ scope.names [] h]
 ·rfl
 ·intro n k cs c e hc;show(if(k==NameKind.free)=true then _ else _)=_
  rw[if_pos e];unfold cellOf;rw[hc];rfl
 ·intro n k cs e;show(if(k==NameKind.free)=true then _ else _)=_
  rw[if_neg (by rw[e];exact Bool.false_ne_true)]
theorem fB{cells:List (Str×Addr)}{x:Str}{c:Addr}:∀{names:List (Str×NameKind)} {cs:List (Str×Addr)},(bN cells names cs).lookup x=some c->cs.lookup x=some c\/((x,NameKind.free)∈names/\(cells.lookup x).getD 0=c)
 | [],cs,h=>.inl h
 | (n,k)::r,cs,h=>by
   unfold bN at h;rcases fB h with q|⟨q1,q2⟩
   ·by_cases e:(k==NameKind.free)=true
    ·rw[if_pos e]at q
     by_cases hx:x=n
     ·subst hx;rw[List.lookup_cons_self]at q;have hk:k=NameKind.free:=eq_of_beq e;exact .inr ⟨by rw[hk];exact List.mem_cons_self,Option.some.inj q⟩
     ·have hb:(x==n)=false:=beq_eq_false_iff_ne.mpr hx;simp only[List.lookup_cons,hb]at q;exact .inl q
    ·rw[if_neg e]at q;exact .inl q
   ·exact .inr ⟨vz _ q1,q2⟩
theorem je{cells:List (Str×Addr)}{x:Str}:∀{names:List (Str×NameKind)} {cs:List (Str×Addr)},((x,NameKind.free)∈names\/∃ c,cs.lookup x=some c)->∃ c,(bN cells names cs).lookup x=some c
 | [],cs,h=>by
   rcases h with h|h
   ·cases h
   ·exact h
 | (n,k)::r,cs,h=>by
   unfold bN;apply je;rcases h with h|⟨c,h⟩
   ·rcases List.mem_cons.mp h with h|h
    ·cases h
     right
     rw[if_pos (by rfl)]
     exact⟨_,List.lookup_cons_self⟩
    ·exact .inl h
   ·right
    by_cases e:(k==NameKind.free)=true
    ·rw[if_pos e]
     by_cases hx:x=n
     ·subst hx;exact⟨_,List.lookup_cons_self⟩
     ·have hb:(x==n)=false:=beq_eq_false_iff_ne.mpr hx;exact⟨c,by simp only[List.lookup_cons,hb];exact h⟩
    ·rw[if_neg e];exact⟨c,h⟩
theorem fQ{env:Env}{x:Str}{k:NameKind}:∀{names:List (Str×NameKind)},
 (names.map fun(n,k)=>if(k==NameKind.free&&env.scope.kind == .function&&env.kindOf n==some .cell) then(n,NameKind.cell) else(n,k)).lookup x=some k->
  ∃ k0,names.lookup x=some k0/\(k=k0\/(k0 = .free/\k = .cell))
 | [],h=>by cases h
 | (n,j)::r,h=>by
   have ih:=@fQ env x k r
   replace h:List.lookup x ((if(j==NameKind.free&&env.scope.kind == .function&&env.kindOf n==some .cell)=true then(n,NameKind.cell) else(n,j))::_)=some k:=h
   cases hx:x==n with
   | true =>
     by_cases hc:(j==NameKind.free&&env.scope.kind == .function&&env.kindOf n==some .cell)=true
     ·rw[if_pos hc]at h;simp only[List.lookup_cons,hx]at h ⊢;have hj:j=NameKind.free:=by
       rw[Bool.and_eq_true,Bool.and_eq_true]at hc;exact eq_of_beq hc.1.1
      exact⟨j,rfl,.inr ⟨hj,(Option.some.inj h).symm⟩⟩
     ·rw[if_neg hc]at h;simp only[List.lookup_cons,hx]at h ⊢;exact⟨j,rfl,.inl (Option.some.inj h).symm⟩
   | false =>
     by_cases hc:(j==NameKind.free&&env.scope.kind == .function&&env.kindOf n==some .cell)=true
     ·rw[if_pos hc]at h;simp only[List.lookup_cons,hx]at h ⊢;exact ih h
     ·rw[if_neg hc]at h;simp only[List.lookup_cons,hx]at h ⊢;exact ih h
theorem lz{env:Env}{x:Str}:∀{names:List (Str×NameKind)},names.lookup x=some .free->
 (names.map fun(n,k)=>if(k==NameKind.free&&env.scope.kind == .function&&env.kindOf n==some .cell) then(n,NameKind.cell) else(n,k)).lookup x=some .cell\/
 (names.map fun(n,k)=>if(k==NameKind.free&&env.scope.kind == .function&&env.kindOf n==some .cell) then(n,NameKind.cell) else(n,k)).lookup x=some .free
 | [],h=>by cases h
 | (n,j)::r,h=>by
   have ih:=@lz env x r;show List.lookup x ((if(j==NameKind.free&&env.scope.kind == .function&&env.kindOf n==some .cell)=true then(n,NameKind.cell) else(n,j))::_)=_\/
    List.lookup x ((if(j==NameKind.free&&env.scope.kind == .function&&env.kindOf n==some .cell)=true then(n,NameKind.cell) else(n,j))::_)=_
   cases hx:x==n with
   | true =>
     simp only[List.lookup_cons,hx]at h;cases h
     by_cases hc:(NameKind.free==NameKind.free&&env.scope.kind == .function&&env.kindOf n==some .cell)=true
     ·rw[if_pos hc];simp only[List.lookup_cons,hx];exact .inl trivial
     ·rw[if_neg hc];simp only[List.lookup_cons,hx];exact .inr trivial
   | false =>
     simp only[List.lookup_cons,hx]at h
     by_cases hc:(j==NameKind.free&&env.scope.kind == .function&&env.kindOf n==some .cell)=true
     ·rw[if_pos hc];simp only[List.lookup_cons,hx];exact ih h
     ·rw[if_neg hc];simp only[List.lookup_cons,hx];exact ih h
def aZ(X:Cx)(N:List Str)(scope:Scope)(xe:iH)(C:Addr)(s:Shared)(H:Hp)(fp:List Addr):Cx where
 prog:=X.prog
 w:=X.w
 K:=X.K
 mg:=X.mg
 base:=X.base
 A:=X.A
 N:=N
 s₀:=s
 H₀:=H
 env:=compEnvC scope (bN X.env.cells scope.names []) C X.env
 outer:=X.stack
 stack:=X.stack
 ex:=fp
 fn:=fun _=>false
 calm:=X.calm
 pn:=[]
 xe:=xe
def dD(σ:St)(js:List Nat):St:=js.map fun j=>(σ[j]?).getD none
structure ie(X:Cx)(scope:Scope)(own fq:List Str)(js:List Nat):Prop where
 kind:scope.kind = .function
 Bf:∀ y∈scope.names,y.2≠.cell
 names:∀ y∈scope.names,y.2 = .local->scope.names.lookup y.1=some .local
 free:∀ y∈scope.names,y.2 = .free->X.env.scope.names.lookup y.1=some .cell\/X.env.scope.names.lookup y.1=some .free
 at_:js.map (fun j=>X.N[j]?)=fq.map some
 fr:∀ x∈fq,scope.names.lookup x=some .free
theorem tZ{σ:St}{js:List Nat}{i:Nat}{v:V}(h:(dD σ js)[i]?=some (some v)):∃ j,js[i]?=some j/\σ[j]?=some (some v):=by
 unfold dD at h;rw[List.getElem?_map]at h;cases e:js[i]? with
 | none=>rw[e]at h;cases h
 | some j =>
   rw[e]at h;have h' : (σ[j]?).getD none=some v:=Option.some.inj h;refine⟨j,rfl,?_⟩;cases q:σ[j]? with
   | none=>rw[q]at h';cases h'
   | some o=>rw[q]at h';rw[show o=some v from h']
section
variable {X:Cx}
theorem gE{pq:br}{σ:St}{H:Hp}{s:Shared}{scope:Scope}{own fq:List Str}{js:List Nat}(I:Inv X pq σ H s)(T:ie X scope own fq js):
 ∀ n k,(n,k)∈scope.names->(k==NameKind.free)=true->∃ c,X.env.cells.lookup n=some c:=fun n k hm e=>by
 have hk:k=NameKind.free:=eq_of_beq e;exact I.ok.has n (T.free (n,k) hm hk)
theorem zz{pq:br}{σ:St}{H:Hp}{s:Shared}{scope:Scope}{own fq:List Str}{js:List Nat}{fp:List Addr}{D C:Addr}{h1:Heap}{t1:Nat}{m:jY}{xe:iH}
 (I:Inv X pq σ H s) (T:ie X scope own fq js) (hf:∀ b∈fp,jA X pq H b) (hfo:∀ b∈fp,∃ o,s.heap.get? b=some o) (hD:s.heap.objs.size<=D) (hC:s.heap.objs.size<=C) (hDC:D≠C)
 (old:∀ b o,s.heap.get? b=some o->h1.get? b=some o) (hl:h1.get? D=some { cls:=.type "list",data:=.seq ([]:List Value).toArray 0}) (hn:h1.Ns C m) :
 Inv (aZ X (own++fq) scope xe C s H fp) [] (List.replicate own.length none++dD σ js) (upd H D (.lst [])) { s with heap:=h1,toks:=t1}:=by
 have cells:∀ x c,(bN X.env.cells scope.names []).lookup x=some c->X.env.cells.lookup x=some c:=fun x c h=>by
  rcases fB h with q|⟨q1,q2⟩
  ·cases q
  ·obtain⟨c',hc'⟩:=gE I T x .free q1 rfl;rw[hc']at q2;rw[hc'];exact congrArg some q2
 have Cd:∀ b o,s.heap.get? b=some o->b<s.heap.objs.size:=fun b o e=>Heap.lt_size e
 have hcl:∀ x c,X.env.cells.lookup x=some c->c<s.heap.objs.size:=fun x c e=>by
  obtain⟨v,q⟩:=I.cell x c e;exact q.lt
 have KG:∀ b∈frs X.stack,b<s.heap.objs.size:=fun b hb=>by
  obtain⟨_,o,ho,_⟩:=I.stack.mem hb;exact Heap.lt_size ho
 have Qk:H D=none:=I.hok.fresh hD;have Bg:H C=none:=I.hok.fresh hC;refine⟨⟨I.ok.mod,T.kind,I.ok.glob,I.ok.blt,hC,fun x y c a b=>I.ok.inj x y c (cells x c a) (cells y c b),fun x hx=>?_,fun x c z _=>(nomatch z),I.ok.hd,I.ok.frames,.inl rfl,fun b hb=>⟨?_,fun x c e z=>?_⟩,
  fun b o e=>I.bs b o e,Nat.le_trans I.ok.HC I.sz,fun b o e hb=>?_,fun b hb z=>?_,I.stack,I.pP⟩,
  rfl,I.bare,Un.laid old hD Qk,⟨m,hn,fun i x v e1 e2 e3=>?_⟩,fun x c e=>?_,?_,fun x c e=>?_,fun p hp=>absurd (show p∈([]:br) from hp) (by simp),?_,?_⟩
 ·
  have hx:(relabel scope X.env).names.lookup x=some .cell\/(relabel scope X.env).names.lookup x=some .free:=hx;have Ql:(x,NameKind.free)∈scope.names:=by
   rcases hx with hx|hx
   ·obtain⟨k0,q,r⟩:=fQ hx;have hm:=PySem.mem_of_lookup q;rcases r with r|⟨r,_⟩
    ·exact absurd r.symm (T.Bf _ hm)
    ·rw[r]at hm;exact hm
   ·obtain⟨k0,q,r⟩:=fQ hx;have hm:=PySem.mem_of_lookup q;rcases r with r|⟨_,r⟩
    ·rw[<-r]at hm;exact hm
    ·cases r
  exact je (.inl Ql)
 ·
  obtain⟨o,ho⟩:=hfo b hb;exact Nat.ne_of_lt (Nat.lt_of_lt_of_le (Cd b o ho) hC)
 ·exact(hf b hb).2.2.2.2.1 x c (cells x c e) z
 ·
  obtain⟨_,_,_,f3,_,_⟩:=hf b hb;rcases f3 with z|z
  ·exact I.ok.AV b o e z
  ·exact absurd (Nat.lt_of_lt_of_le (Heap.lt_size (I.ok.bs b o e).1) z) (Nat.lt_irrefl _)
 ·
  obtain⟨_,f1,f2,_⟩:=hf b hb;rcases List.mem_cons.mp (I.lg b z) with q|q
  ·exact f1 q
  ·exact f2 q
 ·
  by_cases hi:i<own.length
  ·rw[List.getElem?_append_left (by simpa using hi),List.getElem?_replicate,if_pos hi]at e2
   cases e2
  ·rw[List.getElem?_append_right (by simpa using hi),List.length_replicate]at e2
   replace e1:(own++fq)[i]?=some x:=e1
   rw[List.getElem?_append_right (by lia)]at e1
   obtain⟨j,hj,hσ⟩:=tZ e2;have hN:X.N[j]?=some x:=by
    have q:=congrArg (fun l=>l[i-own.length]?) T.at_
    simp only[List.getElem?_map,hj,e1,Option.map_some]at q;exact Option.some.inj q
   have hfx:=T.fr x (nJ e1);have hm:=PySem.mem_of_lookup hfx;have hk:=T.free (x,.free) hm rfl;obtain⟨m0,hn0,Ie⟩:=I.loc;obtain⟨u,r,l⟩:=Ie j x v hN hσ (by rcases hk with k|k;exact .inr (.inl k);exact .inr (.inr k))
   refine⟨u,r,.inr ⟨lz hfx,?_⟩⟩;rcases l with⟨zA,_⟩|⟨_,c,hc,hcell⟩
   ·have zA:X.env.scope.names.lookup x=some .local:=zA;rcases hk with k|k<;>(rw[zA]at k;cases k)
   ·obtain⟨c',hc'⟩:=je (cells:=X.env.cells) (names:=scope.names) (cs:=[]) (x:=x) (.inl hm);have q:=cells x c' hc';rw[hc]at q;cases q;exact⟨c,hc',hcell.keeps old⟩
 ·
  obtain⟨v,q⟩:=I.cell x c (cells x c e);exact⟨v,q.keeps old⟩
 ·
  show upd H D (.lst []) C=none;rw[aT (Ne.symm hDC)];exact Bg
 ·show upd H D (.lst []) c=none;have e:=cells x c e;rw[aT (Nat.ne_of_lt (Nat.lt_of_lt_of_le (hcl x c e) hD))];exact I.j4 x c e
 ·exact I.hok.laid old hD ⟨Nat.zero_le _,[],0,.nil,hl⟩
 ·show _=(own++fq).length;have q:=congrArg List.length T.at_;rw[List.length_map,List.length_map]at q;rw[List.length_append,List.length_append,List.length_replicate];unfold dD;rw[List.length_map,q]
theorem jN{pq:br}{σ σ' : St}{H H' : Hp}{s s' : Shared}{scope:Scope}{N:List Str}{fp:List Addr}{C:Addr}{h' : Heap}{xe:iH}
 (I:Inv X pq σ H s) (hf:∀ b∈fp,jA X pq H b) (hC:s.heap.objs.size<=C) (J:Inv (aZ X N scope xe C s H fp) [] σ' H' s') (sb:Heap.SameBut C s'.heap h'):Inv X pq σ H' { s' with heap:=h'}:=by
 have Bg:H' C=none:=J.free;refine I.BY (ch:=fp) J.os ?_ ?_ J.bare (fun b hb=>?_)
 ·have u:Un (frs X.stack) fp H H' s.heap s'.heap:=J.base;have ne:∀ b o,s.heap.get? b=some o->b≠C:=fun b o e=>Nat.ne_of_lt (Nat.lt_of_lt_of_le (Heap.lt_size e) hC)
  refine⟨fun b o e n hb hx=>(sb.2 b (ne b o e)).trans (u.keep b o e n hb hx),fun b o e n hb hx=>?_,u.free,fun b o e hx=>?_,u.tups,u.rm,u.sO⟩
  ·obtain⟨sl,q⟩:=u.slot b o e n hb hx;exact⟨sl,(sb.2 b (ne b o e)).trans q⟩
  ·obtain⟨o',q⟩:=u.there b o e hx;exact⟨o',(sb.2 b (ne b o e)).trans q⟩
 ·intro b ob e;refine(J.hok b ob e).stay (fun c w' hc q=>(sb.2 c ?_).trans q) (fun _ q=>q) fun _ _ q=>q
  rintro rfl;rcases hc with rfl|hc
  ·rw[Bg]at e;cases e
  ·rw[Bg]at hc;cases hc
 ·obtain⟨_,f1,_,f3,f4,f5⟩:=hf b hb;exact⟨f3,f1,f4,f5⟩
end
section
variable {prog:Program}{w:World}{A:Around}{R:Result->Shared->Prop}{s:Shared}
abbrev Ce(ifs:List Expr)(env:Env):Sem Bool:=forIn ifs true fun c r=>if r=true then do let ok←isTrue c env (eval c env);pure (ForInStep.yield ok) else pure (ForInStep.yield r)
theorem lA{elt target iter:Expr}{ifs:List Expr}{scope:Scope}{pos:Pos}{it acc:Value}{env:Env}(I:Nat->Shared->Prop)
 (turn:∀ n s,I n s->wpAny (model prog w) A (pyNext it) (fun r s₁=>match r with
  | none=>R (.ok .next) s₁
  | some v=>wpAny (model prog w) A (letOwnedTupleGo target it v) (fun _ s₀=>wpAny (model prog w) A (assign target env v) (fun _ s₂ =>
   wpAny (model prog w) A (Ce ifs env) (fun ok s₃ =>
    if ok=true then wpAny (model prog w) A (eval elt env) (fun x s₄ =>
     wpAny (model prog w) A (call (.builtin "list.append") [acc,x]) (fun _ s₅=>∃ m,m<n/\I m s₅) (notedBy (model prog w) A env fun e s'=>R (.error e) s') s₄) (notedBy (model prog w) A env fun e s'=>R (.error e) s') s₃
    else ∃ m,m<n/\I m s₃) (notedBy (model prog w) A env fun e s'=>R (.error e) s') s₂) (notedBy (model prog w) A env fun e s'=>R (.error e) s') s₀) (notedBy (model prog w) A env fun e s'=>R (.error e) s') s₁) (notedBy (model prog w) A env fun e s'=>R (.error e) s') s)
 (n:Nat) (h:I n s) :
 codeAny (model prog w) A (.compLoop (.ListComp elt [⟨target,iter,ifs,0⟩] scope pos) 0 it acc env) R s:=by
 refine codeAny_loop rfl I (fun n s hI=>?_) n h
 show wpAny _ A ((compTurn (.ListComp elt [⟨target,iter,ifs,0⟩] scope pos) 0 it acc env).onRaise (fun x=>do noteFrame x env;theTreesLotGoes x)) _ _ s
 refine wpAny_noted ?_;rw[compTurn_list];refine iX (wpAny_standAt (iX (wpAny_mono (turn n s hI) (fun r s₁ h₁=>?_) fun _ _ h'=>h')))
 cases r with
 | none=>exact wpAny_pure h₁
 | some v =>
   refine iX (wpAny_mono h₁ (fun _ s₀ h₀=>?_) fun _ _ h'=>h')
   refine iX (wpAny_mono h₀ (fun _ s₂ h₂=>iX (wpAny_mono h₂ (fun ok s₃ h₃=>?_) fun _ _ h'=>h')) fun _ _ h'=>h')
   cases ok with
   | false=>exact wpAny_pure ⟨rfl,h₃⟩
   | true =>
     exact iX (iX (wpAny_mono h₃ (fun x s₄ h₄=>iX (wpAny_mono h₄ (fun _ s₅ h₅=>wpAny_pure (wpAny_pure ⟨rfl,h₅⟩)) fun _ _ h'=>h')) fun _ _ h'=>h'))
end
def Ig(X:Cx)(ifs:List Expr)(t:TT):Prop :=
 ∀(pq:br) (s:Shared) (σ:St) (H:Hp) (Q:Bool->Hp->Prop),Inv X pq σ H s->t σ H Q->wpAny (model X.prog X.w) X.A (Ce ifs X.env) (TP X pq σ Q) X.xe s
def Mu:TT:=fun _ H Q=>Q true H
theorem d8{X:Cx}:Ig X [] Mu:=fun _ _ _ H _ I h=>wpAny_tests_nil ⟨H,I,h⟩
theorem eH{X:Cx}{c:Expr}{t:TT}(h:PT X c t):Ig X [c] t:=fun pq s σ H Q I q=>wpAny_tests_one (h pq s σ H Q I q)
def ig(J:It)(g:TG)(tt:TT)(te:TE)(n:Nat)(fr:St)(D:Addr)(Q:Hp->Prop)(H1:Hp):Prop :=
 ∃ W:Nat->Nat->List V->Hp->Prop,(∃ m,W 0 m [] H1)/\∀ i m acc H,W i m acc H->H D=some (.lst acc)/\
   ((J.stop i H/\Q H)\/(J.go i H/\acc.length<sizeLine/\∃ N:List V->Hp->Prop,(∀ acc' H',N acc' H'->∃ m',m'<m/\W (i+1) m' acc' H')/\
     ∀ x H',J.HG i H x H'->g x (List.replicate n none++fr) H' fun σ2 H2=>σ2.drop n=fr/\tt σ2 H2 fun b H3 =>
     if b=true then te σ2 H3 fun v H4=>H4 D=some (.lst acc)/\N (acc++[v]) (upd H4 D (.lst (acc++[v])))
     else N acc H3))
def E8(wi:TI)(g:TG)(tt:TT)(te:TE)(n:Nat)(js:List Nat):TE:=fun σ H Q=>wi σ H fun J H1=>∀ D,H1 D=none->ig J g tt te n (dD σ js) D (fun H2=>Q (.ref D) H2) (upd H1 D (.lst []))
structure Cf(A:Around)(cm:Bool)(P:Program)(w:World)(K:bY)(tg:Expr)(J:It)(fp:List Addr)(it:Addr)(tn:Nat->Heap->Prop):Prop where
 mem:it∈fp
 obj:∀ i h,tn i h->∀ b∈fp,∃ o,h.get? b=some o/\∀ v,o.data≠.cell v
 keep:∀ i h h',tn i h->(∀ b∈fp,∀ o,h.get? b=some o->h'.get? b=some o)->tn i h'
 item:∀(X:Cx),X.prog=P->X.w=w->X.K=K->X.A=A->X.calm=cm->∀(i:Nat) (pq:br) (s:Shared) (σ:St) (H:Hp) (E:iH),Inv X pq σ H s->(∀ b∈fp,jA X pq H b)->tn i s.heap->J.go i H->
  wpAny (model P w) X.A (pyNext (.ref it)) (fun r s1=>∃ u,r=some u/\
   wpAny (model P w) X.A (letOwnedTupleGo tg (.ref it) u) (fun _ s2=>∃ x H',Inv X pq σ H' s2/\RelV x u/\J.HG i H x H'/\tn (i+1) s2.heap/\∀ b∈fp,H' b=none) E s1) E s
 done:∀(X:Cx),X.prog=P->X.w=w->X.K=K->X.A=A->X.calm=cm->∀(i:Nat) (pq:br) (s:Shared) (σ:St) (H:Hp) (E:iH),Inv X pq σ H s->(∀ b∈fp,jA X pq H b)->tn i s.heap->J.stop i H->
  wpAny (model P w) X.A (pyNext (.ref it)) (fun r s1=>r=none/\Inv X pq σ H s1) E s
 self:∀(A:Around) (i:Nat) (s:Shared) (Q:iH) (E:iH),tn i s.heap->Q (.ref it) s->wpAny (model P w) A (pyIter (.ref it)) Q E s
theorem Turn.x{A:Around}{cm:Bool}{P:Program}{w:World}{K:bY}{tg:Expr}{J:It}{fp:List Addr}{it:Addr}{tn:Nat->Heap->Prop}(T:Turn P w K tg J fp it tn)(hc:cm=true):Cf A cm P w K tg J fp it tn :=
 ⟨T.mem,T.obj,T.keep,fun X a b c _ d=>T.item X a b c (d.trans hc),fun X a b c _ d=>T.done X a b c (d.trans hc),T.self⟩
section
variable {X:Cx}{elt iter tg:Expr}{ifs:List Expr}{scope:Scope}{pos:Pos}{own fq:List Str}{js:List Nat}{wi:TI}{g:TG}{tt:TT}{te:TE}
theorem t6{pq:br}{σ:St}{H2:Hp}{s2:Shared}{it:Addr}{fp:List Addr}{tn:Nat->Heap->Prop}{J:It}{E:iH}{RR:Value->Addr->Result->Shared->Prop}{QQ:Addr->Hp->Prop}
 (T:ie X scope own fq js)
 (hg:∀ C s H fp,PG (aZ X (own++fq) scope (fun _ _=>False) C s H fp) tg g)
 (ht:∀ C s H fp,Ig (aZ X (own++fq) scope (fun _ _=>False) C s H fp) ifs tt)
 (he:∀ C s H fp,PE (aZ X (own++fq) scope (fun _ _=>False) C s H fp) elt te)
 (I2:Inv X pq σ H2 s2) (nM:Cf X.A X.calm X.prog X.w X.K tg J fp it tn) (st2:tn 0 s2.heap) (f2:∀ b∈fp,jA X pq H2 b)
 (hl:∀ D,H2 D=none->ig J g tt te own.length (dD σ js) D (QQ D) (upd H2 D (.lst [])))
 (hRR:∀ D C σ' H' s',s2.heap.objs.size<=C->Inv (aZ X (own++fq) scope (fun _ _=>False) C s2 H2 fp) [] σ' H' s'->QQ D H'->RR (.ref D) C (.ok .next) s') :
 wpAny (model X.prog X.w) X.A (newList []) (fun acc s₃=>wpAny (model X.prog X.w) X.A (newFunctionEnv scope X.env.globals (bN X.env.cells scope.names []) [] X.env.qual none .none (some X.env)) (fun cenv s₄ =>
  codeAny (model X.prog X.w) X.A (.compStart (.ListComp elt [⟨tg,iter,ifs,0⟩] scope pos) 0 (.ref it) acc { cenv with scope:=relabel scope X.env}) (RR acc cenv.locals) s₄) E s₃) E s2:=by
 refine wpAny_newObj_type (wpAny_newFunctionEnv T.Bf (by intro y hy;simp at hy) (fun h₁ vC yf=>?_) T.kind)
 dsimp only at vC yf ⊢;generalize E9:s2.heap.push { cls:=.type "list",dict:=none,data:=.seq ([]:List Value).toArray}=G2 at vC yf ⊢;have hC:G2.objs.size=s2.heap.objs.size+1:=by rw[<-E9,Heap.size_push]
 have hDC:s2.heap.objs.size≠G2.objs.size:=by rw[hC];exact Nat.ne_of_lt (Nat.lt_succ_self _)
 have yg:s2.heap.objs.size<=G2.objs.size:=by rw[hC];exact Nat.le_succ _
 have below:∀ b,b<s2.heap.objs.size->b≠G2.objs.size:=fun b hb=>by rw[hC];exact Nat.ne_of_lt (Nat.lt_succ_of_lt hb)
 have old:∀ b o,s2.heap.get? b=some o->h₁.get? b=some o:=fun b o e=>yf.extBut b o (below b (Heap.lt_size e)) (Heap.get?_push_of_some _ (E9▸Heap.get?_push_of_some _ e))
 have hacc:h₁.get? s2.heap.objs.size=some { cls:=.type "list",data:=.seq ([]:List Value).toArray 0}:=yf.extBut _ _ hDC (Heap.get?_push_of_some _ (E9▸Heap.get?_push_size _ rfl));have Fb:∀ b∈fp,∃ o,s2.heap.get? b=some o:=fun b hb=>let⟨o,e,_⟩:=nM.obj _ _ st2 b hb;⟨o,e⟩
 have st1:tn 0 h₁:=nM.keep _ _ _ st2 fun b _ o e=>old b o e
 obtain⟨W,⟨m0,w0⟩,turn⟩:=hl s2.heap.objs.size (I2.hok.fresh (Nat.le_refl _));have hfx:∀{H' : Hp},(∀ b∈fp,H' b=none)->∀ b∈fp,jA (aZ X (own++fq) scope (fun _ _=>False) G2.objs.size s2 H2 fp) [] H' b:=fun {H'} hn b hb=>by
  obtain⟨_,f1,Mv,_,f4,_⟩:=f2 b hb;obtain⟨o,ho⟩:=Fb b hb;refine⟨hn b hb,below b (Heap.lt_size ho),fun z=>?_,.inl hb,fun x c e=>?_,fun p hp=>absurd (show p∈([]:br) from hp) (by simp)⟩
  ·rcases List.mem_cons.mp (I2.lg b z) with q|q
   ·exact f1 q
   ·exact Mv q
  ·rcases fB (show(bN X.env.cells scope.names []).lookup x=some c from e) with q|⟨q1,q2⟩
   ·cases q
   ·obtain⟨c',hc'⟩:=gE I2 T x .free q1 rfl;rw[hc']at q2;have q2:c' = c:=q2;rw[<-q2];exact f4 x c' hc'
 have Mw:∀ b∈fp,upd H2 s2.heap.objs.size (.lst []) b=none:=fun b hb=>by
  obtain⟨o,ho⟩:=Fb b hb;rw[aT (Nat.ne_of_lt (Heap.lt_size ho))];exact(f2 b hb).1
 have back:∀{σ6:St} {p6:br} {H6:Hp} {s6:Shared},Inv (aZ X (own++fq) scope (fun _ _=>False) G2.objs.size s2 H2 fp) p6 σ6 H6 s6->σ6.drop own.length=dD σ js->
  Inv (aZ X (own++fq) scope (fun _ _=>False) G2.objs.size s2 H2 fp) [] (List.replicate own.length none++dD σ js) H6 s6:=fun {σ6 p6 H6 s6} I6 hd=>by
  have My:σ6.length=(own++fq).length:=I6.len;have J6:=I6.lj (LV:=[]) fun p hp=>absurd hp (by simp)
  refine J6.weak ?_ fun i v e=>?_
  ·have q:=congrArg List.length hd;rw[List.length_drop]at q;rw[List.length_append]at My;rw[List.length_append,List.length_replicate]
   lia
  ·by_cases hi:i<own.length
   ·rw[List.getElem?_append_left (by simpa using hi),List.getElem?_replicate,if_pos hi]at e
    cases e
   ·rw[List.getElem?_append_right (by simpa using hi),List.length_replicate,<-hd,List.getElem?_drop]at e
    rw[show own.length+(i-own.length)=i by lia]at e
    exact e
 have loop:∀ s₃:Shared,s₃={ s2 with heap:=h₁,toks:=s2.toks+([]:List (Str×Value)).length}->
  codeAny (model X.prog X.w) X.A (.compLoop (.ListComp elt [⟨tg,iter,ifs,0⟩] scope pos) 0 (.ref it) (.ref s2.heap.objs.size) (compEnvC scope (bN X.env.cells scope.names []) G2.objs.size X.env))
   (RR (.ref s2.heap.objs.size) G2.objs.size) s₃:=by
  rintro s₃ rfl;refine lA (fun n s'=>∃ i acc H',Inv (aZ X (own++fq) scope (fun _ _=>False) G2.objs.size s2 H2 fp) [] (List.replicate own.length none++dD σ js) H' s'/\tn i s'.heap/\(∀ b∈fp,H' b=none)/\W i n acc H') ?_ m0
   ⟨0,[],upd H2 s2.heap.objs.size (.lst []),zz I2 T f2 Fb (Nat.le_refl _) yg hDC old hacc vC,st1,Mw,w0⟩
  rintro n s3 ⟨i,acc,H3,I3,st3,B3,w3⟩;obtain⟨wB,zB⟩:=turn i n acc H3 w3;rcases zB with⟨stop,qn⟩|⟨go,hz,NN,Jy,step⟩
  ·refine wpAny_mono (nM.done (aZ X (own++fq) scope (fun _ _=>False) G2.objs.size s2 H2 fp) rfl rfl rfl rfl rfl i [] s3 _ H3 (fun _ _=>False) I3 (hfx B3) st3 stop) (fun r s4 ⟨hr,I4⟩=>?_) fun _ _ z=>z.elim
   subst hr;exact hRR _ _ _ H3 s4 yg I4 qn
  ·refine wpAny_mono (nM.item (aZ X (own++fq) scope (fun _ _=>False) G2.objs.size s2 H2 fp) rfl rfl rfl rfl rfl i [] s3 _ H3 (fun _ _=>False) I3 (hfx B3) st3 go) (fun r s4 ⟨u,hr,h4⟩=>?_) fun _ _ z=>z.elim
   subst hr;refine wpAny_mono h4 (fun _ s5 ⟨x,H5,I5,r5,y5,xX,HL⟩=>?_) fun _ _ z=>z.elim
   have HM:=I5.pinned (hfx HL) (nM.obj _ _ xX);refine wpAny_mono (hg _ _ _ _ _ s5 _ H5 x u _ HM r5 (step x H5 y5)) (fun _ s6 ⟨σ6,H6,I6,Jz,q6⟩=>?_) fun _ _ z=>z.elim
   refine wpAny_mono (ht _ _ _ _ _ s6 σ6 H6 _ I6 q6) (fun ok s7 ⟨H7,I7,q7⟩=>?_) fun _ _ z=>z.elim
   have again:∀{H8:Hp} {s8:Shared},Inv (aZ X (own++fq) scope (fun _ _=>False) G2.objs.size s2 H2 fp) ([]++mL fp s5.heap) σ6 H8 s8->tn (i+1) s8.heap/\∀ b∈fp,H8 b=none:=fun {H8 s8} I8=>by
    refine⟨nM.keep _ _ _ xX fun b hb o e=>(I8.pin (b,o) (pO _ (pO _ (cV hb e)))).1,fun b hb=>?_⟩
    obtain⟨o,e,d⟩:=nM.obj _ _ xX b hb;exact(I8.pin (b,o) (pO _ (pO _ (cV hb e)))).2.1
   cases ok with
   | false =>
     rw[if_neg Bool.false_ne_true];obtain⟨m',hm,w7⟩:=Jy _ _ q7;obtain⟨t7,n7⟩:=again I7;exact⟨m',hm,i+1,acc,H7,back I7 Jz,t7,n7,w7⟩
   | true =>
     rw[if_pos rfl];refine wpAny_mono (he _ _ _ _ _ s7 σ6 H7 _ I7 q7) (fun xv s8 ⟨v,H8,I8,r8,Mz,q8⟩=>?_) fun _ _ z=>z.elim
     obtain⟨m',hm,w8⟩:=Jy _ _ q8;refine wpAny_mono (dO (X:=aZ X (own++fq) scope (fun _ _=>False) G2.objs.size s2 H2 fp) _ s8 σ6 H8 (.ref s2.heap.objs.size) [v] (.ref s2.heap.objs.size) [xv] (fun y H9=>y = .iC/\H9=upd H8 s2.heap.objs.size (.lst (acc++[v]))) I8 rfl (.cons r8 .nil) ⟨_,acc,v,rfl,rfl,Mz,hz,rfl,rfl⟩)
      (fun _ s9 ⟨y,H9,I9,_,_,e9⟩=>?_) fun _ _ z=>z.elim
     subst e9;obtain⟨t9,n9⟩:=again I9;exact⟨m',hm,i+1,acc++[v],_,back I9 Jz,t9,n9,w8⟩
 exact codeAny_compStart_list (loop _ rfl) (nM.self _ 0 _ _ _ st1 (loop _ rfl))
theorem cC(T:ie X scope own fq js)(hc:X.calm=true)(hi:PI X tg iter wi)
 (hg:∀ C s H fp,PG (aZ X (own++fq) scope (fun _ _=>False) C s H fp) tg g)
 (ht:∀ C s H fp,Ig (aZ X (own++fq) scope (fun _ _=>False) C s H fp) ifs tt)
 (he:∀ C s H fp,PE (aZ X (own++fq) scope (fun _ _=>False) C s H fp) elt te)
 (hs:∀ x,foldedSetIterable iter X.env x=pure x:=by intro _;rfl) :
 PE X (.ListComp elt [⟨tg,iter,ifs,0⟩] scope pos) (E8 wi g tt te own.length js):=by
 intro pq s σ H Q I h;rw[eval_ListComp];refine wpAny_comprehension_free (use:=none) rfl hs (ly (gE I T)) T.kind T.names ?_;refine wpAny_mono (hi pq s σ H _ I h) (fun v s1 h1=>wpAny_mono h1 (fun itv s2 h2=>?_) fun _ _ z=>z) fun _ _ z=>z
 obtain⟨it,fp,tn,J,H2,e,I2,nM,st2,f2,hl⟩:=h2;subst e;refine t6 (QQ:=fun D H'=>Q (.ref D) H') T hg ht he I2 (nM.x hc) st2 f2 hl fun D C σ' H' s' hC J' q=>?_
 obtain⟨m,hn,_⟩:=J'.loc;exact⟨m,hn,fun h' sb=>⟨.ref D,H',jN I2 f2 hC J' sb,rfl,q⟩⟩
def zC(i:Nat)(wi:TI)(g:TG)(tt:TT)(te:TE)(n:Nat)(js:List Nat):TS:=fun D σ H=>E8 wi g tt te n js σ H fun v H1=>D.nx (σ.set i (some v)) H1
theorem lB{i:Nat}{x:Str}{pos' spos:Pos}(hN:X.N.Nodup)(hix:X.N[i]?=some x)(hx:X.env.scope.names.lookup x=some .local)(T:ie X scope own fq js)(hc:X.calm=true)(hi:PI X tg iter wi)
 (hg:∀ C s H fp,PG (aZ X (own++fq) scope (fun _ _=>False) C s H fp) tg g)
 (ht:∀ C s H fp,Ig (aZ X (own++fq) scope (fun _ _=>False) C s H fp) ifs tt)
 (he:∀ C s H fp,PE (aZ X (own++fq) scope (fun _ _=>False) C s H fp) elt te)
 (hsw:swapsWith (.ListComp elt [⟨tg,iter,ifs,0⟩] scope pos) (some (.Name x pos')) spos.line X.env=pure true:=by rfl)
 (hs:∀ x,foldedSetIterable iter X.env x=pure x:=by intro _;rfl) :
 PS X (.Assign [.Name x pos'] (.ListComp elt [⟨tg,iter,ifs,0⟩] scope pos) spos) (zC i wi g tt te own.length js):=by
 intro pq s σ H D I h;rw[exec_Assign_Name_used _ _ _ _ hsw];refine iX (wpAny_standAt (iX ?_));show wpAny _ X.A (do let _←comprehension (.ListComp elt [⟨tg,iter,ifs,0⟩] scope pos) scope X.env _ (newList []) false (eval iter X.env) (some (assign (.Name x pos') X.env))) _ _ s
 refine iX (wpAny_mono (wpAny_comprehension_free (use:=some (assign (.Name x pos') X.env)) (Q:=fun _ s'=>SP X pq D .next s') rfl hs (ly (gE I T)) T.kind T.names ?_) (fun _ s' hq=>wpAny_pure (wpAny_pure hq)) fun _ _ e=>e)
 refine wpAny_mono (hi pq s σ H _ I h) (fun v s1 h1=>wpAny_mono h1 (fun itv s2 h2=>?_) fun _ _ z=>z) fun _ _ z=>z
 obtain⟨it,fp,tn,J,H2,e,I2,nM,st2,f2,hl⟩:=h2;subst e;refine t6 (QQ:=fun D' H'=>D.nx (σ.set i (some (.ref D'))) H') T hg ht he I2 (nM.x hc) st2 f2 hl fun D' C σ' H' s' hC J' q=>?_
 have I3:Inv X pq σ H' s':=by
  obtain⟨hh,gg,dd,YI,oo⟩:=s';exact jN I2 f2 hC J' (Heap.SameBut.refl ..)
 obtain⟨m,hn,_⟩:=J'.loc;obtain⟨oC,es,ep,KH,KI,rest⟩:=id hn;have Bg:H' C=none:=J'.free;have MA:C≠X.env.locals:=Nat.ne_of_gt (Nat.lt_of_lt_of_le I2.lt hC);have Qm:C∉X.fs:=fun z=>by
  obtain⟨_,o,ho,_⟩:=I2.funs.mem z;exact absurd (Nat.lt_of_lt_of_le (Heap.lt_size ho) hC) (Nat.lt_irrefl _)
 have I4:Inv X (pq++[(C,oC)]) σ H' s':=I3.lj fun p hp=>(List.mem_append.mp hp).elim (fun z=>I3.pin p (pO _ z)) fun z=>by
  have e:p=(C,oC):=by simpa using z
  subst e;exact⟨KH,Bg,MA,Qm,fun v z=>by have z' : oC.data = .cell v:=z;rw[KI]at z';cases z'⟩
 show wpAny _ X.A (assign (.Name x pos') X.env (.ref D')) _ _ _;refine wpAny_assign_Name (mK (v:=.ref D') I4 hN hix (.inl hx) rfl (fun s5 I5=>?_) (.inr hx))
 have e5:s5.heap.get? C=some oC:=(I5.pin (C,oC) (pO _ (pO _ (by simp)))).1
 refine⟨m,⟨oC,es,ep,e5,KI,rest⟩,fun h' sb=>⟨_,H',?_,q⟩⟩
 have I6:Inv X pq (σ.set i (some (.ref D'))) H' s5:=I5.ic;refine I6.turned (t':=s5.toks) (fun b o hb e=>(sb.2 b hb).trans e) Bg MA (.inr (Nat.le_trans I2.sz hC)) (fun y c e=>?_) (fun p hp z=>?_)
 ·obtain⟨v,qc⟩:=I2.cell y c e;exact Nat.ne_of_lt (Nat.lt_of_lt_of_le qc.lt hC)
 ·have MB:=(I2.pin p hp).1;exact absurd (Nat.lt_of_lt_of_le (Heap.lt_size MB) (by rw[z];exact hC)) (Nat.lt_irrefl _)
end
section
variable {K:bY}{a:Addr}{xs:List V}{g:TG}{tt:TT}{te:TE}{n:Nat}{fr:St}{D:Addr}{Q:Hp->Prop}{H1:Hp}
theorem cf(Pv:Nat->List V->Hp->Prop)(h0:Pv 0 [] H1)(hl:∀ i acc H,i<=xs.length->Pv i acc H->aW K H a xs/\H D=some (.lst acc)/\acc.length<=i)(hz:xs.length<=sizeLine)
 (hs:∀ i x acc H,xs[i]?=some x->Pv i acc H->g x (List.replicate n none++fr) H fun σ2 H2=>σ2.drop n=fr/\tt σ2 H2 fun b H3 =>
  if b=true then te σ2 H3 fun v H4=>H4 D=some (.lst acc)/\Pv (i+1) (acc++[v]) (upd H4 D (.lst (acc++[v]))) else Pv (i+1) acc H3)
 (hd:∀ acc H,Pv xs.length acc H->Q H):ig (HJ K a) g tt te n fr D Q H1:=by
 refine⟨fun i m acc H=>m=xs.length-i/\i<=xs.length/\Pv i acc H,⟨xs.length,by simp,Nat.zero_le _,h0⟩,?_⟩
 rintro i m acc H ⟨rfl,hi,p⟩;obtain⟨q,hD,ha⟩:=hl i acc H hi p;refine⟨hD,?_⟩
 by_cases hlt:i<xs.length
 ·refine .inr ⟨⟨xs,xs[i],q,by simp[hlt]⟩,by lia,Pv (i+1),fun acc' H' p'=>⟨xs.length-(i+1),by lia,rfl,hlt,p'⟩,fun x H' y=>?_⟩
  obtain⟨e,y⟩:=y;subst e;exact hs i x acc _ (y xs q) p
 ·have e:i=xs.length:=by lia
  subst e;exact .inl ⟨⟨xs,q,Nat.le_refl _⟩,hd acc H p⟩
theorem zD(Pv:Nat->List V->Hp->Prop)(h0:Pv 0 [] H1)(hl:∀ i acc H,i<=xs.length->Pv i acc H->bI K H a xs/\H D=some (.lst acc)/\acc.length<=i)(hz:xs.length<=sizeLine)
 (hs:∀ i x acc H,xs[i]?=some x->Pv i acc H->g x (List.replicate n none++fr) H fun σ2 H2=>σ2.drop n=fr/\tt σ2 H2 fun b H3 =>
  if b=true then te σ2 H3 fun v H4=>H4 D=some (.lst acc)/\Pv (i+1) (acc++[v]) (upd H4 D (.lst (acc++[v]))) else Pv (i+1) acc H3)
 (hd:∀ acc H,Pv xs.length acc H->Q H):ig (Lx K a) g tt te n fr D Q H1:=by
 refine⟨fun i m acc H=>m=xs.length-i/\i<=xs.length/\Pv i acc H,⟨xs.length,by simp,Nat.zero_le _,h0⟩,?_⟩
 rintro i m acc H ⟨rfl,hi,p⟩;obtain⟨q,hD,ha⟩:=hl i acc H hi p;refine⟨hD,?_⟩
 by_cases hlt:i<xs.length
 ·refine .inr ⟨⟨xs,xs[i],q,by simp[hlt]⟩,by lia,Pv (i+1),fun acc' H' p'=>⟨xs.length-(i+1),by lia,rfl,hlt,p'⟩,fun x H' y=>?_⟩
  obtain⟨e,y⟩:=y;subst e;exact hs i x acc _ (y xs q) p
 ·have e:i=xs.length:=by lia
  subst e;exact .inl ⟨⟨xs,q,Nat.le_refl _⟩,hd acc H p⟩
theorem ee{lo:Int}{m:Nat}(Pv:Nat->List V->Hp->Prop)(h0:Pv 0 [] H1)(hl:∀ i acc H,i<=m->Pv i acc H->H D=some (.lst acc)/\acc.length<=i)(hz:m<=sizeLine)
 (hs:∀ i acc H,i<m->Pv i acc H->g (.int (lo+i)) (List.replicate n none++fr) H fun σ2 H2=>σ2.drop n=fr/\tt σ2 H2 fun b H3 =>
  if b=true then te σ2 H3 fun v H4=>H4 D=some (.lst acc)/\Pv (i+1) (acc++[v]) (upd H4 D (.lst (acc++[v]))) else Pv (i+1) acc H3)
 (hd:∀ acc H,Pv m acc H->Q H):ig (ES lo m) g tt te n fr D Q H1:=by
 refine⟨fun i k acc H=>k=m-i/\i<=m/\Pv i acc H,⟨m,by simp,Nat.zero_le _,h0⟩,?_⟩
 rintro i k acc H ⟨rfl,hi,p⟩;obtain⟨hD,ha⟩:=hl i acc H hi p;refine⟨hD,?_⟩
 by_cases hlt:i<m
 ·refine .inr ⟨hlt,by lia,Pv (i+1),fun acc' H' p'=>⟨m-(i+1),by lia,rfl,hlt,p'⟩,fun x H' y=>?_⟩
  obtain⟨e,y⟩:=y;subst e y;exact hs i acc _ hlt p
 ·have e:i=m:=by lia
  subst e;exact .inl ⟨Nat.le_refl _,hd acc H p⟩
end
def zE(scope Cg:Scope)(N fq:List Str)(js:List Nat):Bool :=
 decide (scope.kind = .function)&&scope.names.all (fun y=>decide (y.2≠.cell))&&scope.names.all (fun y=>decide (y.2 = .local->scope.names.lookup y.1=some .local)) &&
 scope.names.all (fun y=>decide (y.2 = .free->Cg.names.lookup y.1=some .cell\/Cg.names.lookup y.1=some .free))&&decide (js.map (fun j=>N[j]?)=fq.map some)&&fq.all (fun x=>decide (scope.names.lookup x=some .free))
theorem aK{X:Cx}{scope:Scope}{own fq:List Str}{js:List Nat}(Cg:Scope)(N:List Str)(h1:X.env.scope=Cg:=by rfl)(h2:X.N=N:=by rfl)(h:zE scope Cg N fq js=true:=by decide +kernel):ie X scope own fq js:=by
 unfold zE at h;simp only[Bool.and_eq_true,decide_eq_true_eq,List.all_eq_true]at h;obtain⟨⟨⟨⟨⟨a,b⟩,c⟩,d⟩,e⟩,f⟩:=h;exact⟨a,b,c,by rw[h1];exact d,by rw[h2];exact e,f⟩
mutual
inductive sR(K:bY)(H:Hp):V->PyData->Prop
 | iC:sR K H .iC .none
 | bl (b:Bool):sR K H (.bl b) (.bool b)
 | int (i:Int):sR K H (.int i) (.int i)
 | str (x:Str):sR K H (.str x) (.str x)
 | lst {a:Addr} {xs:List V} {ds:List PyData} (h:aW K H a xs) (r:DatVs K H xs ds):sR K H (.ref a) (.list ds)
 | tup {a:Addr} {xs:List V} {ds:List PyData} (h:bI K H a xs) (r:DatVs K H xs ds):sR K H (.ref a) (.tuple ds)
inductive DatVs(K:bY)(H:Hp):List V->List PyData->Prop
 | nil:DatVs K H [] []
 | cons {x:V} {d:PyData} {xs:List V} {ds:List PyData} (h:sR K H x d) (r:DatVs K H xs ds):DatVs K H (x::xs) (d::ds)
end
section
variable {X:Cx}{pq:br}{σ:St}{H:Hp}{s:Shared}
mutual
theorem sR.reads(I:Inv X pq σ H s):∀{v:V} {d:PyData} {u:Value},sR X.K H v d->RelV v u->∃ as,Reads s.heap u d as
 | _,_,u,.iC,r=>by cases(show u=Value.none from r);exact⟨_,.none⟩
 | _,_,u,.bl b,r=>by cases(show u=Value.bool b from r);exact⟨_,.bool b⟩
 | _,_,u,.int i,r=>by obtain⟨t,rfl⟩:=(show ∃ t,u=Value.int i t from r);exact⟨_,.int i t⟩
 | _,_,u,.str x,r=>by obtain⟨t,rfl⟩:=(show ∃ t,u=Value.str x t from r);exact⟨_,.str x t⟩
 | _,_,u,.lst (a:=a) h rs,r=>by
   cases(show u=Value.ref a from r)
   obtain⟨its,rv,⟨o,n,e,c,_,d⟩,_⟩:=I.list h;obtain⟨as,q⟩:=DatVs.reads I rs rv;exact⟨_,.list e c d (by simpa using q)⟩
 | _,_,u,.tup (a:=a) h rs,r=>by
   cases(show u=Value.ref a from r)
   obtain⟨its,rv,⟨o,e,c,n,d⟩,_⟩:=I.tuple h;obtain⟨as,q⟩:=DatVs.reads I rs rv;exact⟨_,.tuple e c d (by simpa using q)⟩
theorem DatVs.reads(I:Inv X pq σ H s):∀{vs:List V} {ds:List PyData} {us:List Value},DatVs X.K H vs ds->Vals vs us->∃ as,ReadsAll s.heap us ds as
 | _,_,_,.nil,.nil=>⟨_,.nil⟩
 | _,_,_,.cons h r,.cons rv rr=>by
   obtain⟨as,q⟩:=sR.reads I h rv;obtain⟨bs,q2⟩:=DatVs.reads I r rr;exact⟨_,.cons q q2⟩
end
end
section
variable {X:Cx}
def MC(K:bY):R2:=fun x y H Q=>∃ d e,sR K H x d/\sR K H y e/\SeqAt.shaped d=true/\SeqAt.shaped e=true/\Q (.bl (PyData.eqv d e)) H
theorem KJ(hu:X.A.units+64<cLine):mO X (compareOp .Eq) (MC X.K):=by
 intro pq s σ H x y v u Q I rx ry h;obtain⟨d,e,h1,h2,s1,s2,q⟩:=h;obtain⟨as,ra⟩:=h1.reads I rx;obtain⟨bs,rb⟩:=h2.reads I ry;exact eq_dataH ra rb s1 s2 hu ⟨.bl _,H,I,rfl,q⟩
theorem Ci:P5 X "int.bit_length" (fun x xs H Q=>∃ i,x = .int i/\xs=[]/\Q (.int (Builtin.Int.intBits i)) H):=by
 intro pq s σ H x xs v us Q I rx rs h;obtain⟨i,rfl,rfl,q⟩:=h;obtain⟨t,rfl⟩:=rx;cases rs;exact call_int_bit_length ⟨.int _,H,I.tok _,⟨_,rfl⟩,q⟩
theorem Ih{x:Str}{v:Int}{pos:Pos}(hg:Gl X x)(h:∃ t,X.mg x=some (.int v t))(hd:(x==("__debug__":Str))=false:=by decide):PE X (.Name x pos) (tC (.int v)):=by
 obtain⟨t,e⟩:=h;exact HD hg e ⟨t,rfl⟩ hd
end
theorem dl{n:Nat}(h:Nat.ble n 1000=true):n<=sizeLine:=Nat.le_of_lt (gD (Nat.le_of_ble_eq_true h))
theorem oZ{j:Int}(h:decide (0<j)=true):0<j:=mG h
theorem Dv{c A B:Prop}[Decidable c](h : ¬ c)(hb:B):if decide c=true then A else B:=by
 rw[ia h];exact iL hb
theorem zF{c A B:Prop}[Decidable c](h:c)(ha:A):if decide c=true then A else B:=by
 rw[eG h];exact lu ha
theorem au.new{H:Hp}{p:Addr}{o:HO}(h:H p=none):au H (upd H p o):=fun b u e=>by
 rw[aT (aY e h)];exact e
theorem au.put{H H2:Hp}{D:Addr}{o:HO}(s:au H H2)(h:H D=none):au H (upd H2 D o):=fun b u e=>by
 rw[aT (aY e h)];exact s b u e
def rB(H H' : Hp):Prop:=∀ b xs,H b=some (.tup xs)->H' b=some (.tup xs)
theorem au.tups{H H' : Hp}(s:au H H'):rB H H':=fun b xs e=>s b _ e
theorem rB.trans{H H1 H2:Hp}(a:rB H H1)(b:rB H1 H2):rB H H2:=fun c xs e=>b c xs (a c xs e)
theorem rB.put{H:Hp}{D:Addr}{o:HO}{ys:List V}(h:H D=some (.lst ys)):rB H (upd H D o):=fun b xs e=>by
 rw[aT (Jp e h (by intro z;cases z))]
 exact e
theorem Paired.mD{α β:Type}{F:α->β->Prop}:∀{l:List α} {r:List β} {i:Nat} {x:α},Paired F l r->l[i]?=some x->∃ y,r[i]?=some y/\F x y
 | _,_,_,_,.nil,e=>by simp at e
 | _,_,0,_,.cons h _,e=>by
   simp at e;subst e;exact⟨_,rfl,h⟩
 | _,_,i+1,x,.cons _ t,e=>by
   obtain⟨y,h1,h2⟩:=Paired.mD (i:=i) (x:=x) t (by simpa using e)
   exact⟨y,by simpa using h1,h2⟩
section
variable {X:Cx}{l:Expr}{tl:TE}{tg a b o e:Expr}{ta tb to:TE}{es:List Expr}
theorem Bh(K:bY)(hu:X.A.units+64<cLine)(h:X.K=K:=by rfl):mO X (compareOp .Eq) (MC K):=by subst h;exact KJ hu
def Qn(K:bY):List V->Hp->VK->Prop:=fun xs H Q=>∃ p ys,xs=[.ref p]/\(aW K H p ys\/bI K H p ys)/\Q (.int ys.length) H
theorem j8(K:bY)(h:X.K=K:=by rfl):jC X (.builtin "len") (Qn K):=by subst h;exact x9
def MD(K:bY):List V->Hp->VK->Prop:=fun xs H Q=>∃ p ys,xs=[.ref p]/\(aW K H p ys\/bI K H p ys)/\∀ l,H l=none->Q (.ref l) (upd H l (.lst ys))
theorem ME(K:bY)(h:X.K=K:=by rfl):jC X (.type "list") (MD K):=by subst h;exact yc
def MF(K:bY):List V->Hp->VK->Prop:=fun xs H Q=>∃ p ys,xs=[.ref p]/\((aW K H p ys/\∀ l,H l=none->Q (.ref l) (upd H l (.tup ys)))\/(bI K H p ys/\Q (.ref p) H))
theorem JA(K:bY)(h:X.K=K:=by rfl):jC X (.type "tuple") (MF K):=by subst h;exact vB
theorem mH(K:bY)(h:X.K=K:=by rfl):Mm X (Mn K):=by subst h;exact HX
theorem fM(K:bY)(h:X.K=K:=by rfl):Mm X (Mp K):=by subst h;exact Kz
theorem WR(K:bY)(h:X.K=K:=by rfl):OA X (Ml K):=by subst h;exact Ky
theorem Qo(K:bY)(h:X.K=K:=by rfl):mO X (compareOp .In) (OB K false):=by subst h;exact Dr
theorem Fc(K:bY)(h:X.K=K:=by rfl):mO X (compareOp .NotIn) (OB K true):=by subst h;exact x8
theorem vD(K:bY)(hl:PE X l tl)(h:X.K=K:=by rfl):PI X tg l (Ju K tl):=by subst h;exact HK hl
theorem Qp(K:bY)(hl:PE X l tl)(h:X.K=K:=by rfl):PI X tg l (L7 K tl):=by subst h;exact Ko hl
theorem JB(K:bY){k:Nat}{t:Js}{n:Nat}{pos:Pos}(hc:X.calm=true)(hp:LZ X es t)(hn:(assignEach es X.env).length=n:=by rfl)(hst:(assignEach es X.env).findIdx? (·.1)=none:=by rfl)(h:X.K=K:=by rfl):
 PG X (.Tuple es k pos) (L3 K n t):=by subst h;exact Kn hc hp hn hst
end
def t8(od:Option Addr)(c:Value)(e:Addr)(h:Heap):Prop:=∃ oe vs,h.get? e=some oe/\oe.data = .fields vs/\vs[2]?=some c/\oe.dict=od
theorem Fd(o:Obj)(f):(o.mapFields f).dict=o.dict:=by
 obtain⟨c,d,dt,sl⟩:=o;cases dt<;>rfl
section
variable {M:Model}{A:Around}{E:iH}{s:Shared}{B:Heap}{env:Env}{outer l:List Env}{L e:Addr}{cls a0:Value}{Q:Unit->Shared->Prop}{od:Option Addr}{c:Value}
theorem yh{h:Heap}{T:Addr}{oT:Obj}{ts:Array Value}(f:Obj->Obj)(hT:h.get? T=some oT)(hd:oT.data = .fields ts):h.UpToSlots (h.update T f):=fun b o hb hn=>by
 have ne:T≠b:=fun z=>by
  rw[<-z,hT]at hb;cases hb;exact hn ts hd
 exact⟨o.slots,(Heap.get?_update_other h f ne).trans hb⟩
theorem rC{h:Heap}{T:Addr}(f:Obj->Obj)(k:B.StaysIn h)(n:B.get? T=none):B.StaysIn (h.update T f):=fun b o hb=>by
 have ne:T≠b:=fun z=>by
  rw[<-z,n]at hb;cases hb
 exact(Heap.get?_update_other h f ne).trans (k b o hb)
theorem lC{h h' : Heap}(x:h.FunFrames B l)(u:h.UpToSlots h'):h'.FunFrames B l:=x.of_keeps fun b o hb hn =>
 let⟨_,q⟩:=u b o hb hn
 ⟨_,q,rfl⟩
theorem Fe{fl:Value}(hk:B.StaysIn s.heap)(hn:B.get? e=none)(hl:s.heap.FunFrames B l)(ht:s.heap.TracedAtW B e cls a0 fl)(h2:t8 od c e s.heap)
 (q:∀ h',Heap.FlyingW B l e cls a0 h'->t8 od c e h'->s.heap.UpToSlots h'->Q () { s with heap:=h'}):wpAny M A (setFlight (.ref e) none) Q E s:=by
 obtain⟨oe,vs,T,oT,ts,ge,hc,de,f1,nT,Te,gT,dT,f3⟩:=ht;have z3:3<ts.size:=(Array.getElem?_eq_some_iff.mp f3).1;rw[setFlight];refine iX (wpAny_field ge de f1 ?_);rw[if_pos (by simp)]
 refine wpAny_setField gT dT z3 ?_;have up:=yh (Obj.mapFields (·.setIfInBounds 3 ((none:Option Addr).elim Value.none fun f=>rawInt f))) gT dT
 have OE:=(Heap.get?_update_other s.heap (Obj.mapFields (·.setIfInBounds 3 ((none:Option Addr).elim Value.none fun f=>rawInt f))) Te).trans ge
 have WS:=Obj.data_mapFields dT (·.setIfInBounds 3 ((none:Option Addr).elim Value.none fun f=>rawInt f))
 refine q _ ⟨rC _ hk nT,hn,lC hl up,oe,vs,T,_,_,OE,hc,de,f1,nT,Te,Heap.get?_update_self _ gT (Obj.isFreed_of_fields WS),WS,by simp[z3]⟩ ?_ up
 obtain⟨o2,v2,g2,d2,k2,z2⟩:=h2;rw[ge]at g2;cases g2;exact⟨oe,v2,OE,d2,k2,z2⟩
theorem Ff{oe:Obj}{vs:Array Value}{head:Value}{hadNext:Bool}(hfr:A.frames=some (env::outer))(hl:s.heap.FunFrames B (env::outer))(hf:env.frame=some L)(ge:s.heap.get? e=some oe)(hk:B.StaysIn s.heap)(hn:B.get? e=none)
 (de:oe.data = .fields vs) (hz:1<vs.size) (h0:vs[0]?=some a0) (h2:vs[2]?=some c) (hz2:oe.dict=od)
 (q:∀ h',Heap.HeldW B (env::outer) e oe.cls a0 L h'->t8 od c e h'->s.heap.UpToSlots h'->Q () { s with heap:=h'}) :
 wpAny M A (do let a←frameOf env;let pl←entryPlaceOf L hadNext;let b←EntryCells.newEntry head a .none (rawInt L) .none pl;setField (.ref e) 1 b) Q E s:=by
 have Qq:e∉(env::outer).filterMap (·.frame):=fun z=>by
  obtain⟨_,o,ho,nf⟩:=hl.mem z;rw[ge]at ho;cases ho;exact nf vs de
 refine iX (wpAny_frameOf_fun hfr hl hf fun h1 so=>iX (wpAny_entryPlaceOf fun pl ip=>?_))
 rw[EntryCells.newEntry,newFields];refine iX (wpAny_newObj_type ?_ (ip.sizeOk5 _ _ _ _ _));generalize hnw:({ cls:=.type "traceback",dict:=none,data:=.fields ([head,.ref L,.none,rawInt L,.none]++(if pl.isEmpty then List.replicate 6 Value.none else pl)).toArray}:Obj)=nw
 have dn:nw.data = .fields ([head,.ref L,.none,rawInt L,.none]++(if pl.isEmpty then List.replicate 6 Value.none else pl)).toArray:=by rw[<-hnw]
 have ge1:h1.get? e=some oe:=(so.2.1 e Qq).trans ge;have Ly:=Heap.get?_push_of_some (h:=h1) nw ge1;have Te:h1.objs.size≠e:=Nat.ne_of_gt (Heap.lt_size ge1);refine wpAny_setField Ly de hz ?_;have Qs:=Obj.data_mapFields de (·.setIfInBounds 1 (Value.ref h1.objs.size));have WT:=Heap.get?_update_self (Obj.mapFields (·.setIfInBounds 1 (Value.ref h1.objs.size))) Ly (Obj.isFreed_of_fields Qs);have OF:=(Heap.get?_update_other (h1.push nw) (Obj.mapFields (·.setIfInBounds 1 (Value.ref h1.objs.size))) (Ne.symm Te)).trans (Heap.get?_push_size h1 (by rw[<-hnw];rfl))
 have up:s.heap.UpToSlots ((h1.push nw).update e (Obj.mapFields (·.setIfInBounds 1 (Value.ref h1.objs.size)))):=by
  have u1:s.heap.UpToSlots h1:=fun b o hb _=>so.2.2 b o hb
  exact(u1.trans (.of_keeps fun b o hb=>Heap.get?_push_of_some nw hb)).trans (yh _ Ly de)
 have k1:B.StaysIn h1:=fun b o hb=>(so.2.1 b fun z=>by rw[(hl.mem z).1]at hb;cases hb).trans (hk b o hb)
 have k2:B.StaysIn (h1.push nw):=fun b o hb=>Heap.get?_push_of_some nw (k1 b o hb)
 refine q _ ⟨rC _ k2 hn,hn,lC hl up,_,_,h1.objs.size,nw,_,WT,⟨Obj.cls_mapFields _ _,by rw[Array.getElem?_setIfInBounds_ne (by decide)];exact h0⟩,Qs,by simp[hz],k1.fresh,Te,OF,dn,?_⟩ ?_ up
 ·first | (simp;done) | (rcases ip with rfl | ⟨_,_,_,_,_,_,_,rfl⟩<;>simp)
 ·exact⟨_,_,WT,Qs,by rw[Array.getElem?_setIfInBounds_ne (by decide)];exact h2,(Fd _ _).trans hz2⟩
theorem JC(hfr:A.frames=some (env::outer))(hf:env.frame=some L)(fl:Heap.FlyingW B (env::outer) e cls a0 s.heap)(h2:t8 od c e s.heap)
 (q:∀ h',Heap.HeldW B (env::outer) e cls a0 L h'->t8 od c e h'->s.heap.UpToSlots h'->Q () { s with heap:=h'}):wpAny M A (noteFrame (.ref e) env) Q E s:=by
 obtain⟨hk,hn,hl,oe,vs,T,oT,ts,ge,⟨hc,h0⟩,de,f1,nT,Te,gT,dT,f3⟩:=fl;obtain⟨o2,v2,g2,d2,k2,z2⟩:=h2;rw[ge]at g2;cases g2;rw[de]at d2;cases d2;cases hc;rw[noteFrame];simp only[hf];refine iX (wpAny_field ge de f1 ?_);rw[if_pos (by simp)]
 refine iX (wpAny_field gT dT f3 ?_);rw[if_neg (by simp[rawInt])]
 refine iX (wpAny_setField gT dT (Array.getElem?_eq_some_iff.mp f3).1 ?_);have up:=yh (Obj.mapFields (·.setIfInBounds 3 Value.none)) gT dT;have OE:=(Heap.get?_update_other s.heap (Obj.mapFields (·.setIfInBounds 3 Value.none)) Te).trans ge;exact Ff (s:={ s with heap:=s.heap.update T (Obj.mapFields (·.setIfInBounds 3 Value.none))}) hfr (lC hl up) hf OE (rC _ hk nT) hn de (Array.getElem?_eq_some_iff.mp f1).1 h0 k2 z2 fun h' x1 x2 x3=>q h' x1 x2 (up.trans x3)
theorem KL(x:Heap.FlyingW B (env::outer) e cls a0 s.heap):Heap.FlyingW B outer e cls a0 s.heap :=
 let⟨k1,k2,⟨_,_,k3⟩,k4⟩:=x
 ⟨k1,k2,k3,k4⟩
theorem leave_on2(hfr:A.frames=some (env::outer))(hf:env.frame=some L)(fl:Heap.FlyingW B (env::outer) e cls a0 s.heap)(h2:t8 od c e s.heap)
 (q:∀ h',Heap.FlyingW B outer e cls a0 h'->t8 od c e h'->s.heap.UpToSlots h'->Q () { s with heap:=h'}):wpAny M A (leaving env (.ref e)) Q E s:=by
 rw[leaving];refine iX (JC hfr hf fl h2 fun h' x1 x2 x3=>?_)
 obtain⟨y1,y2,y3,y4⟩:=x1;exact Fe (s:={ s with heap:=h'}) y1 y2 y3 y4 x2 fun h'' z1 z2 z3=>q h'' (KL (s:={ s with heap:=h''}) z1) z2 (x3.trans z3)
theorem leave_new{oe:Obj}{vs:Array Value}(hfr:A.frames=some (env::outer))(hf:env.frame=some L)(hk:B.StaysIn s.heap)(hn:B.get? e=none)(hl:s.heap.FunFrames B (env::outer))(ge:s.heap.get? e=some oe)(de:oe.data = .fields vs)
 (h0:vs[0]?=some a0) (h1:vs[1]?=some .none) (h2:vs[2]?=some c) (hz2:oe.dict=od)
 (q:∀ h',Heap.FlyingW B outer e oe.cls a0 h'->t8 od c e h'->s.heap.UpToSlots h'->Q () { s with heap:=h'}):wpAny M A (leaving env (.ref e)) Q E s:=by
 rw[leaving,noteFrame];simp only[hf];refine iX (iX (wpAny_field ge de h1 ?_));rw[if_neg (by decide)]
 refine Ff (a0:=a0) hfr hl hf ge hk hn de (Array.getElem?_eq_some_iff.mp h1).1 h0 h2 hz2 fun h' x1 x2 x3=>?_
 obtain⟨y1,y2,y3,y4⟩:=x1;exact Fe (s:={ s with heap:=h'}) y1 y2 y3 y4 x2 fun h'' z1 z2 z3=>q h'' (KL (s:={ s with heap:=h''}) z1) z2 (x3.trans z3)
end
section
variable {P:Program}{w:World}{H H0 H1:Hp}{h h0 h1 h2:Heap}{a:Addr}{o:HO}{fs:List Addr}{B:Heap}
theorem gw.thing(x:gw P w H h a o):∃ ob,h.get? a=some ob:=by
 cases o with
 | lst xs=>obtain⟨_,_,_,_,e⟩:=x;exact⟨_,e⟩
 | tup xs=>obtain⟨_,_,_,ob,e,_⟩:=x;exact⟨ob,e⟩
 | dK kvs=>obtain⟨_,_,_,_,ob,_,_,e,_⟩:=x;exact⟨ob,e⟩
 | dT kvs=>obtain⟨_,_,_,_,ob,_,_,e,_⟩:=x;exact⟨ob,e⟩
 | set S n=>obtain⟨ob,_,_,_,e,_⟩:=x;exact⟨ob,e⟩
 | ins C dx fs=>obtain⟨_,_,_,e,_⟩:=x;exact⟨_,e⟩
 | own y=>exact x
 | xd fs=>obtain⟨_,⟨ob,_,_,e,_⟩,_⟩:=x;exact⟨ob,e⟩
 | Di lo hi=>obtain⟨_,_,_,e⟩:=x;exact⟨_,e⟩
 | EG ob u=>obtain⟨e,_⟩:=x;exact⟨_,e⟩
 | Jo ps=>obtain⟨_,e,_⟩:=x;exact⟨_,e⟩
 | met f y=>exact⟨_,(show h.get? a=some _ from x)⟩
 | ext φ=>obtain⟨_,e,_⟩:=x;exact e
def Hu(B:Heap)(fs:List Addr)(h0:Heap)(H:Hp)(h:Heap):Prop:=∀ b o,h.get? b=some o->(H b≠none\/∃ o',h0.get? b=some o')->b∉fs->B.get? b=some o
theorem Fg(un:Un fs [] H0 H1 h0 h1)(hok:rj P w H1 h1)(YJ:∀ b∈fs,H1 b=none)(fr:∀ b∈fs,∀ ob,h1.get? b=some ob->∀ vs,ob.data≠.fields vs)(AS:Hu B fs h0 H1 h1)
 (hB:B.StaysIn h2) (up:h1.UpToSlots h2):Un fs [] H0 H1 h0 h2/\rj P w H1 h2/\Hu B fs h0 H1 h2:=by
 have Ii:∀ b ob,h1.get? b=some ob->(H1 b≠none\/∃ o',h0.get? b=some o')->b∉fs->h2.get? b=some ob:=fun b ob e c n=>hB b ob (AS b ob e c n)
 have Jq:∀ b u,H1 b=some u->b∉fs:=fun b u e z=>by
  rw[YJ b z]at e;cases e
 refine⟨⟨fun b ob e n hb hx=>Ii b ob (un.keep b ob e n hb hx) (.inr ⟨ob,e⟩) hb,fun b ob e n hb hx=>?_,un.free,fun b ob e hx=>?_,un.tups,un.rm,un.sO⟩,fun b u e=>?_,fun b ob e c n=>?_⟩
 ·obtain⟨sl,q⟩:=un.slot b ob e n hb hx;obtain⟨Kh,q'⟩:=up b _ q (fr b hb _ q);exact⟨Kh,q'⟩
 ·obtain⟨o',q⟩:=un.there b ob e hx
  by_cases hb:b∈fs
  ·obtain⟨Kh,q'⟩:=up b _ q (fr b hb _ q);exact⟨_,q'⟩
  ·exact⟨o',Ii b o' q (.inr ⟨ob,e⟩) hb⟩
 ·refine(hok b u e).stay (fun c v hc q=>?_) (fun _ q=>q) fun _ _ q=>q
  have hct:∃ z,H1 c=some z:=by
   rcases hc with hc|hc
   ·rw[hc];exact⟨u,e⟩
   ·exact⟨_,hc⟩
  obtain⟨z,hz⟩:=hct;exact Ii c v q (.inl (by rw[hz];simp)) (Jq c z hz)
 ·have ht:∃ o1,h1.get? b=some o1:=by
   rcases c with c|⟨o',c⟩
   ·cases hz:H1 b with
    | none=>exact absurd hz c
    | some z=>exact(hok b z hz).thing
   ·exact un.there b o' c (by simp)
  obtain⟨o1,q⟩:=ht;have q2:=AS b o1 q c n;have q3:=hB b o1 q2;rw[e]at q3;rw[Option.some.inj q3];exact q2
end
def Qt(ea:Addr)(cls:Value):HO:=.ext fun h=>∃ oe vs,h.get? ea=some oe/\oe.cls=cls/\oe.data = .fields vs/\vs[2]?=some .none
def Ij(E:XK)(cls:Value)(od:Option Addr)(c:Value)(H:Hp):Prop:=(c = .none/\(∃ C0:Addr,cls = .ref C0)/\E cls od H)\/∃ C e' C',cls = .ref C/\od=none/\c = .ref e'/\H e' = some (Qt e' C')/\E (.int (C:Int) e') none H
def jZ(P:Program)(w:World):EY:=fun outer H s E e s'=>∃(ea:Addr) (cls a0:Value) (od:Option Addr) (c:Value) (H' : Hp) (B:Heap),e = .ref ea/\s'.os=s.os/\AllBare s'.gens/\Un (frs outer) [] H H' s.heap s'.heap/\rj P w H' s'.heap/\H' ea=none/\
 Hu B (frs outer) s.heap H' s'.heap/\Heap.FlyingW B outer ea cls a0 s'.heap/\t8 od c ea s'.heap/\Ij E cls od c H'
structure Out(X:Cx)(E:XK):Prop where
 AR:X.stack=X.env::X.outer
 fr:X.env.frame=some X.env.locals
 ex:X.ex=[]
 xe:∀ e s',wpAny (model X.prog X.w) X.A (leaving X.env e) (fun _ s''=>jZ X.prog X.w X.outer X.H₀ X.s₀ E e s'') (fun e' s''=>jZ X.prog X.w X.outer X.H₀ X.s₀ E e' s'') s'->X.xe e s'
def WU(X:Cx)(E:XK):Prop:=∀(pq:br) (σ:St) (H:Hp) (s:Shared) (h1:Heap) (ea C0:Addr) (vs:List Value),Inv X pq σ H s->Heap.MadeExcOf s.heap h1 ea (.ref C0) vs->E (.ref C0) none H->X.xe (.ref ea) { s with heap:=h1}
section
variable {X:Cx}{E:XK}{pq:br}{σ:St}{H:Hp}{s:Shared}
theorem Inv.Fi(I:Inv X pq σ H s):∀ b∈frs X.stack,∀ ob,s.heap.get? b=some ob->∀ vs,ob.data≠.fields vs:=fun b hb ob e=>by
 obtain⟨_,o,ho,hnf⟩:=I.stack.mem hb;rw[e]at ho;cases ho;exact hnf
theorem Inv.KN(I:Inv X pq σ H s):∀ b∈X.fs,∀ ob,s.heap.get? b=some ob->∀ vs,ob.data≠.fields vs:=fun b hb ob e=>by
 obtain⟨_,o,ho,hnf⟩:=I.funs.mem hb;rw[e]at ho;cases ho;exact hnf
theorem Inv.KO(I:Inv X pq σ H s)(hx:X.ex=[]):∀ b∈X.fs,H b=none:=fun b hb=>by
 obtain⟨_,o,ho,_⟩:=I.ok.funs.mem hb;exact I.base.free b o ho (I.ok.Jr b hb) (by rw[hx];simp)
theorem Hu.outer{B h0:Heap}{h:Heap}(I:Inv X pq σ H s)(AS:Hu B (frs X.stack) h0 H h)(k:∀ b o,X.s₀.heap.get? b=some o->∃ o',h0.get? b=some o'):Hu B X.fs X.s₀.heap H h:=fun b o e c n=>by
 refine AS b o e (c.imp id fun⟨o',q⟩=>k b o' q) fun z=>?_
 rcases List.mem_cons.mp (I.lg b z) with q|q
 ·subst q;rcases c with c|⟨o',c⟩
  ·exact c I.free
  ·exact absurd (Nat.lt_of_lt_of_le (Heap.lt_size c) I.ok.above) (Nat.lt_irrefl _)
 ·exact n q
theorem yi(O:Out X E)(I:Inv X pq σ H s){B:Heap}{ea:Addr}{cls a0:Value}{od:Option Addr}{c:Value}{h2:Heap}(AS:Hu B X.fs X.s₀.heap H s.heap)(fl:Heap.FlyingW B X.outer ea cls a0 h2)(sc:t8 od c ea h2)(up:s.heap.UpToSlots h2)(hn:H ea=none)(q:Ij E cls od c H):
 jZ X.prog X.w X.outer X.H₀ X.s₀ E (.ref ea) { s with heap:=h2}:=by
 have un:Un X.fs [] X.H₀ H X.s₀.heap s.heap:=by
  have u:=I.base;rw[O.ex]at u;exact u
 obtain⟨u2,YK,c2⟩:=Fg un I.hok (I.KO O.ex) I.KN AS fl.1 up;exact⟨ea,cls,a0,od,c,H,B,rfl,I.os,I.bare,u2,YK,hn,c2,fl,sc,q⟩
theorem Out.Qu(O:Out X E){ea:Addr}{oe:Obj}{vs:Array Value}{a0 c:Value}(I:Inv X pq σ H s)(ge:s.heap.get? ea=some oe)(de:oe.data = .fields vs)(h0:vs[0]?=some a0)(h1:vs[1]?=some .none)(h2:vs[2]?=some c)
 (hn:H ea=none) (new:X.s₀.heap.get? ea=none) (q:Ij E oe.cls oe.dict c H):X.xe (.ref ea) s:=by
 refine O.xe _ _ ?_;have hfr:X.A.frames=some (X.env::X.outer):=by rw[I.ok.frames,O.AR]
 have hl:s.heap.FunFrames (PySem.W.hideAll s.heap (ea::frs X.stack)) (X.env::X.outer):=by
  have z:=PySem.W.funFrames_hide (as:=ea::frs X.stack) I.stack fun env he b hb=>vz _ (List.mem_filterMap.mpr ⟨env,he,hb⟩)
  rw[O.AR]at z ⊢;exact z
 refine leave_new hfr O.fr (fun b o e=>PySem.W.of_hideAll _ e) (PySem.W.hideAll_none _ (List.mem_cons_self ..)) hl ge de h0 h1 h2 rfl fun h3 fl sc up=>?_
 refine yi O I (Hu.outer I (h0:=X.s₀.heap) (fun b o e c n=>?_) fun b o e=>⟨o,e⟩) fl sc up hn q
 refine PySem.W.hideAll_get _ e fun z=>?_
 rcases List.mem_cons.mp z with z|z
 ·subst z;rcases c with c|⟨o',c⟩
  ·exact c hn
  ·rw[new]at c;cases c
 ·exact n z
theorem Out.Qv(O:Out X E){ea:Addr}{oe:Obj}{vs:Array Value}{a0:Value}(I:Inv X pq σ H s)(ge:s.heap.get? ea=some oe)(de:oe.data = .fields vs)(h0:vs[0]?=some a0)(h1:vs[1]?=some .none)(h2:vs[2]?=some .none)
 (hn:H ea=none) (new:X.s₀.heap.get? ea=none) (hcl:∃ C0:Addr,oe.cls = .ref C0) (q:E oe.cls oe.dict H):X.xe (.ref ea) s:=O.Qu I ge de h0 h1 h2 hn new (.inl ⟨rfl,hcl,q⟩)
theorem Out.MG(O:Out X E):WU X E:=by
 intro pq σ H s h1 ea C0 vs I mk q;have I1:Inv X pq σ H { s with heap:=h1}:=I.kept (t':=s.toks) mk.keeps
 have hn:H ea=none:=by
  cases hz:H ea with
  | none=>rfl
  | some z =>
    obtain⟨ob,e⟩:=(I.hok ea z hz).thing;rw[mk.new]at e;cases e
 obtain⟨t,ge,_,_⟩:=mk.there;refine O.Qv I1 (a0:=.ref t) ge rfl rfl rfl rfl hn ?_ ⟨_,rfl⟩ q;cases hz:X.s₀.heap.get? ea with
 | none=>rfl
 | some o =>
   obtain⟨o',e⟩:=I.base.there ea o hz (by rw[O.ex];simp)
   rw[mk.new]at e;cases e
theorem Inv.JD{H' : Hp}{s' : Shared}(I:Inv X pq σ H s)(os:s'.os=s.os)(bare:AllBare s'.gens)(un:Un (frs X.stack) [] H H' s.heap s'.heap)(hok:rj X.prog X.w H' s'.heap):Inv X pq σ H' s' :=
 I.BY (ch:=[]) os un hok bare fun b z=>absurd z (by simp)
theorem Out.passes(O:Out X E):Passes (jZ X.prog X.w) X E:=by
 intro pq σ H s e s' I q;obtain⟨ea,cls,a0,od,c,H',B,rfl,os,bare,un,hok,hn,AS,fl,sc,qE⟩:=q;have I1:=I.JD os bare un hok;refine O.xe _ _ ?_;have hfr:X.A.frames=some (X.env::X.outer):=by rw[I.ok.frames,O.AR]
 rw[O.AR]at fl;refine leave_on2 hfr O.fr fl sc fun h2 YL OG up=>?_
 exact yi O I1 (Hu.outer I1 AS fun b o e=>I.base.there b o e (by rw[O.ex];simp)) YL OG up hn qE
end
theorem ef{P:Program}{w:World}{K:bY}{mg:jY}{base:Heap}{N:List Str}{qual:Str}{scope:Scope}{f:Addr}{cd:Value}{A:Around}{outer:List Env}{s:Shared}{H:Hp}{E:XK}:
 Out (zp (jZ P w) P w K mg base N qual scope f cd A outer s H E) E:=⟨rfl,rfl,rfl,fun _ _ h=>h⟩
theorem iE.Cj{P:Program}{w:World}{K:bY}{mg:jY}{base:Heap}{x qual:Str}{st:Stmt}{f:Addr}{fd:FuncData}{N ps:List Str}{k:Nat}{sp:Sp}(F:iE K x qual st f fd)(S:aI N ps (ae st))
 (len:∀ vs H Q E,sp vs H Q E->vs.length=ps.length)
 (hbody:∀(cdv:Value) (A:Around) (outer:List Env) (s:Shared) (H:Hp) (vs:List V) (Q:VK) (E:XK),mC k (A.deeper (envOfC qual (ae st) s.heap.objs.size f cdv))->sp vs H Q E->
  ∃ t,AW (zp (jZ P w) P w K mg base N qual (ae st) f cdv A outer s H E) (aF st) t/\t { nx:=fun _ H'=>Q .iC H',rt:=Q} (start N vs) H):aL P w K mg base (jZ P w) (k+1) f fd ps sp:=by
 obtain⟨oc,od,kV,doc,pm,an,cdv,ct,osl,rfl,lk,hcd⟩:=F.ex;exact Jx lk hcd S len fun A outer s H vs Q E hr B8=>hbody cdv A outer s H vs Q E hr B8
section
variable {X:Cx}{E:XK}
def KP(C:Addr)(E:XK)(t:TA):TS:=fun _ σ H=>t σ H fun vs H1=>vs.length<=sizeLine/\E (.ref C) none H1
theorem mS{x:Str}{C:Addr}{bm:List Value}{B newId initId:String}{e:Expr}{es:List Expr}{ta:TA}{np cpos pos:Pos}(th:WU X E)(hc:X.calm=true)(hg:Gl X x)(O:∀ h,X.K.In h->h.Ns mainGlobals X.mg->OwnCls x C bm newId X.mg h)
 (FB:ExcBaseFacts B newId initId bm) (ha:PA X (e::es) ta) (he:starEach (e::es) X.env=(false,eval e X.env)::starEach es X.env:=by rfl) (hpl:(backTo cpos (starEach es X.env)).any (·.1)=false:=by rfl)
 (hd:(x==("__debug__":Str))=false:=by decide):PS X (.Raise (some (.Call (.Name x np) (e::es) [] cpos)) none pos) (KP C E ta):=by
 intro pq s σ H D I h;have OC:=O _ I.mod.Ot I.mod.glob;obtain⟨tl,N,nm,q,bs,hdct,sn,sub,ab,col,dd,k0,k1,k2,k3,k5,mN,hC,hN,hni,T⟩:=OC.obj;refine wpAny_Raise_call_subT (C:=C) (nm:=nm) (q:=q) (N:=N) (bs:=bs) (bm:=tl) (hdct:=hdct) (sn:=sn) (sub:=sub) (ab:=ab) (col:=col) (dd:=dd) (k0:=k0) (k1:=k1) (k2:=k2) (k3:=k3) (k5:=k5)
  FB (mN:=mN) (T.hasType FB.hasBase) (I.ok.hd hc) (by rw[he];show(false || (backTo cpos (starEach es X.env)).any (·.1))=false;rw[hpl];rfl) hni (xU I hg OC.bound ⟨rfl,?_⟩ hd)
 have hA:=ha cpos pq s σ H _ I h;rw[he]at hA ⊢;refine Calls.evalArgs_plain (wpAny_mono hA (fun us s1 ⟨vs,H1,I1,r1,z,q1⟩=>?_) fun _ _ y=>y)
 exact⟨rfl,by rw[<-r1.length];exact z,I1.bk _ _ hC,hN.keeps I1.bk,T.keeps I1.bk,fun h' ea hm=>th pq σ H1 s1 h' ea _ us I1 hm q1⟩
end
open PySem PySem.Spec PySem.Calls PyProof.Rows PySem.W PySem.Builtin PySem.Builtin.ObjectAttr PySem.Builtin.Getset_descriptor
section
variable {X:Cx}
theorem pV:mO X (binaryOp .Mult) (rI IntMulOk fun i j=>.int (i*j)):=Jv fun _ _ _ _ _ _ _ hc q=>mul_int q hc
theorem mulOk_of{i j:Int}(hi:i.natAbs<2^1000)(hj:j.natAbs<2^1000):IntMulOk i j:=by
 have bits:∀ k:Int,k.natAbs<2^1000->Builtin.Int.intBits k<=2^20:=fun k hk=>by
  unfold Builtin.Int.intBits
  by_cases h0:k.natAbs=0
  ·simp only[h0]
   split<;>decide
  ·have h1:k.natAbs.log2<1000:=(Nat.log2_lt h0).mpr hk
   split<;>lia
 exact IntMulOk.of_bits (bits i hi) (bits j hj)
def MH(K:bY):V->V->Hp->VK->Prop:=fun o i H Q=>∃ p xs j v,o = .ref p/\i = .int ((j:Nat):Int)/\aW K H p xs/\xs[j]?=some v/\Q v H
theorem getL(K:bY)(hK:X.K=K:=by rfl):L6 X (MH K):=by
 subst hK;intro pq s σ H o i ov iv Q I ro ri h;obtain⟨p,xs,j,v,rfl,rfl,hq,e,q⟩:=h;cases ro;obtain⟨t,rfl⟩:=ri;obtain⟨its,r,pl,hz⟩:=I.list hq;obtain⟨u,eu,ru⟩:=r.get e;have hj:j<xs.length:=(zj.mp e).1;have hn:=tU;exact wpAny_getItem_list pl.isList (by lia) (by lia) (by simpa using eu) ⟨v,H,I,ru,q⟩
end
section
variable {X:Cx}{tg:Expr}
theorem pW{iter:Expr}{body:List Stmt}{wi:TI}{g:TG}{tb:TS}{pos:Pos}(hc:X.calm=true)(hi:PI X tg iter wi)(hg:PG X.EB tg g)(hb:AW X.EB body tb)(hs:∀ x,foldedSetIterable iter X.env x=pure x:=by intro _;rfl):
 PS X (.For tg iter body [] pos) (d9 wi g tb):=by
 intro pq s σ H D I h;refine wpAny_For (fh (hi pq s σ H _ I h) fun v s1 h1=>fh h1 fun itv s2 h2=>?_) hs
 obtain⟨it,fp,tn,J,H2,e,I2,T,st2,f2,W,⟨m0,w0⟩,turn⟩:=h2;subst e;have A7:∀{H' : Hp},(∀ b∈fp,H' b=none)->∀ b∈fp,jA X.EB pq H' b:=fun hn b hb=>⟨hn b hb,(f2 b hb).2⟩
 refine codeAny_forLoop_any (fun n s'=>∃ i σ' H',Inv X.EB pq σ' H' s'/\tn i s'.heap/\(∀ b∈fp,H' b=none)/\W i n σ' H') ?_ m0 ⟨0,σ,H2,I2.tQ _,st2,fun b hb=>(f2 b hb).1,w0⟩
 rintro n s3 ⟨i,σ3,H3,I3,st3,B3,w3⟩;rcases turn i n σ3 H3 w3 with⟨stop,qn⟩|⟨go,N,hN,step⟩
 ·refine wpAny_mono (T.done X.EB rfl rfl rfl hc i pq s3 σ3 H3 (fun _ _=>False) I3 (A7 B3) st3 stop) (fun r s4 ⟨hr,I4⟩=>?_) fun _ _ z=>z.elim
  subst hr;exact wpAny_execs_nil ⟨σ3,H3,I4.jd,qn⟩
 ·refine wpAny_mono (T.item X.EB rfl rfl rfl hc i pq s3 σ3 H3 (fun _ _=>False) I3 (A7 B3) st3 go) (fun r s4 ⟨u,hr,h4⟩=>?_) fun _ _ z=>z.elim
  subst hr;refine wpAny_mono h4 (fun _ s5 ⟨x,H5,I5,r5,y5,xX,HL⟩=>?_) fun _ _ z=>z.elim
  have HM:=I5.pinned (A7 HL) (T.obj _ _ xX);refine wpAny_mono (hg _ s5 σ3 H5 x u _ HM r5 (step x H5 y5)) (fun _ s6 ⟨σ6,H6,I6,q6⟩=>?_) fun _ _ z=>z.elim
  refine wpAny_mono (hb _ s6 σ6 H6 _ I6 q6) (fun f s7 q7=>?_) fun _ _ z=>z.elim
  have again:∀{σ7:St} {H7:Hp},Inv X.EB (pq++mL fp s5.heap) σ7 H7 s7->N σ7 H7->∃ m,m<n/\∃ i σ' H',Inv X.EB pq σ' H' s7/\tn i s7.heap/\(∀ b∈fp,H' b=none)/\W i m σ' H':=fun {σ7 H7} I7 n7=>by
   obtain⟨m',hm,w7⟩:=hN σ7 H7 n7;refine⟨m',hm,i+1,σ7,H7,I7.ic,T.keep _ _ _ xX fun b hb o e=>(I7.pin (b,o) (pO _ (pO _ (cV hb e)))).1,fun b hb=>?_,w7⟩
   obtain⟨o,e,d⟩:=T.obj _ _ xX b hb;exact(I7.pin (b,o) (pO _ (pO _ (cV hb e)))).2.1
  cases f with
  | next=>obtain⟨σ7,H7,I7,n7⟩:=q7;exact again I7 n7
  | cont=>obtain⟨σ7,H7,I7,n7⟩:=q7;exact again I7 n7
  | brk=>obtain⟨σ7,H7,I7,q7⟩:=q7;exact⟨σ7,H7,I7.ic.jd,q7⟩
  | ret v=>obtain⟨x7,σ7,H7,I7,r7,q7⟩:=q7;exact⟨x7,σ7,H7,I7.ic.jd,r7,q7⟩
theorem se{P:Program}{w:World}{X:Cx}:Passes (jZ P w) X (fun _ _ _=>False):=by
 intro pq σ H s e s' I q;obtain⟨_,_,_,_,_,_,_,_,_,_,_,_,_,_,_,_,z⟩:=q;rcases z with⟨_,_,z⟩|⟨_,_,_,_,_,_,_,z⟩
 ·exact z.elim
 ·exact z.elim
end
theorem ua{K:bY}{h:Heap}{mg:jY}{x:Str}{C:Addr}{bmB:List Value}{newId:String}(X:K.In h)(G:h.Ns mainGlobals mg)(e:PySem.W.nsIn K mainGlobals x=some (some (.ref C)))(q:PySem.W.excIn K C bmB newId=true):
 OwnCls x C bmB newId mg h:=by
 refine⟨PySem.W.mg_of X G e,?_⟩;unfold PySem.W.excIn at q
 split at q
 ·rename_i od cd sl look
  split at q
  ·rename_i Cx bm j0 j1 j2 j3 nw j5 hmro hsl
   simp only[Bool.and_eq_true,beq_iff_eq,Bool.not_eq_true']at q;obtain⟨⟨⟨⟨⟨rfl,rfl⟩,MI⟩,ht⟩,hok⟩,hni⟩:=q;obtain⟨nm,bs,mro,ns,qn,hd,sn,sub,ab,col,del⟩:=cd
   (dsimp only at hmro MI hok hni;subst hmro MI)
   have hs2:sl = #[j0,j1,j2,j3,some (.builtin nw),j5]:=by
    obtain⟨l⟩:=sl;simp only at hsl;rw[hsl]
   subst hs2;exact⟨bm,ns,nm,qn,bs,hd,sn,sub,ab,col,od,j0,j1,j2,j3,j5,_,X _ _ look,.of_isNs (PySem.W.isNs_of_in X hok),PySem.W.nsMap_none_of_in X hok hni,PySem.W.tail_of_in X ht⟩
  ·cases q
 ·cases q
theorem o4{α:Type}:∀ us:List α,us.length=1->∃ a,us=[a]
 | [_],_=>⟨_,rfl⟩
theorem j9{α:Type}:∀ us:List α,us.length=2->∃ a b,us=[a,b]
 | [_,_],_=>⟨_,_,rfl⟩
theorem zG{α:Type}:∀ us:List α,us.length=3->∃ a b c,us=[a,b,c]
 | [_,_,_],_=>⟨_,_,_,rfl⟩
theorem Qw{α:Type}:∀ us:List α,us.length=4->∃ a b c d,us=[a,b,c,d]
 | [_,_,_,_],_=>⟨_,_,_,_,rfl⟩
section
variable {X:Cx}{pq:br}{σ:St}{H:Hp}{s:Shared}{h' : Heap}
theorem Inv.yields{t' : Nat}{wr:List Addr}{T:Addr}{o:HO}(I:Inv X pq σ H s)(k:∀ b u,b∉wr->s.heap.get? b=some u->h'.get? b=some u)(hf:∀ b∈wr,jA X pq H b)(hT:s.heap.objs.size<=T)
 (new:gw X.prog X.w (upd H T o) h' T o):Inv X pq σ (upd H T o) { s with heap:=h',toks:=t'}:=by
 have OH:H T=none:=I.hok.fresh hT;have nT:∀ b u,H b=some u->b≠T:=fun b u e=>aY e OH
 have nw:∀ b u,H b=some u->b∉wr:=fun b u e hb=>by rw[(hf b hb).1]at e;cases e
 refine I.step (g':=s.gens) (d':=s.drawn) (ch:=wr) (fun b hb=>?_) (fun b o _ _ hc e _=>k b o hc e) (fun b o _ _ hc e _=>⟨o.slots,k b o hc e⟩) (fun b u hc e n=>?_)
  (fun b o hc e=>⟨o,k b o hc e⟩) (fun b xs e=>?_) (fun b ob xs e=>?_) (fun b ps e=>⟨#[],?_⟩) (fun m hm=>?_) (fun b u e=>?_) I.bare
 ·obtain⟨_,f1,_,f3,f4,f5⟩:=hf b hb;exact⟨f3,f1,f4,f5⟩
 ·rw[aT (Nat.ne_of_lt (Nat.lt_of_lt_of_le (Heap.lt_size e) hT))];exact n
 ·rw[aT (nT b _ e)];exact e
 ·rw[aT (nT b _ e)];exact e
 ·rw[aT (nT b _ e),e];simp
 ·obtain⟨o,es,ep,ho,r⟩:=hm;exact⟨o,es,ep,k _ o (fun hb=>(hf _ hb).2.1 rfl) ho,r⟩
 ·by_cases hb:b=T
  ·subst hb;rw[aj]at e;cases e;exact new
  ·rw[aT hb]at e;refine(I.hok b u e).stay (fun c v hc q=>k c v ?_ q) (fun c q=>by rw[aT (nT c _ q)];exact q) fun c xs q=>by rw[aT (nT c _ q)];exact q
   rcases hc with z|z
   ·rw[z];exact nw b u e
   ·exact nw c _ z
theorem Inv.Ik{t' : Nat}{wr:List Addr}(I:Inv X pq σ H s)(k:∀ b u,b∉wr->s.heap.get? b=some u->h'.get? b=some u)(hf:∀ b∈wr,jA X pq H b):Inv X pq σ H { s with heap:=h',toks:=t'}:=by
 have nw:∀ b u,H b=some u->b∉wr:=fun b u e hb=>by rw[(hf b hb).1]at e;cases e
 refine I.step (g':=s.gens) (d':=s.drawn) (ch:=wr) (fun b hb=>?_) (fun b o _ _ hc e _=>k b o hc e) (fun b o _ _ hc e _=>⟨o.slots,k b o hc e⟩) (fun _ _ _ _ n=>n)
  (fun b o hc e=>⟨o,k b o hc e⟩) (fun _ _ e=>e) (fun _ _ _ e=>e) (fun b ps e=>⟨#[],by rw[e];simp⟩) (fun m hm=>?_) (fun b u e=>?_) I.bare
 ·obtain⟨_,f1,_,f3,f4,f5⟩:=hf b hb;exact⟨f3,f1,f4,f5⟩
 ·obtain⟨o,es,ep,ho,r⟩:=hm;exact⟨o,es,ep,k _ o (fun hb=>(hf _ hb).2.1 rfl) ho,r⟩
 ·refine(I.hok b u e).stay (fun c v hc q=>k c v ?_ q) (fun _ q=>q) fun _ _ q=>q
  rcases hc with z|z
  ·rw[z];exact nw b u e
  ·exact nw c _ z
end
def Qx(K:bY)(a b:Addr):It :=
 ⟨fun i H=>∃ xs ys x y,aW K H a xs/\aW K H b ys/\xs[i]?=some x/\ys[i]?=some y,
  fun i H v H'=>∃ T x y,v = .ref T/\H T=none/\H' = upd H T (.tup [x,y])/\(∀ xs,aW K H a xs->xs[i]?=some x)/\∀ ys,aW K H b ys->ys[i]?=some y,
  fun i H=>∃ xs ys,aW K H a xs/\aW K H b ys/\(xs.length<=i\/ys.length<=i)⟩
theorem Fj{P:Program}{w:World}{K:bY}{elts:List Expr}{k:Nat}{pos:Pos}(a b z TI TO i1 i2:Addr)(D:ZipApart z TI TO i1 i2 a b):
 Turn P w K (.Tuple elts k pos) (Qx K a b) [z,TI,TO,i1,i2] z (fun i h=>IsZip h z TI TO .none/\IsPair h TI (.ref i1) (.ref i2)/\(∃ u v,IsPair h TO u v)/\h.IsListIter i1 a i/\h.IsListIter i2 b i) where
 mem:=by simp
 obj:=fun i h st c hc=>by
  obtain⟨hz,hI,⟨u,v,hO⟩,⟨o1,YM,_,d1⟩,o2,ho2,_,d2⟩:=st;have hc' : c=z\/c=TI\/c=TO\/c=i1\/c=i2:=by simpa using hc
  rcases hc' with rfl|rfl|rfl|rfl|rfl
  ·exact⟨_,hz,fun v z=>by cases z⟩
  ·exact⟨_,hI,fun v z=>by cases z⟩
  ·exact⟨_,hO,fun v z=>by cases z⟩
  ·exact⟨o1,YM,fun v z=>by rw[d1]at z;cases z⟩
  ·exact⟨o2,ho2,fun v z=>by rw[d2]at z;cases z⟩
 keep:=fun i h h' st k=>by
  obtain⟨hz,hI,⟨u,v,hO⟩,h1,h2⟩:=st;exact⟨k z (by simp) _ hz,k TI (by simp) _ hI,⟨u,v,k TO (by simp) _ hO⟩,h1.at fun o e=>k i1 (by simp) o e,h2.at fun o e=>k i2 (by simp) o e⟩
 item:=by
  intro X hP hw hK hc i pq s σ H E I hf st hg;subst hP hw hK;obtain⟨xs,ys,x,y,hq,hq2,hx,hy⟩:=hg;obtain⟨its,rv,p,YN⟩:=I.list hq;obtain⟨its2,OI,p2,Qy⟩:=I.list hq2;obtain⟨u,hu,ru⟩:=rv.get hx;obtain⟨u2,Lz,YO⟩:=OI.get hy;obtain⟨hz,hI,⟨v1,v2,hO⟩,h1,h2⟩:=st;refine wpAny_pyNext_zip_item D hz hI hO h1 h2 p.isList p2.isList (x:=u) (y:=u2) (by simpa using hu) (by simpa using Lz) fun h3 YQ YR Qz QA hT hsz hk=>?_
  refine⟨_,rfl,wpAny_letOwnedTupleGo_zip YQ fun h4 YS LA=>?_⟩
  have lt:∀{c o},s.heap.get? c=some o->s.heap.objs.size≠c:=fun e=>Nat.ne_of_gt (Heap.lt_size e)
  have Fl:h4.get? s.heap.objs.size=some { cls:=.type "tuple",data:=.seq #[u,u2]}:=(LA.2 _ (lt hz)).trans hT;have kk:∀ c o,c∉[z,TO,i1,i2]->s.heap.get? c=some o->h4.get? c=some o:=fun c o hc q=>by
   have c1:c≠z:=fun e=>hc (by simp[e])
   exact(LA.2 c c1).trans (hk c o c1 (fun e=>hc (by simp[e])) (fun e=>hc (by simp[e])) (fun e=>hc (by simp[e])) q)
  have hsub:∀ c∈[z,TO,i1,i2],c∈[z,TI,TO,i1,i2]:=fun c hc=>by
   have hc' : c=z\/c=TO\/c=i1\/c=i2:=by simpa using hc
   rcases hc' with rfl|rfl|rfl|rfl<;>simp
  refine⟨.ref s.heap.objs.size,upd H s.heap.objs.size (.tup [x,y]),I.yields (wr:=[z,TO,i1,i2]) (t':=s.toks) kk (fun c hc=>hf c (hsub c hc)) (Nat.le_refl _) ?_,rfl,
   ⟨_,x,y,rfl,I.fresh,rfl,fun zs hy=>by rw[I.tP hy hq];exact hx,fun zs hz=>by rw[I.tP hz hq2];exact hy⟩,⟨YS,(LA.2 _ D.TIz).trans (hk _ _ D.TIz D.TITO D.TIi1 D.TIi2 hI),⟨u,u2,(LA.2 _ D.TOz).trans YR⟩,?_,?_⟩,fun c hc=>?_⟩
  ·exact⟨dl rfl,[u,u2],.cons ru (.cons YO .nil),⟨_,Fl,rfl,_,rfl⟩⟩
  ·exact Qz.at fun o q=>(LA.2 _ D.i1z).trans q
  ·exact QA.at fun o q=>(LA.2 _ D.i2z).trans q
  ·rw[aT]
   ·exact(hf c hc).1
   ·have hc' : c=z\/c=TI\/c=TO\/c=i1\/c=i2:=by simpa using hc
    rcases hc' with rfl|rfl|rfl|rfl|rfl
    ·exact Ne.symm (lt hz)
    ·exact Ne.symm (lt hI)
    ·exact Ne.symm (lt hO)
    ·obtain⟨o,q,_⟩:=h1;exact Ne.symm (lt q)
    ·obtain⟨o,q,_⟩:=h2;exact Ne.symm (lt q)
 done:=by
  intro X hP hw hK hc i pq s σ H E I hf st hg;subst hP hw hK;obtain⟨xs,ys,hq,hq2,hx⟩:=hg;obtain⟨its,rv,p,YN⟩:=I.list hq;obtain⟨its2,OI,p2,Qy⟩:=I.list hq2;obtain⟨hz,hI,⟨v1,v2,hO⟩,h1,h2⟩:=st;have hl:=rv.length;have hl2:=OI.length;have hsub:∀ c∈[z,TO,i1,i2],c∈[z,TI,TO,i1,i2]:=fun c hc=>by
   have hc' : c=z\/c=TO\/c=i1\/c=i2:=by simpa using hc
   rcases hc' with rfl|rfl|rfl|rfl<;>simp
  refine wpAny_pyNext_zip_end (I.ok.hd hc) D hz hI hO h1 h2 p.isList p2.isList (hx.imp (fun q=>by simp;lia) fun q=>by simp;lia) fun h' kk=>⟨rfl,I.Ik (wr:=[z,TO,i1,i2]) (t':=s.toks) (fun c o hc q=>?_) fun c hc=>hf c (hsub c hc)⟩
  exact kk c o (fun e=>hc (by simp[e])) (fun e=>hc (by simp[e])) (fun e=>hc (by simp[e])) (fun e=>hc (by simp[e])) q
 self:=fun _ _ _ _ _ st h=>wpAny_pyIter_zip st.1 h
theorem Dy{n a b:Nat}(la:a<n)(lb:b<n):ZipApart (n+4) (n+2) (n+3) n (n+1) a b:=by
 have k:∀{x y:Nat},x<y\/y<x->x≠y:=fun h=>by lia
 constructor<;>exact k (by lia)
section
variable {X:Cx}{elts:List Expr}{n:Nat}{tp:Pos}
def QB(K:bY)(ta:TA):TI:=fun σ H R=>ta σ H fun vs H1=>∃ a b,vs=[.ref a,.ref b]/\(∃ xs,aW K H1 a xs)/\(∃ ys,aW K H1 b ys)/\R (Qx K a b) H1
theorem yj(K:bY){a b:Expr}{ta:TA}{p pos:Pos}(hg:Gl X "zip")(hm:X.mg "zip"=none)(ha:PA X [a,b] ta)(hs:starEach [a,b] X.env=[(false,eval a X.env),(false,eval b X.env)]:=by rfl)(hs2:starEach [b] X.env=[(false,eval b X.env)]:=by rfl)(hK:X.K=K:=by rfl):
 PI X (.Tuple elts n tp) (.Call (.Name "zip" p) [a,b] [] pos) (QB K ta):=by
 subst hK;intro pq s σ H R I h;refine Call_ (tO I hg hm boot_zip (PyProof.Rows.callWith_type1 (fh (ha pos pq s σ H _ I h) fun us s1 ⟨vs,H1,I1,r1,q1⟩=>?_) (by rw[hs,hs2]) (by rw[hs2];rfl)))
 obtain⟨a,b,e,⟨xs,hq⟩,⟨ys,hq2⟩,q⟩:=q1;subst e;cases r1 with
 | cons r rr =>
   cases rr with
   | cons r' rr =>
     cases rr;cases r;cases r';obtain⟨its,rv,pl,hz⟩:=I1.list hq;obtain⟨its2,OI,WV,hz2⟩:=I1.list hq2;refine call_zip_2 pl.isList WV.isList fun h' WW hI hO h1 h2 hsz hk=>?_
     have I2:Inv X pq σ H1 { s1 with heap:=h'}:=I1.kept (t':=s1.toks) hk
     have la:a<s1.heap.objs.size:=by obtain⟨_,q,_⟩:=pl.isList;exact Heap.lt_size q
     have lb:b<s1.heap.objs.size:=by obtain⟨_,q,_⟩:=WV.isList;exact Heap.lt_size q
     refine wpAny_pyIter_zip WW ⟨_,[s1.heap.objs.size+4,s1.heap.objs.size+2,s1.heap.objs.size+3,s1.heap.objs.size,s1.heap.objs.size+1],_,_,H1,rfl,I2,
      Fj a b _ _ _ _ _ (Dy la lb),⟨WW,hI,⟨_,_,hO⟩,h1,h2⟩,fun c hc=>?_,q⟩
     have hc' : c=s1.heap.objs.size+4\/c=s1.heap.objs.size+2\/c=s1.heap.objs.size+3\/c=s1.heap.objs.size\/c=s1.heap.objs.size+1:=by simpa using hc
     have hcs:s1.heap.objs.size<=c:=by
      rcases hc' with rfl|rfl|rfl|rfl|rfl
      ·exact Nat.le_add_right _ _
      ·exact Nat.le_add_right _ _
      ·exact Nat.le_add_right _ _
      ·exact Nat.le_refl _
      ·exact Nat.le_add_right _ _
     exact I1.HH hcs (I1.hok.fresh hcs)
end
section
variable {K:bY}{a b:Addr}{xs ys:List V}{g:TG}{tt:TT}{te:TE}{n:Nat}{fr:St}{D:Addr}{Q:Hp->Prop}{H1:Hp}
theorem pX(hxy:xs.length=ys.length)(Pv:Nat->List V->Hp->Prop)(h0:Pv 0 [] H1)(hl:∀ i acc H,i<=xs.length->Pv i acc H->aW K H a xs/\aW K H b ys/\H D=some (.lst acc)/\acc.length<=i)(hz:xs.length<=sizeLine)
 (hs:∀ i x y T acc H,xs[i]?=some x->ys[i]?=some y->Pv i acc H->H T=none->g (.ref T) (List.replicate n none++fr) (upd H T (.tup [x,y])) fun σ2 H2=>σ2.drop n=fr/\tt σ2 H2 fun b H3 =>
  if b=true then te σ2 H3 fun v H4=>H4 D=some (.lst acc)/\Pv (i+1) (acc++[v]) (upd H4 D (.lst (acc++[v]))) else Pv (i+1) acc H3)
 (hd:∀ acc H,Pv xs.length acc H->Q H):ig (Qx K a b) g tt te n fr D Q H1:=by
 refine⟨fun i m acc H=>m=xs.length-i/\i<=xs.length/\Pv i acc H,⟨xs.length,by simp,Nat.zero_le _,h0⟩,?_⟩
 rintro i m acc H ⟨rfl,hi,p⟩;obtain⟨q,q2,hD,ha⟩:=hl i acc H hi p;refine⟨hD,?_⟩
 by_cases hlt:i<xs.length
 ·have QC:i<ys.length:=by lia
  refine .inr ⟨⟨xs,ys,xs[i],ys[i],q,q2,by simp[hlt],by simp[QC]⟩,by lia,Pv (i+1),fun acc' H' p'=>⟨xs.length-(i+1),by lia,rfl,hlt,p'⟩,fun v H' y=>?_⟩
  obtain⟨T,x,z,rfl,hT,rfl,y1,y2⟩:=y;exact hs i x z T acc _ (y1 xs q) (y2 ys q2) p hT
 ·have e:i=xs.length:=by lia
  subst e;exact .inl ⟨⟨xs,ys,q,q2,.inl (Nat.le_refl _)⟩,hd acc H p⟩
end
section
variable {X:Cx}
theorem zH:jC X (.type "range") (fun xs H Q=>∃ j:Int,xs=[.int j]/\∀ p,H p=none->Q (.ref p) (upd H p (.Di 0 j))):=by
 intro pq s σ H xs us Q I r h;obtain⟨j,rfl,q⟩:=h;obtain⟨u,rfl,t,rfl⟩:=vals1 r;refine call_range_1 ⟨.ref s.heap.objs.size,_,I.laid (t':=s.toks+1+1) (fun b o e=>Heap.get?_push_of_some _ e) (Nat.le_refl _) ?_,rfl,q _ I.fresh⟩
 exact⟨_,_,_,Heap.get?_push_size _ rfl⟩
def vE(n:Nat):List V:=(List.range n).map fun i=>V.int ((i:Nat):Int)
theorem JE(hc:X.calm=true):jC X (.type "list") (fun xs H Q=>∃ p,∃ n:Nat,xs=[.ref p]/\H p=some (.Di 0 (n:Int))/\n<=900/\∀ l,H l=none->Q (.ref l) (upd H l (.lst (vE n)))):=by
 intro pq s σ H xs us Q I r h;obtain⟨p,n,rfl,hp,hn,q⟩:=h;obtain⟨u,rfl,rx⟩:=vals1 r;cases rx;obtain⟨t,u,v,e⟩:=(show gw X.prog X.w H s.heap p (.Di 0 (n:Int)) from I.hok p _ hp)
 have hsz:Builtin.Range.rangeSize 0 (n:Int) 1=(n:Int):=by rw[rangeSize_one];split<;>lia
 refine call_list_range (I.ok.hd hc) e (small_one (by lia) (by lia) (by lia) (by lia)) hsz (Nat.le_trans hn (by decide)) fun h' tk acc c kp e' hacc=>?_
 refine⟨.ref s.heap.objs.size,_,I.laid (t':=tk) kp (Nat.le_refl _) ?_,rfl,q _ I.fresh⟩;have hl:acc.toList.length=n:=by rw[Array.length_toList];exact hacc.1
 have hz:(vE n).length<=sizeLine:=by
  unfold vE;rw[List.length_map,List.length_range];exact Nat.le_of_lt (gD (by lia))
 refine⟨hz,acc.toList,c,?_,by simpa using e'⟩
 have key:∀(ys:List Value) (k:Nat),(∀ j v,ys[j]?=some v->∃ t,v=Value.int (((k+j:Nat)):Int) t)->Vals ((List.range' k ys.length).map fun i=>V.int ((i:Nat):Int)) ys:=by
  intro ys
  induction ys with
  | nil=>intro k _;exact .nil
  | cons y r ih =>
    intro k hy;obtain⟨t,ht⟩:=hy 0 y rfl;refine .cons ⟨t,by simpa using ht⟩ (ih (k+1) fun j v hv=>?_)
    obtain⟨t',ht'⟩:=hy (j+1) v (by simpa using hv)
    exact⟨t',by rw[ht'];congr 2;lia⟩
 have z:=key acc.toList 0 fun j v hv=>by
  obtain⟨t,ht⟩:=hacc.2 j v (by simpa using hv)
  exact⟨t,by rw[ht];congr 1;lia⟩
 rw[hl]at z;unfold vE;rw[List.range_eq_range'];exact z
theorem sumK(K:bY)(hc:X.calm=true)(hK:X.K=K:=by rfl):jC X (.builtin "sum") (fun xs H Q=>∃(p:Addr) (ns:List Int),xs=[.ref p]/\aW K H p (ns.map V.int)/\Q (.int ns.sum) H):=by
 subst hK;intro pq s σ H xs us Q I r h;obtain⟨p,ns,rfl,hq,q⟩:=h;obtain⟨u,rfl,rx⟩:=vals1 r;cases rx;obtain⟨its,rv,pl,hz⟩:=I.list hq;have hi:∀{ns:List Int} {its:List Value},Vals (ns.map V.int) its->∃ xs:Array (Int×Tok),its.toArray=intItems xs/\xs.toList.map (·.1)=ns:=by
  intro ns
  induction ns with
  | nil=>intro its r;cases r;exact⟨#[],by simp[intItems],rfl⟩
  | cons a l ih =>
    intro its r;cases r with
    | cons r1 r2 =>
      obtain⟨t,rfl⟩:=r1;obtain⟨xs,h1,h2⟩:=ih r2;refine⟨#[(a,t)]++xs,?_,by simp[h2]⟩
      have MJ:=congrArg Array.toList h1;simp only[intItems,Array.toList_map,List.toList_toArray]at MJ;simp[intItems,MJ,Array.map_append]
 obtain⟨ar,e1,e2⟩:=hi rv;have hl:s.heap.IsList p (intItems ar):=e1▸pl.isList;refine sum_intListG (I.ok.hd hc) hl fun h' tk t' hk=>?_
 have e3:preSum (numAt ar) ar.size=ns.sum:=by rw[preSum_eq,List.take_of_length_le (by simp),e2]
 rw[e3];exact⟨.int ns.sum,H,I.kept hk,⟨t',rfl⟩,q⟩
end
end L2
namespace HT
open PySem PyProof.Rows
section
variable {prog:Program}{w:World}{A:Around}{E:iH}{s:Shared}
theorem oE{t sl:Addr}{items:Array Value}{vl vu:Value}{lo hi:Option Int}{Q:iH}(ht:IsTup s.heap t items)(hs:s.heap.IsSliceOf sl vl vu .none)(pl:IsPart vl lo)(pu:IsPart vu hi)
 (hw:gy items.size 0 lo=0/\gy items.size items.size hi=items.size) (h:Q (.ref t) s):wpAny (model prog w) A (getItem (.ref t) (.ref sl)) Q E s:=by
 obtain⟨os,hos,hcs,hds⟩:=id hs;have P4:s.TypeIs (.ref sl) "slice":=⟨os,hos,hcs⟩;unfold getItem
 try with_reducible refine wpAny_holding ?_
 first | refine wpAny_bind (wpAny_pure ?_) | skip
 refine wpAny_bind (wpAny_sequenceKey ht.typeIs (by decide) ?_)
 refine wpAny_bind (wpAny_callSpecial?_slot (name:=Str.ofString "__getitem__") ht.typeIs PyProof.Rows.slot_tuple_getitem
  (wpAny_call_entry PyProof.Rows.slot_tuple_getitem ht.typeIs entry_tuple_getitem ?_ (args_tuple_getitem _ _)))
 show wpAny _ _ (Builtin.Tuple.tupleItemsOf (.ref t) >>= _) _ _ s;refine wpAny_bind (tupleItemsOf_ ht ?_);refine wpAny_bind (wpAny_typeOf P4 ?_);rw[if_pos (by decide)]
 refine wpAny_bind (j7 hs pl pu ?_);have hyes:(((gy items.size 0 lo:Nat):Int)==0&&(1:Int)==1&&(gy items.size items.size hi-gy items.size 0 lo)==items.size)=true:=by
  rw[hw.1,hw.2];simp
 show wpAny _ _ (if(((gy items.size 0 lo:Nat):Int)==0&&(1:Int)==1&&(gy items.size items.size hi-gy items.size 0 lo)==items.size)=true then _ else _) _ _ s
 rw[if_pos hyes];refine wpAny_bind ?_;unfold Builtin.Tuple.tupleIsExact;refine wpAny_bind (wpAny_typeOf ht.typeIs (wpAny_pure ?_));rw[if_pos (by decide)]
 exact wpAny_bind (wpAny_rule (wpAny_pure ⟨_,rfl,wpAny_pure h⟩))
end
end HT
namespace L2
open PySem PySem.Spec PyProof.Rows
section
variable {X:Cx}
def MK:V->Option Int->Option Int->Hp->VK->Prop:=fun x lo hi H Q=>∃ a xs,x = .ref a/\H a=some (.tup xs)/\∀ p H',au H H'->H' p=some (.tup (sP xs lo hi))->Q (.ref p) H'
theorem KQ:OA X MK:=by
 intro pq s σ H x v vl vu lo hi sl Q I rx hs pl pu h;obtain⟨a,xs,rfl,hx,q⟩:=h;cases rx;obtain⟨its,r,ht,hz⟩:=I.tuple (bI.of hx);have hlen:its.toArray.size=xs.length:=by rw[List.size_toArray];exact r.length.symm
 refine⟨"tuple",_,PyProof.Rows.slot_tuple_getitem.lookup,ht.typeIs,?_⟩
 by_cases hw:HT.gy xs.length 0 lo=0/\HT.gy xs.length xs.length hi=xs.length
 ·refine HT.oE ht hs pl pu (by rw[hlen];exact hw) ⟨.ref a,H,I,rfl,q a H (au.refl _) ?_⟩
  unfold sP;rw[hw.1,hw.2,List.drop_zero,Nat.sub_zero,List.take_length];exact hx
 ·refine HT.jD ht hs pl pu (by rw[hlen];exact hw) ?_ (by rw[hlen];exact hz)
  rw[hlen];refine⟨.ref s.heap.objs.size,_,I.laid (t':=s.toks) (o:=.tup (sP xs lo hi)) (fun b ob q=>Heap.get?_push_of_some _ q) (Nat.le_refl _) ?_,rfl,q _ _ (au.new (I.hok.fresh (Nat.le_refl _))) aj⟩
  exact⟨Nat.le_trans (sd xs lo hi) hz,_,(r.drop (HT.gy xs.length 0 lo)).take (HT.gy xs.length xs.length hi-HT.gy xs.length 0 lo),IsTup.new _ _⟩
end
end L2
namespace Ring
open PySem
abbrev cg:=Int×Int×Int
def bit(S:Int)(k:Nat):Bool:=decide (S/2^k%2=1)
def bw(S:Int):List Nat:=(List.range (Builtin.Int.intBits S)).filter (bit S)
def bump(e:List Int)(i:Int):List Int:=e.set i.toNat (e.getD i.toNat 0+1)
def step(ts:List cg)(e:List Int)(k:Nat):List Int:=match ts[k]? with
 | some t=>bump (bump e t.1) t.2.1
 | none=>e
def fR(p:Nat)(ts:List cg)(S:Int):List Int:=(bw S).foldl (step ts) (List.replicate p 0)
def kc(p:Nat)(ts:List cg)(S:Int):List Nat:=(List.range p).filter fun i=>decide ((fR p ts S).getD i 0%2=1)
def Hv(ts:List cg)(k i:Nat):Int:=match ts[k]? with
 | some t=>(if t.1=(i:Int) then 1 else 0)+(if t.2.1=(i:Int) then 1 else 0)
 | none=>0
theorem jf(e:List Int)(i:Int):(bump e i).length=e.length:=by unfold bump;rw[List.length_set]
theorem zI(ts:List cg)(e:List Int)(k:Nat):(step ts e k).length=e.length:=by
 unfold step
 split
 ·rw[jf,jf]
 ·rfl
theorem zJ(ts:List cg):∀(ks:List Nat) (e:List Int),(ks.foldl (step ts) e).length=e.length
 | [],_=>rfl
 | k::r,e=>by rw[List.foldl_cons,zJ ts r,zI]
theorem zK(e:List Int)(j:Int)(i:Nat)(h0:0<=j)(h1:j<e.length):(bump e j).getD i 0=e.getD i 0+if j=(i:Int) then 1 else 0:=by
 unfold bump;rw[List.getD_eq_getElem?_getD,List.getD_eq_getElem?_getD,List.getD_eq_getElem?_getD]
 by_cases h:j=(i:Int)
 ·have hi:j.toNat=i:=by lia
  rw[if_pos h,hi,List.getElem?_set_self (by lia)]
  rfl
 ·have hi:j.toNat≠i:=by lia
  rw[if_neg h,List.getElem?_set_ne hi]
  lia
structure Ck(p:Nat)(ts:List cg):Prop where
 ends:∀ t∈ts,0<=t.1/\t.1<(p:Int)/\0<=t.2.1/\t.2.1<(p:Int)
theorem step_get{p:Nat}{ts:List cg}(W:Ck p ts)(e:List Int)(k i:Nat)(he:e.length=p):(step ts e k).getD i 0=e.getD i 0+Hv ts k i:=by
 unfold step Hv;cases h:ts[k]? with
 | none=>simp
 | some t =>
   obtain⟨a0,a1,b0,b1⟩:=W.ends t (nJ h);dsimp only;rw[zK _ _ _ b0 (by rw[jf,he];exact b1),zK _ _ _ a0 (by rw[he];exact a1)]
   lia
def rD(ts:List cg)(ks:List Nat)(i:Nat):Int:=(ks.map fun k=>Hv ts k i).sum
theorem zL{p:Nat}{ts:List cg}(W:Ck p ts)(i:Nat):∀(ks:List Nat) (e:List Int),e.length=p->(ks.foldl (step ts) e).getD i 0=e.getD i 0+rD ts ks i
 | [],e,_=>by simp[rD]
 | k::r,e,he=>by
   rw[List.foldl_cons,zL W i r _ (by rw[zI,he]),step_get W e k i he]
   unfold rD;rw[List.map_cons,List.sum_cons]
   lia
theorem Fo{p:Nat}{ts:List cg}(W:Ck p ts)(S:Int)(i:Nat):(fR p ts S).getD i 0=rD ts (bw S) i:=by
 unfold fR;rw[zL W i _ _ (by simp)]
 have e:(List.replicate p (0:Int)).getD i 0=0:=by
  rw[List.getD_eq_getElem?_getD,List.getElem?_replicate]
  split<;>rfl
 rw[e]
 lia
theorem pY(m k:Nat):bit (m:Int) k=m.testBit k:=by
 unfold bit;rw[Nat.testBit_eq_decide_div_mod_eq];have e:((m:Int)/2^k%2=1)↔(m/2^k%2=1):=by
  have h2:((2:Int)^k)=((2^k:Nat):Int):=by simp
  rw[h2,<-Int.natCast_ediv]
  lia
 simp only[e]
theorem zM(m:Nat):Builtin.Int.intBits (m:Int)=if m=0 then 0 else m.log2+1:=by
 unfold Builtin.Int.intBits
 by_cases h:m=0
 ·simp[h]
 ·simp[h]
theorem bits_le{m n:Nat}(h:m<2^n):Builtin.Int.intBits (m:Int)<=n:=by
 rw[zM]
 split
 ·exact Nat.zero_le _
 ·rename_i h0
  exact(Nat.log2_lt h0).mpr h
theorem zN{m k:Nat}(h:Builtin.Int.intBits (m:Int)<=k):bit (m:Int) k=false:=by
 rw[pY];rw[zM]at h
 by_cases h0:m=0
 ·simp[h0]
 ·rw[if_neg h0]at h;exact Nat.testBit_lt_two_pow (Nat.lt_of_lt_of_le Nat.lt_log2_self (Nat.pow_le_pow_right (by decide) h))
theorem pZ(f:Nat->Bool)(a:Nat):∀ d,(∀ k,a<=k->f k=false)->(List.range (a+d)).filter f=(List.range a).filter f
 | 0,_=>rfl
 | d+1,h=>by
   rw[<-Nat.add_assoc,List.range_succ,List.filter_append,pZ f a d h];have e:[a+d].filter f=[]:=by rw[List.filter_cons,if_neg (by rw[h _ (by lia)];simp)];rfl
   rw[e,List.append_nil]
theorem kg{m n:Nat}(h:m<2^n):bw (m:Int)=(List.range n).filter fun k=>m.testBit k:=by
 unfold bw;have hb:=bits_le h;obtain⟨d,hd⟩:=Nat.exists_eq_add_of_le hb;have e:(fun k=>m.testBit k)=bit (m:Int):=funext fun k=>(pY m k).symm
 rw[e]
 conv=>rhs;rw[hd]
 exact(pZ _ _ d fun k hk=>zN hk).symm
theorem nN{m n:Nat}(h:m<2^n){k:Nat}(hk:k∈bw (m:Int)):k<n:=by
 rw[kg h]at hk;exact List.mem_range.mp (List.mem_filter.mp hk).1
theorem sum_filter(ts:List cg)(i:Nat)(f:Nat->Bool):∀ ks:List Nat,rD ts (ks.filter f) i=(ks.map fun k=>if f k=true then Hv ts k i else 0).sum
 | []=>rfl
 | k::r=>by
   have ih:=sum_filter ts i f r;rw[List.map_cons,List.sum_cons,<-ih];cases h:f k with
   | true =>
     rw[List.filter_cons,if_pos h];unfold rD;rw[List.map_cons,List.sum_cons];simp
   | false =>
     rw[List.filter_cons,if_neg (by rw[h];simp)]
     simp
theorem Fp{a b x y:Nat}(q:x/2+2*(y/2)=a/2+b/2)(h:x%2+2*(y%2)=a%2+b%2):x+2*y=a+b:=by lia
theorem mod_one{u v:Nat}(hu:u=0\/u=1)(hv:v=0\/v=1):(u^^^v)+2*(u&&&v)=u+v:=by
 rcases hu with rfl|rfl<;>rcases hv with rfl|rfl<;>rfl
theorem Il:∀ a b:Nat,(a^^^b)+2*(a&&&b)=a+b:=by
 intro a
 induction a using Nat.strongRecOn with
 | ind a ih =>
   intro b
   by_cases h:a=0
   ·subst h;simp
   ·have q:=ih (a/2) (by lia) (b/2)
    rw[<-Nat.xor_div_two,<-Nat.and_div_two]at q;refine Fp q ?_;have e1:(a^^^b)%2=a%2^^^b%2:=Nat.xor_mod_two_pow (n:=1);have e2:(a&&&b)%2=a%2&&&b%2:=Nat.and_mod_two_pow (n:=1);rw[e1,e2];exact mod_one (Nat.mod_two_eq_zero_or_one a) (Nat.mod_two_eq_zero_or_one b)
theorem xor_int(a b:Nat):Builtin.bitXor (a:Int) (b:Int)=((a^^^b:Nat):Int):=by
 have h:(a:Int)+b-2*((a&&&b:Nat):Int)=((a^^^b:Nat):Int):=by
  have q:=Il a b
  lia
 have e:=PyProof.Rows.bitXor_and (a:Int) (b:Int);rw[e,PyProof.Rows.bitAnd_pp (by lia) (by lia)]
 simpa using h
open PySem L2
def Im(t:cg):List V:=[.int t.1,.int t.2.1,.int t.2.2]
def TupAt(H:Hp)(x:V)(t:cg):Prop:=∃ b,x = .ref b/\H b=some (.tup (Im t))
structure bE(H:Hp)(w:Addr)(p:Nat)(ts:List cg):Prop where
 ex:∃ b xs,H w=some (.tup [.int (p:Int),.ref b])/\H b=some (.tup xs)/\Paired (TupAt H) xs ts
structure JF(p:Nat)(ts:List cg):Prop where
 QD:Ck p ts
 len:ts.length<=24
 EC:p<=10
theorem TupAt.tups{H H' : Hp}(s:rB H H'){x:V}{t:cg}(h:TupAt H x t):TupAt H' x t:=by
 obtain⟨b,e,h⟩:=h;exact⟨b,e,s _ _ h⟩
theorem bE.tups{H H' : Hp}{w:Addr}{p:Nat}{ts:List cg}(s:rB H H')(h:bE H w p ts):bE H' w p ts:=by
 obtain⟨b,xs,h1,h2,h3⟩:=h.ex;exact⟨b,xs,s _ _ h1,s _ _ h2,Paired.imp' (fun _ _ z=>z.tups s) h3⟩
theorem bE.same{H H' : Hp}{w:Addr}{p:Nat}{ts:List cg}(s:au H H')(h:bE H w p ts):bE H' w p ts:=h.tups s.tups
def aV(l:List Nat):List V:=l.map fun k=>V.int ((k:Nat):Int)
theorem o5(l:List Nat)(k:Nat):aV (l++[k])=aV l++[.int (k:Int)]:=by unfold aV;rw[List.map_append];rfl
theorem aM(l:List Nat):(aV l).length=l.length:=by unfold aV;rw[List.length_map]
theorem dP{l:List Nat}{i:Nat}{x:V}(h:(aV l)[i]?=some x):∃ k,l[i]?=some k/\x = .int (k:Int):=by
 unfold aV at h;rw[List.getElem?_map]at h;obtain⟨k,e,q⟩:=J7.mp h;exact⟨k,e,q.symm⟩
theorem bQ(f:Nat->Bool)(i:Nat):(List.range (i+1)).filter f=(List.range i).filter f++(if f i=true then[i] else[]):=by
 rw[List.range_succ,List.filter_append]
 congr 1
 cases h:f i with
 | true=>rw[List.filter_cons,if_pos h,if_pos rfl];rfl
 | false=>rw[List.filter_cons,if_neg (by rw[h];simp),if_neg (by simp)];rfl
def mT(f:Nat->Bool)(H:Hp)(D:Addr)(i:Nat)(acc:List V)(H2:Hp):Prop:=au H H2/\H2 D=some (.lst acc)/\acc=aV ((List.range i).filter f)
section
variable {f:Nat->Bool}{H H2 H3:Hp}{D:Addr}{i:Nat}{acc:List V}
theorem mT.start(hD:H D=none):mT f H D 0 [] (upd H D (.lst [])):=⟨au.new hD,aj,rfl⟩
theorem mT.len(p:mT f H D i acc H2):H2 D=some (.lst acc)/\acc.length<=i:=by
 refine⟨p.2.1,?_⟩;rw[p.2.2,aM];exact Nat.le_trans (List.length_filter_le _ _) (by rw[List.length_range];exact Nat.le_refl _)
theorem mT.yes(p:mT f H D i acc H2)(hD:H D=none)(s:au H2 H3)(hf:f i=true):H3 D=some (.lst acc)/\mT f H D (i+1) (acc++[.int (i:Int)]) (upd H3 D (.lst (acc++[.int (i:Int)]))):=by
 refine⟨s _ _ p.2.1,(p.1.trans s).put hD,aj,?_⟩;rw[bQ,if_pos hf,o5,<-p.2.2]
theorem mT.no(p:mT f H D i acc H2)(s:au H2 H3)(hf:f i=false):mT f H D (i+1) acc H3:=by
 refine⟨p.1.trans s,s _ _ p.2.1,?_⟩;rw[bQ,if_neg (by rw[hf];simp),List.append_nil]
 exact p.2.2
end
def cM(ts:List cg)(k:Nat):cg:=ts.getD k (0,0,0)
def stepT(e:List Int)(t:cg):List Int:=bump (bump e t.1) t.2.1
theorem wC{ts:List cg}:∀(ks:List Nat) (e:List Int),(∀ k∈ks,k<ts.length)->(ks.map (cM ts)).foldl stepT e=ks.foldl (step ts) e
 | [],_,_=>rfl
 | k::r,e,h=>by
   rw[List.map_cons,List.foldl_cons,List.foldl_cons,wC r _ fun j hj=>h j (vz _ hj)]
   have hk:=h k List.mem_cons_self;have e1:ts[k]?=some (cM ts k):=by
    unfold cM;rw[List.getD_eq_getElem?_getD];simp[hk]
   have e2:step ts e k=stepT e (cM ts k):=by
    unfold step stepT;rw[e1]
   rw[e2]
theorem rE{p:Nat}{ts:List cg}{m:Nat}(h:m<2^ts.length):fR p ts (m:Int)=((bw (m:Int)).map (cM ts)).foldl stepT (List.replicate p 0):=by
 unfold fR;rw[wC _ _ fun k hk=>nN h hk]
theorem Dz(e:List Int)(t:cg):(stepT e t).length=e.length:=by unfold stepT;rw[jf,jf]
theorem nO:∀(l:List cg) (e:List Int),(l.foldl stepT e).length=e.length
 | [],_=>rfl
 | t::r,e=>by rw[List.foldl_cons,nO r,Dz]
def aR(l:List Int):List V:=l.map V.int
theorem eI{l:List Int}{i:Nat}(h:i<l.length):(aR l)[i]?=some (.int (l.getD i 0)):=by
 unfold aR;rw[List.getElem?_map,List.getD_eq_getElem?_getD];simp[h]
theorem o6(l:List Int)(i:Nat):(aR l).set i (.int (l.getD i 0+1))=aR (bump l (i:Int)):=by
 unfold aR bump;rw[Int.toNat_natCast,List.map_set]
theorem mU(p:Nat):(List.replicate p [V.int 0]).flatten=aR (List.replicate p 0):=by
 induction p with
 | zero=>rfl
 | succ p ih=>rw[List.replicate_succ,List.flatten_cons,ih,List.replicate_succ];rfl
theorem lD{n j:Nat}(h:j<n):HV n (j:Int)=some j:=by
 unfold HV;rw[if_pos (by lia),if_pos (by lia),Int.toNat_natCast]
def o7(k:Nat):PyData:=.int (k:Int)
theorem mV{K:bY}{H:Hp}:∀ l:List Nat,DatVs K H (aV l) (l.map o7)
 | []=>.nil
 | _::r=>.cons (.int _) (mV r)
theorem zO:∀ l:List Nat,PyData.canLayAll0 (l.map o7)=true
 | []=>rfl
 | _::r=>by
   have ih:=zO r;simp only[List.map_cons,PyData.canLayAll0,ih,Bool.and_true];rfl
theorem wD:∀ l:List Nat,PyData.depthAll (l.map o7)=0
 | []=>rfl
 | _::r=>by
   have ih:=wD r;show max (PyData.depth (PyData.int _)) (PyData.depthAll (r.map _))=0;rw[ih];rfl
theorem jE(l:List Nat):SeqAt.shaped (.list (l.map o7))=true:=by
 unfold SeqAt.shaped;have e:(PyData.list (l.map o7)).canLay0=PyData.canLayAll0 (l.map o7):=by simp[PyData.canLay0]
 rw[e,zO,Bool.true_and];refine eG ?_;have e2:PyData.depth (PyData.list (l.map o7))=PyData.depthAll (l.map o7)+1:=by simp[PyData.depth]
 rw[e2,wD]
 decide
theorem Cm(l:List Nat):PyData.eqv (.list (l.map o7)) (.list [])=decide (l=[]):=by
 cases l with
 | nil=>rfl
 | cons a r=>rfl
theorem KR(S:Int)(k:Nat):decide (V.int (Builtin.bitAnd (S/2^k) 1)=V.int 1)=bit S k:=by
 unfold bit;rw[PyProof.Rows.bitAnd_m1];rw[Bool.eq_iff_iff];simp
theorem KS(S:Int)(k:Nat):decide (V.int (S/2^k%2)=V.int 1)=bit S k:=by
 unfold bit;rw[Bool.eq_iff_iff];simp
theorem Co(x:Int):decide (V.int x=V.int 1)=decide (x=1):=by
 rw[Bool.eq_iff_iff];simp
structure jF(p:Int)(t:cg):Prop where
 a0:0<=t.1
 a1:t.1<p
 b0:0<=t.2.1
 b1:t.2.1<p
 ne:t.1≠t.2.1
 l0:1<=t.2.2
 l1:t.2.2<=1000000000000000000000000000000
structure az(p:Nat)(ts:List cg):Prop where
 p1:1<=p
 p2:p<=10
 len:ts.length<=24
 uc:∀ t∈ts,jF (p:Int) t
theorem az.KU{p:Nat}{ts:List cg}(g:az p ts):JF p ts:=⟨⟨fun t ht=>let z:=g.uc t ht;⟨z.a0,z.a1,z.b0,z.b1⟩⟩,g.len,g.p2⟩
def sS(p:Int)(H:Hp)(D:Addr)(n:Nat)(H2:Hp):Prop:=au H H2/\∃ acc ts,H2 D=some (.lst acc)/\Paired (TupAt H2) acc ts/\acc.length=n/\∀ t∈ts,jF p t
section
variable {p:Int}{H H2 H3:Hp}{D b:Addr}{n:Nat}{t:cg}
theorem sS.start(hD:H D=none):sS p H D 0 (upd H D (.lst [])):=⟨au.new hD,[],[],aj,.nil,rfl,fun t ht=>nomatch ht⟩
theorem sS.push(h:sS p H D n H2)(hD:H D=none)(s:au H2 H3)(g:jF p t)(hb:H3 b=some (.tup (Im t))):
 ∃ acc,H3 D=some (.lst acc)/\acc.length=n/\sS p H D (n+1) (upd H3 D (.lst (acc++[.ref b]))):=by
 obtain⟨s2,acc,ts,hd,pr,hn,gt⟩:=h;have ML:H3 D=some (.lst acc):=s _ _ hd;refine⟨acc,ML,hn,(s2.trans s).put hD,acc++[.ref b],ts++[t],aj,?_,by rw[List.length_append,List.length_singleton,hn],fun u hu=>?_⟩
 ·exact Paired.snoc (Paired.imp' (fun _ _ z=>z.tups (s.tups.trans (rB.put ML))) pr) ⟨b,rfl,rB.put ML _ _ hb⟩
 ·rcases List.mem_append.mp hu with hu|hu
  ·exact gt u hu
  ·cases List.mem_singleton.mp hu;exact g
theorem sS.fin{q:Nat}(h:sS (q:Int) H D n H2):∃ acc ts,H2 D=some (.lst acc)/\ts.length=n/\(∀ t∈ts,jF (q:Int) t)/\∀ l,H2 l=none->∀ w,upd H2 l (.tup acc) w=none->
 au H (upd (upd H2 l (.tup acc)) w (.tup [.int (q:Int),.ref l]))/\bE (upd (upd H2 l (.tup acc)) w (.tup [.int (q:Int),.ref l])) w q ts:=by
 obtain⟨s2,acc,ts,hd,pr,hn,gt⟩:=h;refine⟨acc,ts,hd,by rw[<-pr.length,hn],gt,fun l hl w hw=>?_⟩
 have n1:au H2 (upd H2 l (.tup acc)):=au.new hl;have n2:=n1.trans (au.new (o:=.tup [.int (q:Int),.ref l]) hw);refine⟨s2.trans n2,l,acc,aj,?_,Paired.imp' (fun _ _ z=>z.tups n2.tups) pr⟩
 rw[aT (aY aj hw),aj]
end
theorem Fq{p o r:Int}(h:0<=o)(h1:o<p)(r0:0<=r)(r1:r<p-1):0<=(o+1+r)%p/\(o+1+r)%p<p/\o≠(o+1+r)%p:=by
 have hp:0<p:=by lia
 refine⟨Int.emod_nonneg _ (by lia),Int.emod_lt_of_pos _ hp,?_⟩
 by_cases hlt:o+1+r<p
 ·rw[Int.emod_eq_of_lt (by lia) hlt]
  lia
 ·have e:(o+1+r)%p=o+1+r-p:=by
   rw[<-Int.sub_emod_right,Int.emod_eq_of_lt (by lia) (by lia)]
  rw[e]
  lia
theorem gX{n:Nat}(h:n<=24):n<=sizeLine:=Nat.le_of_lt (gD (by lia))
theorem o8{n:Nat}(h:n<=900):n<sizeLine:=gD (by lia)
theorem Cp{ns:List Int}{k:Nat}(h:k<ns.length):(ns.map V.int)[k]?=some (.int (ns.getD k 0)):=by
 rw[List.getElem?_map,List.getD_eq_getElem?_getD];simp[h]
theorem kh(x m:Int)(h:0<m):0<=x%m/\x%m<m:=⟨Int.emod_nonneg _ (by lia),Int.emod_lt_of_pos _ h⟩
end Ring
namespace RM
def bK(f:Nat->Bool):Nat->Bool
 | 0=>false
 | n+1=>bK f n^^f n
theorem bS{f g:Nat->Bool}:∀{n:Nat},(∀ k,k<n->f k=g k)->bK f n=bK g n
 | 0,_=>rfl
 | n+1,h=>by
   unfold bK;rw[bS fun k hk=>h k (by lia),h n (by lia)]
theorem ki(f g:Nat->Bool):∀ n,bK (fun k=>f k^^g k) n=(bK f n^^bK g n)
 | 0=>rfl
 | n+1=>by
   unfold bK;rw[ki f g n];cases bK f n<;>cases bK g n<;>cases f n<;>cases g n<;>rfl
theorem o9:∀ n,bK (fun _=>false) n=false
 | 0=>rfl
 | n+1=>by unfold bK;rw[o9 n];rfl
theorem p5(c:Bool)(f:Nat->Bool):∀ n,bK (fun k=>c&&f k) n=(c&&bK f n)
 | 0=>by cases c<;>rfl
 | n+1=>by
   unfold bK;rw[p5 c f n];cases c<;>simp
theorem wF(f:Nat->Nat->Bool)(n:Nat):∀ m,bK (fun x=>bK (fun k=>f x k) n) m=bK (fun k=>bK (fun x=>f x k) m) n
 | 0=>by
   show false=_;rw[<-o9 n];rfl
 | m+1=>by
   show(bK (fun x=>bK (fun k=>f x k) n) m^^bK (fun k=>f m k) n)=_
   rw[wF f n m,<-ki];rfl
theorem nP{f:Nat->Bool}{n:Nat}(h:∀ k,k<n->f k=false):bK f n=false:=by
 rw[bS (g:=fun _=>false) h,o9]
theorem p7{f:Nat->Bool}{a:Nat}:∀{n:Nat},a<n->(∀ k,k<n->k≠a->f k=false)->bK f n=f a
 | 0,h,_=>absurd h (Nat.not_lt_zero _)
 | n+1,h,z=>by
   unfold bK
   by_cases e:a=n
   ·subst e;rw[nP fun k hk=>z k (by lia) (by lia)]
    simp
   ·rw[p7 (a:=a) (by lia) fun k hk hn=>z k (by lia) hn,z n (by lia) (fun q=>e q.symm)]
    simp
theorem jg(C:Nat->Bool){a m:Nat}(h:a<m):bK (fun x=>C x&&decide (a=x)) m=C a:=by
 rw[p7 h fun k _ hk=>by simp[Ne.symm hk]]
 simp
structure Net where
 p:Nat
 n:Nat
 a:Nat->Nat
 b:Nat->Nat
 al:∀ k,k<n->a k<p
 bl:∀ k,k<n->b k<p
 ne:∀ k,k<n->a k≠b k
variable (N:Net)
def Net.inc(k x:Nat):Bool:=decide (N.a k=x)^^decide (N.b k=x)
def Net.bd(m x:Nat):Bool:=bK (fun k=>m.testBit k&&N.inc k x) N.n
def Net.fS(m:Nat):Prop:=∀ x,x<N.p->N.bd m x=false
variable {N}
theorem iF(m q x:Nat):N.bd (m^^^q) x=(N.bd m x^^N.bd q x):=by
 unfold Net.bd;rw[<-ki];refine bS fun k _=>?_
 rw[Nat.testBit_xor];cases m.testBit k<;>cases q.testBit k<;>cases N.inc k x<;>rfl
theorem p8(x:Nat):N.bd 0 x=false:=by
 unfold Net.bd;exact nP fun k _=>by simp
theorem pe{k:Nat}(h:k<N.n)(x:Nat):N.bd (2^k) x=N.inc k x:=by
 unfold Net.bd;rw[p7 h fun j _ hj=>by simp[Nat.testBit_two_pow,Ne.symm hj]]
 simp[Nat.testBit_two_pow]
theorem fS.xor{m q:Nat}(h:N.fS m)(h' : N.fS q):N.fS (m^^^q):=fun x hx=>by rw[iF,h x hx,h' x hx];rfl
theorem fS.zero:N.fS 0:=fun x _=>p8 x
theorem Ft{m:Nat}(C:Nat->Bool)(h:∀ k,k<N.n->m.testBit k=true->C (N.a k)=C (N.b k)):bK (fun x=>C x&&N.bd m x) N.p=false:=by
 have e:bK (fun x=>C x&&N.bd m x) N.p=bK (fun x=>bK (fun k=>C x&&(m.testBit k&&N.inc k x)) N.n) N.p :=
  bS fun x _=>(p5 (C x) _ N.n).symm
 rw[e,wF];refine nP fun k hk=>?_
 have e2:bK (fun x=>C x&&(m.testBit k&&N.inc k x)) N.p=(m.testBit k&&(C (N.a k)^^C (N.b k))):=by
  rw[<-jg C (N.al k hk),<-jg C (N.bl k hk),<-ki,<-p5];refine bS fun x _=>?_
  unfold Net.inc;cases C x<;>cases m.testBit k<;>cases decide (N.a k=x)<;>cases decide (N.b k=x)<;>rfl
 rw[e2];cases hb:m.testBit k with
 | false=>rfl
 | true=>rw[h k hk hb];simp
def join(L:Nat->Nat)(u v:Nat):Nat->Nat:=fun x=>if L x=max (L u) (L v) then min (L u) (L v) else L x
theorem join_eq{L:Nat->Nat}{u v x y:Nat}(h:L x=L y):join L u v x=join L u v y:=by unfold join;rw[h]
theorem DA(L:Nat->Nat)(u v:Nat):join L u v u=join L u v v:=by
 unfold join
 split<;>split<;>lia
theorem wG{L:Nat->Nat}{u v:Nat}(h:L u=L v):join L u v=L:=by
 funext x
 unfold join;rw[h]
 split<;>lia
theorem Bj{L:Nat->Nat}{u v x y:Nat}(h:join L u v x=join L u v y):L x=L y\/(L x=L u/\L y=L v)\/(L x=L v/\L y=L u):=by
 unfold join at h;have mm:(max (L u) (L v)=L u/\min (L u) (L v)=L v)\/(max (L u) (L v)=L v/\min (L u) (L v)=L u):=by
  rcases Nat.le_total (L u) (L v) with q|q
  ·exact .inr ⟨Nat.max_eq_right q,Nat.min_eq_left q⟩
  ·exact .inl ⟨Nat.max_eq_left q,Nat.min_eq_right q⟩
 rcases mm with⟨e1,e2⟩|⟨e1,e2⟩
 ·rw[e1,e2]at h
  split at h
  ·rename_i hx
   split at h
   ·rename_i hy
    exact .inl (hx.trans hy.symm)
   ·exact .inr (.inl ⟨hx,h.symm⟩)
  ·split at h
   ·rename_i hy
    exact .inr (.inr ⟨h,hy⟩)
   ·exact .inl h
 ·rw[e1,e2]at h
  split at h
  ·rename_i hx
   split at h
   ·rename_i hy
    exact .inl (hx.trans hy.symm)
   ·exact .inr (.inr ⟨hx,h.symm⟩)
  ·split at h
   ·rename_i hy
    exact .inr (.inl ⟨h,hy⟩)
   ·exact .inl h
theorem join_le{L:Nat->Nat}{u v x:Nat}(h:L x<=x):join L u v x<=x:=by
 unfold join
 split<;>lia
theorem DB{L:Nat->Nat}{u v:Nat}(h:∀ x,L (L x)=L x)(x:Nat):join L u v (join L u v x)=join L u v x:=by
 have hu:=h u;have hv:=h v;have hx:=h x;have hlo:L (min (L u) (L v))=min (L u) (L v):=by
  rcases Nat.le_total (L u) (L v) with q|q
  ·rw[Nat.min_eq_left q];exact hu
  ·rw[Nat.min_eq_right q];exact hv
 unfold join
 split
 ·rw[hlo]
  split<;>lia
 ·rw[hx]
  split<;>lia
def Net.aS(N:Net)(S:Nat->Bool):Nat->Nat->Nat
 | 0=>fun x=>x
 | k+1=>if S k=true then join (Net.aS N S k) (N.a k) (N.b k) else Net.aS N S k
variable {S:Nat->Bool}
theorem sZ:∀(k x:Nat),N.aS S k x<=x
 | 0,_=>Nat.le_refl _
 | k+1,x=>by
   unfold Net.aS
   split
   ·exact join_le (sZ k x)
   ·exact sZ k x
theorem cj:∀(k x:Nat),N.aS S k (N.aS S k x)=N.aS S k x
 | 0,_=>rfl
 | k+1,x=>by
   by_cases hs:S k=true
   ·have e:N.aS S (k+1)=join (N.aS S k) (N.a k) (N.b k):=by
     conv=>lhs;unfold Net.aS
     rw[if_pos hs]
    rw[e];exact DB (cj k) x
   ·have e:N.aS S (k+1)=N.aS S k:=by
     conv=>lhs;unfold Net.aS
     rw[if_neg hs]
    rw[e];exact cj k x
theorem wH{x y k:Nat}(h:N.aS S k x=N.aS S k y):∀ d,N.aS S (k+d) x=N.aS S (k+d) y
 | 0=>h
 | d+1=>by
   have ih:=wH h d;show N.aS S (k+d+1) x=N.aS S (k+d+1) y;unfold Net.aS
   split
   ·exact join_eq ih
   ·exact ih
theorem fT{j k:Nat}(h:j<k)(hs:S j=true):N.aS S k (N.a j)=N.aS S k (N.b j):=by
 obtain⟨d,rfl⟩:=Nat.exists_eq_add_of_le (Nat.succ_le_of_lt h);refine wH ?_ d;show N.aS S (j+1) (N.a j)=N.aS S (j+1) (N.b j);unfold Net.aS;rw[if_pos hs];exact DA _ _ _
inductive Net.jO(N:Net)(S:Nat->Bool)(k u:Nat):Nat->Prop
 | refl:Net.jO N S k u u
 | fwd {j:Nat} (h:Net.jO N S k u (N.a j)) (hj:j<k) (hs:S j=true):Net.jO N S k u (N.b j)
 | bwd {j:Nat} (h:Net.jO N S k u (N.b j)) (hj:j<k) (hs:S j=true):Net.jO N S k u (N.a j)
theorem Net.jO.trans{k u v w:Nat}(h:N.jO S k u v)(h' : N.jO S k v w):N.jO S k u w:=by
 induction h' with
 | refl=>exact h
 | fwd _ hj hs ih=>exact .fwd ih hj hs
 | bwd _ hj hs ih=>exact .bwd ih hj hs
theorem Net.jO.mono{k l u v:Nat}(h:N.jO S k u v)(zA:k<=l):N.jO S l u v:=by
 induction h with
 | refl=>exact .refl
 | fwd _ hj hs ih=>exact .fwd ih (by lia) hs
 | bwd _ hj hs ih=>exact .bwd ih (by lia) hs
theorem ck:∀(k u v:Nat),N.aS S k u=N.aS S k v->N.jO S k u v
 | 0,u,v,h=>by
   have e:u=v:=h;subst e;exact .refl
 | k+1,u,v,h=>by
   unfold Net.aS at h
   split at h
   ·rename_i hs
    rcases Bj h with q|⟨q1,q2⟩|⟨q1,q2⟩
    ·exact(ck k u v q).mono (by lia)
    ·have c1:=(ck k u _ q1).mono (Nat.le_succ k);have c2:=(ck k _ v q2.symm).mono (Nat.le_succ k);exact Net.jO.trans (.fwd c1 (by lia) hs) c2
    ·have c1:=(ck k u _ q1).mono (Nat.le_succ k);have c2:=(ck k _ v q2.symm).mono (Nat.le_succ k);exact Net.jO.trans (.bwd c1 (by lia) hs) c2
   ·exact(ck k u v h).mono (by lia)
theorem DC{k u v:Nat}(h:N.jO S k u v):N.aS S k u=N.aS S k v:=by
 induction h with
 | refl=>rfl
 | fwd _ hj hs ih=>exact ih.trans (fT hj hs)
 | bwd _ hj hs ih=>exact ih.trans (fT hj hs).symm
theorem Fv{k u v:Nat}:N.aS S k u=N.aS S k v↔N.jO S k u v:=⟨ck k u v,DC⟩
def Net.cG(N:Net)(k:Nat):Nat->Nat:=N.aS (fun _=>true) k
def Net.gz(N:Net)(k:Nat):Bool:=!decide (N.cG k (N.a k)=N.cG k (N.b k))
theorem mW(k:Nat):N.cG (k+1)=if N.gz k=true then join (N.cG k) (N.a k) (N.b k) else N.cG k:=by
 show N.aS (fun _=>true) (k+1)=_
 unfold Net.aS;rw[if_pos rfl];unfold Net.gz
 by_cases h:N.cG k (N.a k)=N.cG k (N.b k)
 ·rw[if_neg (by simp[h])]
  exact wG h
 ·rw[if_pos (by simp[h])]
  rfl
theorem iM{m:Nat}(hf:∀ k,m.testBit k=true->k<N.n/\N.gz k=true)(he:N.fS m):m=0:=by
 by_cases h0:m=0
 ·exact h0
 exfalso
 have hK:m.testBit m.log2=true:=Nat.testBit_log2 h0;obtain⟨OJ,OL⟩:=hf _ hK;generalize YT:m.log2=K at hK OJ OL;have hlt:m<2^(K+1):=by rw[<-YT];exact Nat.lt_log2_self
 have hcl:=Ft (N:=N) (m:=m^^^2^K) (fun x=>decide (N.cG K x=N.cG K (N.a K))) fun k hk hb=>by
  have YU:k<K:=by
   rw[Nat.testBit_xor,Nat.testBit_two_pow]at hb
   by_cases e:K=k
   ·subst e;simp[hK]at hb
   ·have hb' : m.testBit k=true:=by simpa[e]using hb
    have:k<K+1:=by
     by_cases q:k<K+1
     ·exact q
     ·have z:=Nat.testBit_lt_two_pow (Nat.lt_of_lt_of_le hlt (Nat.pow_le_pow_right (by decide) (show K+1<=k by lia)))
      rw[hb']at z;cases z
    lia
  have e:N.cG K (N.a k)=N.cG K (N.b k):=fT (S:=fun _=>true) YU rfl
  show decide (N.cG K (N.a k)=_)=decide (N.cG K (N.b k)=_);rw[e]
 have e:bK (fun x=>decide (N.cG K x=N.cG K (N.a K))&&N.bd (m^^^2^K) x) N.p=bK (fun x=>decide (N.cG K x=N.cG K (N.a K))&&N.inc K x) N.p :=
  bS fun x hx=>by rw[iF,he x hx,pe OJ];simp
 rw[e]at hcl;have e2:bK (fun x=>decide (N.cG K x=N.cG K (N.a K))&&N.inc K x) N.p=(decide (N.cG K (N.a K)=N.cG K (N.a K))^^decide (N.cG K (N.b K)=N.cG K (N.a K))):=by
  rw[<-jg (fun x=>decide (N.cG K x=N.cG K (N.a K))) (N.al K OJ),<-jg (fun x=>decide (N.cG K x=N.cG K (N.a K))) (N.bl K OJ),<-ki]
  refine bS fun x _=>?_
  unfold Net.inc;cases decide (N.cG K x=N.cG K (N.a K))<;>cases decide (N.a K=x)<;>cases decide (N.b K=x)<;>rfl
 rw[e2]at hcl;unfold Net.gz at OL;have hne : ¬ N.cG K (N.b K)=N.cG K (N.a K):=fun q=>by rw[q]at OL;simp at OL
 simp[hne]at hcl
def Net.trail(N:Net):Nat->Nat->Nat
 | 0=>fun _=>0
 | k+1=>if N.gz k=true then fun v=>if N.cG k v=max (N.cG k (N.a k)) (N.cG k (N.b k)) then Net.trail N k v^^^(Net.trail N k (N.a k)^^^Net.trail N k (N.b k)^^^2^k) else Net.trail N k v
   else Net.trail N k
theorem kj:∀(k v j:Nat),(N.trail k v).testBit j=true->j<k/\N.gz j=true
 | 0,v,j,h=>by simp[Net.trail]at h
 | k+1,v,j,h=>by
   have ih:=kj k;unfold Net.trail at h
   split at h
   ·rename_i hf
    dsimp only at h
    split at h
    ·rw[Nat.testBit_xor,Nat.testBit_xor,Nat.testBit_xor,Nat.testBit_two_pow]at h
     by_cases e:k=j
     ·subst e;exact⟨by lia,hf⟩
     ·have z : ¬((N.trail k v).testBit j=false/\(N.trail k (N.a k)).testBit j=false/\(N.trail k (N.b k)).testBit j=false):=by
       rintro⟨z1,z2,z3⟩;simp[z1,z2,z3,e]at h
      cases h1:(N.trail k v).testBit j with
      | true=>obtain⟨q,r⟩:=ih v j h1;exact⟨by lia,r⟩
      | false=>cases h2:(N.trail k (N.a k)).testBit j with
        | true=>obtain⟨q,r⟩:=ih _ j h2;exact⟨by lia,r⟩
        | false=>cases h3:(N.trail k (N.b k)).testBit j with
          | true=>obtain⟨q,r⟩:=ih _ j h3;exact⟨by lia,r⟩
          | false=>exact absurd ⟨h1,h2,h3⟩ z
    ·obtain⟨q,r⟩:=ih v j h;exact⟨by lia,r⟩
   ·obtain⟨q,r⟩:=ih v j h;exact⟨by lia,r⟩
theorem Fw(a b c d e f g h:Bool)(YV:(d^^f)=(g^^h)):((a^^g)^^(((c^^d)^^(e^^f))^^(c^^e)))=(a^^h):=by
 have e1:(((c^^d)^^(e^^f))^^(c^^e))=(d^^f):=by cases c<;>cases d<;>cases e<;>cases f<;>rfl
 rw[e1,YV];cases a<;>cases g<;>cases h<;>rfl
theorem ud:∀(k:Nat),k<=N.n->∀ v x,N.bd (N.trail k v) x=(decide (v=x)^^decide (N.cG k v=x))
 | 0,_,v,x=>by
   show N.bd 0 x=(decide (v=x)^^decide (v=x));rw[p8];simp
 | k+1,hk,v,x=>by
   have ih:=ud k (by lia)
   rw[mW];unfold Net.trail
   by_cases hf:N.gz k=true
   ·rw[if_pos hf,if_pos hf]
    by_cases hm:N.cG k v=max (N.cG k (N.a k)) (N.cG k (N.b k))
    ·have e:join (N.cG k) (N.a k) (N.b k) v=min (N.cG k (N.a k)) (N.cG k (N.b k)):=by unfold join;rw[if_pos hm]
     show N.bd (if N.cG k v=_ then _ else _) x=_
     rw[if_pos hm,e,iF,iF,iF,pe (by lia),ih,ih,ih]
     unfold Net.inc;refine Fw _ false _ _ _ _ _ _ ?_;rw[hm];rcases Nat.le_total (N.cG k (N.a k)) (N.cG k (N.b k)) with q|q
     ·rw[Nat.max_eq_right q,Nat.min_eq_left q,Bool.xor_comm]
     ·rw[Nat.max_eq_left q,Nat.min_eq_right q]
    ·have e:join (N.cG k) (N.a k) (N.b k) v=N.cG k v:=by unfold join;rw[if_neg hm]
     show N.bd (if N.cG k v=_ then _ else _) x=_
     rw[if_neg hm,e,ih]
   ·rw[if_neg hf,if_neg hf];exact ih v x
def Net.ring(N:Net)(c:Nat):Nat:=N.trail N.n (N.a c)^^^N.trail N.n (N.b c)^^^2^c
theorem Fx{c:Nat}(h:c<N.n):N.cG N.n (N.a c)=N.cG N.n (N.b c):=fT (S:=fun _=>true) h rfl
theorem nQ{c:Nat}(h:c<N.n):N.fS (N.ring c):=fun x _=>by
 unfold Net.ring;rw[iF,iF,pe h,ud _ (Nat.le_refl _),ud _ (Nat.le_refl _),Fx h];unfold Net.inc;cases decide (N.a c=x)<;>cases decide (N.b c=x)<;>cases decide (N.cG N.n (N.b c)=x)<;>rfl
theorem qa{c j:Nat}(h:(N.ring c).testBit j=true):j=c\/(j<N.n/\N.gz j=true):=by
 unfold Net.ring at h;rw[Nat.testBit_xor,Nat.testBit_xor,Nat.testBit_two_pow]at h
 by_cases e:c=j
 ·exact .inl e.symm
 ·right
  cases h1:(N.trail N.n (N.a c)).testBit j with
  | true=>exact kj _ _ _ h1
  | false=>cases h2:(N.trail N.n (N.b c)).testBit j with
    | true=>exact kj _ _ _ h2
    | false=>simp[h1,h2,e]at h
theorem qf{c:Nat}(hf:N.gz c=false):(N.ring c).testBit c=true:=by
 unfold Net.ring;rw[Nat.testBit_xor,Nat.testBit_xor,Nat.testBit_two_pow];cases h1:(N.trail N.n (N.a c)).testBit c with
 | true=>obtain⟨_,q⟩:=kj _ _ _ h1;rw[hf]at q;cases q
 | false=>cases h2:(N.trail N.n (N.b c)).testBit c with
   | true=>obtain⟨_,q⟩:=kj _ _ _ h2;rw[hf]at q;cases q
   | false=>simp
theorem DE{j:Nat}(h:j<N.n)(hf:N.gz j=true):(N.trail N.n (N.a j)).testBit j=true\/(N.trail N.n (N.b j)).testBit j=true:=by
 have z:N.ring j=0:=iM (fun k hk=>by
  rcases qa hk with rfl|q
  ·exact⟨h,hf⟩
  ·exact q) (nQ h)
 have b:(N.ring j).testBit j=false:=by rw[z];simp
 unfold Net.ring at b;rw[Nat.testBit_xor,Nat.testBit_xor,Nat.testBit_two_pow]at b;cases h1:(N.trail N.n (N.a j)).testBit j with
 | true=>exact .inl rfl
 | false=>cases h2:(N.trail N.n (N.b j)).testBit j with
   | true=>exact .inr rfl
   | false=>simp[h1,h2]at b
def cnt(f:Nat->Bool):Nat->Nat
 | 0=>0
 | n+1=>cnt f n+(if f n=true then 1 else 0)
theorem ko{f g:Nat->Bool}:∀{n:Nat},(∀ k,k<n->f k=g k)->cnt f n=cnt g n
 | 0,_=>rfl
 | n+1,h=>by
   unfold cnt;rw[ko fun k hk=>h k (by lia),h n (by lia)]
theorem ue{f g:Nat->Bool}{h:Nat}(hg:g h=true):∀{p:Nat},h<p->(∀ x,x<p->f x=(g x && !decide (x=h)))->cnt g p=cnt f p+1
 | 0,hh,_=>absurd hh (Nat.not_lt_zero _)
 | p+1,hh,e=>by
   unfold cnt
   by_cases q:h=p
   ·subst q;have z:cnt g h=cnt f h:=ko fun k hk=>by rw[e k (by lia)];simp[show k≠h by lia]
    rw[z,if_pos hg,e h (by lia)]
    simp
   ·rw[ue hg (by lia) fun x hx=>e x (by lia),e p (by lia)]
    simp[Ne.symm q]
    lia
theorem gF(f:Nat->Bool):∀ n,((List.range n).filter f).length=cnt f n
 | 0=>rfl
 | n+1=>by
   rw[List.range_succ,List.filter_append,List.length_append,gF f n];show _=cnt f n+(if f n=true then 1 else 0)
   cases h:f n with
   | true=>rw[List.filter_cons,if_pos h];rfl
   | false=>rw[List.filter_cons,if_neg (by rw[h];simp)];rfl
theorem qg(f:Nat->Bool):∀ n,cnt f n+cnt (fun k=>!f k) n=n
 | 0=>rfl
 | n+1=>by
   have ih:=qg f n;unfold cnt;cases h:f n<;>simp<;>lia
theorem yk{f:Nat->Bool}:∀{n:Nat},(∀ k,k<n->f k=true)->cnt f n=n
 | 0,_=>rfl
 | n+1,h=>by
   unfold cnt;rw[yk fun k hk=>h k (by lia),if_pos (h n (by lia))]
variable {N:Net}{S:Nat->Bool}
def Net.root(N:Net)(S:Nat->Bool)(k x:Nat):Bool:=decide (N.aS S k x=x)
theorem iZ(k:Nat):N.aS S (k+1)=if S k=true then join (N.aS S k) (N.a k) (N.b k) else N.aS S k:=by
 conv=>lhs;unfold Net.aS
theorem nR{k x:Nat}(h:x<N.p):N.aS S k x<N.p:=Nat.lt_of_le_of_lt (sZ k x) h
theorem DF{L:Nat->Nat}{u v:Nat}(hr:∀ x,L (L x)=L x)(hne:L u≠L v)(x:Nat):decide (join L u v x=x)=(decide (L x=x) && !decide (x=max (L u) (L v))):=by
 have hhi:L (max (L u) (L v))=max (L u) (L v):=by
  rcases Nat.le_total (L u) (L v) with q|q
  ·rw[Nat.max_eq_right q];exact hr v
  ·rw[Nat.max_eq_left q];exact hr u
 have hlo:L (min (L u) (L v))=min (L u) (L v):=by
  rcases Nat.le_total (L u) (L v) with q|q
  ·rw[Nat.min_eq_left q];exact hr u
  ·rw[Nat.min_eq_right q];exact hr v
 unfold join
 by_cases h:L x=max (L u) (L v)
 ·rw[if_pos h];have h1 : ¬ min (L u) (L v)=x:=fun z=>by
   rw[<-z,hlo]at h
   lia
  by_cases h2:x=max (L u) (L v)
  ·simp[h1,h2]
   lia
  ·have h3 : ¬ L x=x:=fun z=>h2 (z.symm.trans h)
   simp[h1,h3]
 ·rw[if_neg h];have h2 : ¬ x=max (L u) (L v):=fun z=>h (by rw[z];exact hhi)
  simp[h2]
theorem uf{k:Nat}(hk:k<N.n):cnt (N.root S k) N.p=cnt (N.root S (k+1)) N.p+(if(S k && !decide (N.aS S k (N.a k)=N.aS S k (N.b k)))=true then 1 else 0):=by
 cases hs:S k with
 | false =>
   have e:N.root S (k+1)=N.root S k:=by unfold Net.root;rw[iZ,if_neg (by rw[hs];simp)]
   rw[e];simp
 | true =>
   by_cases h:N.aS S k (N.a k)=N.aS S k (N.b k)
   ·have e:N.root S (k+1)=N.root S k:=by unfold Net.root;rw[iZ,if_pos hs,wG h]
    rw[e];simp[h]
   ·have hhi:N.aS S k (max (N.aS S k (N.a k)) (N.aS S k (N.b k)))=max (N.aS S k (N.a k)) (N.aS S k (N.b k)):=by
     rcases Nat.le_total (N.aS S k (N.a k)) (N.aS S k (N.b k)) with q|q
     ·rw[Nat.max_eq_right q];exact cj _ _
     ·rw[Nat.max_eq_left q];exact cj _ _
    have h1:=nR (S:=S) (k:=k) (N.al k hk);have h2:=nR (S:=S) (k:=k) (N.bl k hk);rw[ue (f:=N.root S (k+1)) (g:=N.root S k) (h:=max (N.aS S k (N.a k)) (N.aS S k (N.b k))) (eG hhi) (by lia) fun x _=>by
     unfold Net.root;rw[iZ,if_pos hs];exact DF (cj k) h x]
    simp[h]
theorem lE:∀ k,k<=N.n->cnt (N.root (fun _=>true) k) N.p+cnt N.gz k=N.p
 | 0,_=>by
   show cnt (N.root (fun _=>true) 0) N.p+0=N.p
   rw[yk (f:=N.root (fun _=>true) 0) fun x _=>eG rfl]
   rfl
 | k+1,hk=>by
   have ih:=lE k (by lia)
   have st:=uf (N:=N) (S:=fun _=>true) (k:=k) (by lia)
   have e:((fun _=>true:Nat->Bool) k && !decide (N.aS (fun _=>true) k (N.a k)=N.aS (fun _=>true) k (N.b k)))=N.gz k:=by rw[Bool.true_and];rfl
   rw[e]at st;show cnt (N.root (fun _=>true) (k+1)) N.p+(cnt N.gz k+if N.gz k=true then 1 else 0)=N.p
   lia
theorem zP:(N.n:Int)-N.p+cnt (N.root (fun _=>true) N.n) N.p=(cnt (fun k=>!N.gz k) N.n:Nat):=by
 have h:=lE (N:=N) N.n (Nat.le_refl _);have h2:=qg N.gz N.n
 lia
def Net.ak(N:Net):List Nat:=(List.range N.n).filter fun k=>!N.gz k
theorem cW{c:Nat}:c∈N.ak↔c<N.n/\N.gz c=false:=by
 unfold Net.ak;rw[List.mem_filter,List.mem_range];simp
theorem pg:N.ak.length=cnt (fun k=>!N.gz k) N.n:=gF _ _
theorem jh{m n:Nat}(h:∀ k,m.testBit k=true->k<n):m<2^n:=Nat.lt_pow_two_of_testBit m fun k hk=>by
 cases q:m.testBit k with
 | false=>rfl
 | true=>exact absurd (h k q) (by lia)
theorem cD{m n k:Nat}(h:m<2^n)(hb:m.testBit k=true):k<n:=by
 by_cases q:k<n
 ·exact q
 ·have z:=Nat.testBit_lt_two_pow (Nat.lt_of_lt_of_le h (Nat.pow_le_pow_right (by decide) (show n<=k by lia)))
  rw[hb]at z;cases z
theorem Fy{m q:Nat}(hm:m<2^N.n)(hq:q<2^N.n)(em:N.fS m)(eq:N.fS q)(h:∀ c,c<N.n->N.gz c=false->m.testBit c=q.testBit c):m=q:=by
 have z:m^^^q=0:=iM (N:=N) (fun k hk=>by
  have hk':=cD (Nat.xor_lt_two_pow hm hq) hk;refine⟨hk',?_⟩;cases hf:N.gz k with
  | true=>rfl
  | false =>
    rw[Nat.testBit_xor,h k hk' hf]at hk;simp at hk) (fS.xor em eq)
 have e:m=m^^^q^^^q:=by rw[Nat.xor_assoc,Nat.xor_self,Nat.xor_zero]
 rw[e,z,Nat.zero_xor]
theorem nS{c:Nat}(h:c<N.n):N.ring c<2^N.n:=jh fun k hk=>by
 rcases qa hk with rfl|⟨q,_⟩
 ·exact h
 ·exact q
theorem ji{c d:Nat}(hc:N.gz c=false)(hd:N.gz d=false):(N.ring c).testBit d=decide (c=d):=by
 by_cases e:c=d
 ·subst e;rw[qf hc];simp
 ·cases q:(N.ring c).testBit d with
  | false=>simp[e]
  | true=>rcases qa q with rfl | ⟨_,r⟩
          ·exact absurd rfl e
          ·rw[hd]at r;cases r
end RM
namespace Ring
open PySem L2
def maskOf(f:Nat->Bool):Nat->Nat
 | 0=>0
 | n+1=>(if f n=true then 2^n else 0)+maskOf f n
theorem mask_lt(f:Nat->Bool):∀ n,maskOf f n<2^n
 | 0=>by show 0<1;decide
 | n+1=>by
   have ih:=mask_lt f n;have e:2^(n+1)=2^n+2^n:=by rw[Nat.pow_succ];lia
   unfold maskOf
   split<;>lia
theorem mask_bit(f:Nat->Bool)(j:Nat):∀ n,(maskOf f n).testBit j=(decide (j<n)&&f j)
 | 0=>by simp[maskOf]
 | n+1=>by
   have ih:=mask_bit f j n;have hl:=mask_lt f n;unfold maskOf
   by_cases h:f n=true
   ·rw[if_pos h];rcases Nat.lt_trichotomy j n with q|q|q
    ·rw[Nat.testBit_two_pow_add_gt q,ih];simp[q,show j<n+1 by lia]
    ·subst q;rw[Nat.testBit_two_pow_add_eq,ih];simp[h]
    ·have z:2^n+maskOf f n<2^j:=Nat.lt_of_lt_of_le (show 2^n+maskOf f n<2^(n+1) by rw[Nat.pow_succ];lia) (Nat.pow_le_pow_right (by decide) q)
     rw[Nat.testBit_lt_two_pow z];simp[show ¬ j<n+1 by lia]
   ·rw[if_neg h,Nat.zero_add,ih]
    by_cases q:j=n
    ·subst q;have h' : f j=false:=by simpa using h
     simp[h']
    ·by_cases r:j<n
     ·simp[r,show j<n+1 by lia]
     ·simp[r,show ¬ j<n+1 by lia]
theorem Fz(n:Nat):maskOf (fun _=>true) n=2^n-1:=by
 induction n with
 | zero=>rfl
 | succ n ih =>
   unfold maskOf;rw[ih,if_pos rfl,Nat.pow_succ];have:=Nat.two_pow_pos n
   lia
theorem ym(n j:Nat):(2^n-1).testBit j=decide (j<n):=by
 rw[<-Fz,mask_bit];simp
theorem KW{a b x y:Nat}(q:x/2+y/2=a/2+b/2)(h:x%2+y%2=a%2+b%2):x+y=a+b:=by lia
theorem KY{u v:Nat}(hu:u=0\/u=1)(hv:v=0\/v=1):(u ||| v)+(u&&&v)=u+v:=by
 rcases hu with rfl|rfl<;>rcases hv with rfl|rfl<;>rfl
theorem KZ:∀ a b:Nat,(a ||| b)+(a&&&b)=a+b:=by
 intro a
 induction a using Nat.strongRecOn with
 | ind a ih =>
   intro b
   by_cases h:a=0
   ·subst h;simp
   ·have q:=ih (a/2) (by lia) (b/2)
    rw[<-Nat.or_div_two,<-Nat.and_div_two]at q;refine KW q ?_;have e1:(a ||| b)%2=a%2 ||| b%2:=Nat.or_mod_two_pow (n:=1)
    have e2:(a&&&b)%2=a%2&&&b%2:=Nat.and_mod_two_pow (n:=1);rw[e1,e2];exact KY (Nat.mod_two_eq_zero_or_one a) (Nat.mod_two_eq_zero_or_one b)
theorem or_int(a b:Nat):Builtin.bitOr (a:Int) (b:Int)=((a ||| b:Nat):Int):=by
 have q:=KZ a b;rw[PyProof.Rows.bitOr_and,PyProof.Rows.bitAnd_pp (by lia) (by lia)]
 have h:(a:Int)+b-((a&&&b:Nat):Int)=((a ||| b:Nat):Int):=by lia
 simpa using h
theorem tu(k:Nat):(1:Int)*2^(k:Int).toNat=((2^k:Nat):Int):=by
 rw[Int.toNat_natCast,Int.one_mul];simp
theorem kq{ts:List cg}{k:Nat}(h:k<ts.length):cM ts k∈ts:=by
 unfold cM;rw[List.getD_eq_getElem?_getD];simp[h]
theorem rF{ts:List cg}{k:Nat}(h:k<ts.length):ts[k]?=some (cM ts k):=by
 unfold cM;rw[List.getD_eq_getElem?_getD];simp[h]
def az.N{p:Nat}{ts:List cg}(g:az p ts):RM.Net where
 p:=p
 n:=ts.length
 a:=fun k=>(cM ts k).1.toNat
 b:=fun k=>(cM ts k).2.1.toNat
 al:=fun k hk=>by
  have z:=g.uc _ (kq hk);have z0:=z.a0;have z1:=z.a1
  lia
 bl:=fun k hk=>by
  have z:=g.uc _ (kq hk);have z0:=z.b0;have z1:=z.b1
  lia
 ne:=fun k hk e=>by
  have z:=g.uc _ (kq hk);have z0:=z.a0;have z1:=z.b0;exact z.ne (by lia)
theorem Cq{p:Nat}{ts:List cg}{g:az p ts}{k:Nat}(h:k<ts.length):(cM ts k).1=((g.N.a k:Nat):Int):=by
 have z:=(g.uc _ (kq h)).a0;show _=(((cM ts k).1.toNat:Nat):Int)
 lia
theorem Cr{p:Nat}{ts:List cg}{g:az p ts}{k:Nat}(h:k<ts.length):(cM ts k).2.1=((g.N.b k:Nat):Int):=by
 have z:=(g.uc _ (kq h)).b0;show _=(((cM ts k).2.1.toNat:Nat):Int)
 lia
theorem Io{p:Nat}{ts:List cg}{g:az p ts}{k:Nat}(h:k<ts.length)(x:Nat):Hv ts k x%2=if g.N.inc k x=true then 1 else 0:=by
 unfold Hv RM.Net.inc;rw[rF h];dsimp only;rw[Cq (g:=g) h,Cr (g:=g) h];generalize g.N.a k=u;generalize g.N.b k=v
 by_cases h1:u=x
 ·by_cases h2:v=x
  ·simp[h1,h2]
  ·have QE : ¬((v:Int)=(x:Int)):=by lia
   simp[h1,h2,QE]
 ·have MJ : ¬((u:Int)=(x:Int)):=by lia
  by_cases h2:v=x
  ·simp[h1,h2,MJ]
  ·have QE : ¬((v:Int)=(x:Int)):=by lia
   simp[h1,h2,MJ,QE]
theorem FA{p:Nat}{ts:List cg}{g:az p ts}(m x:Nat):∀ n,n<=ts.length->((List.range n).map fun k=>if m.testBit k=true then Hv ts k x else 0).sum%2=if RM.bK (fun k=>m.testBit k&&g.N.inc k x) n=true then 1 else 0
 | 0,_=>rfl
 | n+1,h=>by
   have ih:=FA (g:=g) m x n (by lia)
   have hd:=Io (g:=g) (k:=n) (by lia) x
   rw[List.range_succ,List.map_append,List.sum_append];show(_+((if m.testBit n=true then Hv ts n x else 0)+0))%2=if(RM.bK _ n^^(m.testBit n&&g.N.inc n x))=true then 1 else 0
   generalize ((List.range n).map fun k=>if m.testBit k=true then Hv ts k x else 0).sum=u at ih ⊢
   generalize RM.bK (fun k=>m.testBit k&&g.N.inc k x) n=v at ih ⊢
   generalize g.N.inc n x=i at hd ⊢;generalize Hv ts n x=d at hd ⊢;cases m.testBit n<;>cases v<;>cases i<;>simp at ih hd ⊢ <;> lia
theorem Ct{p:Nat}{ts:List cg}(g:az p ts){m:Nat}(hm:m<2^ts.length){x:Nat}:decide ((fR p ts (m:Int)).getD x 0%2=1)=g.N.bd m x:=by
 rw[Fo g.KU.QD,kg hm,sum_filter];have h:=FA (g:=g) m x ts.length (Nat.le_refl _);rw[h];show _=RM.bK _ ts.length;generalize RM.bK (fun k=>m.testBit k&&g.N.inc k x) ts.length=v
 cases v<;>simp
theorem kr{p:Nat}{ts:List cg}(g:az p ts){m:Nat}(hm:m<2^ts.length):kc p ts (m:Int)=[]↔g.N.fS m:=by
 unfold kc;rw[List.filter_eq_nil_iff]
 constructor
 ·intro h x hx;have q:=h x (List.mem_range.mpr hx);rw[Ct g hm]at q
  simpa using q
 ·intro h x hx;rw[Ct g hm,h x (List.mem_range.mp hx)];simp
def ik(f:Nat->Nat)(n:Nat):List V:=(List.range n).map fun x=>V.int ((f x:Nat):Int)
theorem fU(f:Nat->Nat)(n:Nat):(ik f n).length=n:=by unfold ik;rw[List.length_map,List.length_range]
theorem cz{f:Nat->Nat}{n x:Nat}(h:x<n):(ik f n)[x]?=some (.int ((f x:Nat):Int)):=by
 unfold ik;rw[List.getElem?_map,List.getElem?_range h];rfl
theorem tw{f:Nat->Nat}{n x:Nat}{v:V}(h:(ik f n)[x]?=some v):x<n/\v = .int ((f x:Nat):Int):=by
 have hx:x<n:=by
  have:=(zj.mp h).1
  rwa [fU]at this
 rw[cz hx]at h;exact⟨hx,(Option.some.inj h).symm⟩
theorem wI(f:Nat->Nat)(n:Nat):ik f (n+1)=ik f n++[.int ((f n:Nat):Int)]:=by
 unfold ik;rw[List.range_succ,List.map_append];rfl
theorem FD(p:Nat):(List.replicate p [V.int 0]).flatten=ik (fun _=>0) p:=by
 induction p with
 | zero=>rfl
 | succ p ih =>
   rw[wI,<-ih,List.replicate_succ',List.flatten_append];rfl
def yn(f:Nat->Nat)(H:Hp)(D:Addr)(i:Nat)(acc:List V)(H2:Hp):Prop:=au H H2/\H2 D=some (.lst acc)/\acc=ik f i
section
variable {f:Nat->Nat}{H H2 H3:Hp}{D:Addr}{i:Nat}{acc:List V}{v:V}
theorem yn.start(hD:H D=none):yn f H D 0 [] (upd H D (.lst [])):=⟨au.new hD,aj,rfl⟩
theorem yn.len(p:yn f H D i acc H2):H2 D=some (.lst acc)/\acc.length<=i:=⟨p.2.1,by rw[p.2.2,fU];exact Nat.le_refl _⟩
theorem yn.next(p:yn f H D i acc H2)(hD:H D=none)(s:au H2 H3)(hv:v = .int ((f i:Nat):Int)):H3 D=some (.lst acc)/\yn f H D (i+1) (acc++[v]) (upd H3 D (.lst (acc++[v]))):=by
 refine⟨s _ _ p.2.1,(p.1.trans s).put hD,aj,?_⟩;rw[wI,<-p.2.2,hv]
end
theorem wJ{N:RM.Net}{m:Nat}:∀ n,((List.range n).filter fun k=>m.testBit k).foldl (fun L k=>RM.join L (N.a k) (N.b k)) (fun x=>x)=N.aS (fun k=>m.testBit k) n
 | 0=>rfl
 | n+1=>by
   rw[bQ,List.foldl_append,wJ n,RM.iZ]
   split<;>rfl
end Ring
namespace RM
theorem pA{N:Net}{S S' : Nat->Bool}:∀{n:Nat},(∀ k,k<n->S k=S' k)->N.aS S n=N.aS S' n
 | 0,_=>rfl
 | n+1,h=>by rw[iZ,iZ,pA fun k hk=>h k (by lia),h n (by lia)]
end RM
namespace Ring
open PySem L2
def pieceOf(L:Nat->Nat)(p s:Nat):List Nat:=(List.range p).filter fun x=>decide (L x=s)
def bR(L:Nat->Nat)(p:Nat):List Nat:=(List.range p).filter fun x=>decide (L x=x)
def JG(D:Addr)(H0 H:Hp)(y:V)(l:List Nat):Prop:=∃ b,y = .ref b/\b≠D/\H0 b=none/\H b=some (.lst (aV l))
def ug(L:Nat->Nat)(p:Nat)(H:Hp)(D:Addr)(i:Nat)(H2:Hp):Prop:=au H H2/\∃ ys,H2 D=some (.lst ys)/\Paired (JG D H H2) ys ((bR L i).map (pieceOf L p))/\ys.length<=i
section
variable {L:Nat->Nat}{p i:Nat}{H H2 H3:Hp}{D b:Addr}
theorem ug.start(hD:H D=none):ug L p H D 0 (upd H D (.lst [])):=⟨au.new hD,[],aj,.nil,Nat.le_refl _⟩
theorem uh:bR L (i+1)=bR L i++(if L i=i then[i] else[]):=by
 unfold bR;rw[bQ]
 by_cases h:L i=i<;>simp[h]
theorem ug.skip(h:ug L p H D i H2)(hn : ¬ L i=i):ug L p H D (i+1) H2:=by
 obtain⟨s,ys,hd,pr,hl⟩:=h;refine⟨s,ys,hd,?_,by lia⟩
 rw[uh,if_neg hn,List.append_nil];exact pr
theorem ug.push(h:ug L p H D i H2)(hD:H D=none)(hr:L i=i)(s:au H2 H3)(hb:H2 b=none)(YW:H3 b=some (.lst (aV (pieceOf L p i)))):
 ∃ ys,H3 D=some (.lst ys)/\ys.length<=i/\ug L p H D (i+1) (upd H3 D (.lst (ys++[.ref b]))):=by
 obtain⟨s2,ys,hd,pr,hl⟩:=h;have ML:=s _ _ hd;have WX:b≠D:=fun e=>by rw[e,hd]at hb;cases hb
 refine⟨ys,ML,hl,(s2.trans s).put hD,ys++[.ref b],aj,?_,by rw[List.length_append,List.length_singleton];lia⟩
 rw[uh,if_pos hr,List.map_append];refine Paired.snoc (Paired.imp' (fun _ _ ⟨e,he,hn,h0,q⟩=>⟨e,he,hn,h0,by rw[aT hn];exact s _ _ q⟩) pr) ?_
 exact⟨b,rfl,WX,s2.free hb,by rw[aT WX];exact YW⟩
end
def sj(p:Nat)(ts:List cg)(g:az p ts)(ks:List Nat):Nat->Nat:=ks.foldl (fun L k=>RM.join L (g.N.a k) (g.N.b k)) fun x=>x
theorem Bk{p:Nat}{ts:List cg}{g:az p ts}{ks:List Nat}{k:Nat}:sj p ts g (ks++[k])=RM.join (sj p ts g ks) (g.N.a k) (g.N.b k):=by
 unfold sj;rw[List.foldl_append];rfl
def bx(p:Nat)(ts:List cg)(g:az p ts)(m:Nat):Nat->Nat:=g.N.aS (fun k=>m.testBit k) ts.length
theorem Bl{p:Nat}{ts:List cg}{g:az p ts}{m:Nat}(hm:m<2^ts.length):sj p ts g (bw (m:Int))=bx p ts g m:=by
 unfold sj bx;rw[kg hm];exact wJ _
theorem Ip{p:Nat}{ts:List cg}{g:az p ts}:bx p ts g (2^ts.length-1)=g.N.cG ts.length:=by
 unfold bx RM.Net.cG;exact RM.pA fun k hk=>by rw[ym];simp[hk]
theorem Iq{p:Nat}{ts:List cg}{g:az p ts}:(ts.length:Int)-(p:Int)+(bR (bx p ts g (2^ts.length-1)) p).length=(g.N.ak.length:Int):=by
 have h:=RM.zP (N:=g.N);rw[RM.pg];unfold bR;rw[RM.gF,Ip];exact h
theorem Ir(a b:Nat):(if(b:Int)<(a:Int) then(b:Int) else(a:Int))=((min a b:Nat):Int):=by
 split<;>lia
theorem Cu(a b:Nat):(if(b:Int) > (a:Int) then(b:Int) else(a:Int))=((max a b:Nat):Int):=by
 split<;>lia
theorem gY(a b:Nat):decide (V.int (a:Int)=V.int (b:Int))=decide (a=b):=by
 rw[Bool.eq_iff_iff];simp
 lia
end Ring
namespace RM
variable {N:Net}{S:Nat->Bool}
variable {pt r j:Nat}{l:List Nat}
theorem FE{l:List Nat}:∀{p:Nat},l.Nodup->(∀ x∈l,x<p)->l.length<=p:=by
 intro p hn hl;have hp:l.Perm ((List.range p).filter fun x=>decide (x∈l)):=by
  refine(List.perm_ext_iff_of_nodup hn (List.Pairwise.filter _ List.nodup_range)).mpr fun a=>?_
  rw[List.mem_filter,List.mem_range];simp;exact fun h=>hl a h
 rw[hp.length_eq];have:=List.length_filter_le (fun x=>decide (x∈l)) (List.range p)
 rwa [List.length_range]at this
end RM
namespace Ring
open PySem L2
theorem Bo{L:Nat->Nat}{p s:Nat}(hle:∀ x,L x<=x)(hs:L s=s)(hp:s<p):(pieceOf L p s)[0]?=some s:=by
 unfold pieceOf;obtain⟨d,rfl⟩:=Nat.exists_eq_add_of_lt hp;rw[show s+d+1=s+(d+1) by lia,List.range_add,List.filter_append]
 have e:(List.range s).filter (fun x=>decide (L x=s))=[]:=by
  rw[List.filter_eq_nil_iff];intro x hx;have h1:=List.mem_range.mp hx;have h2:=hle x;simp
  lia
 rw[e,List.nil_append,List.range_succ_eq_map,List.map_cons,List.filter_cons,if_pos (by simp[hs])]
 rfl
theorem um(u:Nat)(l:List Nat):HZ (.int (u:Int)) (aV l)=decide (u∈l):=by
 unfold HZ aV;rw[List.any_map,Bool.eq_iff_iff,List.any_eq_true];simp only[Function.comp,decide_eq_true_eq]
 constructor
 ·rintro⟨x,hx,h⟩;have e:((x:Nat):Int)=(u:Int):=eq_of_beq h;have:x=u:=by lia
  exact this▸hx
 ·intro h;exact⟨u,h,by simp[HY]⟩
theorem wK(l:List Nat):(aV l).all pT=true:=by
 unfold aV;rw[List.all_map,List.all_eq_true];intro x _;rfl
theorem and_int(a b:Nat):Builtin.bitAnd (a:Int) (b:Int)=((a&&&b:Nat):Int):=by
 rw[PyProof.Rows.bitAnd_pp (by lia) (by lia)]
 simp
def LB(T:Nat->Nat):Nat->Nat
 | 0=>0
 | n+1=>LB T n ||| T n
theorem Cv(T:Nat->Nat)(j:Nat):∀ n,(LB T n).testBit j=true↔∃ x,x<n/\(T x).testBit j=true
 | 0=>by simp[LB]
 | n+1=>by
   unfold LB;rw[Nat.testBit_or,Bool.or_eq_true,Cv T j n]
   constructor
   ·rintro(⟨x,hx,h⟩|h)
    ·exact⟨x,by lia,h⟩
    ·exact⟨n,by lia,h⟩
   ·rintro⟨x,hx,h⟩
    by_cases e:x=n
    ·subst e;exact .inr h
    ·exact .inl ⟨x,by lia,h⟩
section
variable {p:Nat}{ts:List cg}{g:az p ts}
def jG(p:Nat)(ts:List cg)(g:az p ts):Nat:=maskOf g.N.gz ts.length
theorem Bp:LB (g.N.trail ts.length) p=jG p ts g:=by
 refine Nat.eq_of_testBit_eq fun j=>?_
 unfold jG;rw[mask_bit,Bool.eq_iff_iff,Cv];simp only[Bool.and_eq_true,decide_eq_true_eq]
 constructor
 ·rintro⟨x,_,h⟩;exact RM.kj _ _ _ h
 ·rintro⟨h1,h2⟩;rcases RM.DE (N:=g.N) h1 h2 with h|h
  ·exact⟨_,g.N.al j h1,h⟩
  ·exact⟨_,g.N.bl j h1,h⟩
theorem Bq(j:Nat):((2^ts.length-1)^^^jG p ts g).testBit j=(decide (j<ts.length) && !g.N.gz j):=by
 unfold jG;rw[Nat.testBit_xor,ym,mask_bit];cases decide (j<ts.length)<;>cases g.N.gz j<;>rfl
theorem wL:(2^ts.length-1)^^^jG p ts g<2^ts.length:=Nat.xor_lt_two_pow (by have:=Nat.two_pow_pos ts.length;lia) (mask_lt _ _)
theorem zQ:bw (((2^ts.length-1)^^^jG p ts g:Nat):Int)=g.N.ak:=by
 rw[kg wL];unfold RM.Net.ak;refine List.filter_congr fun k hk=>?_
 have:=List.mem_range.mp hk;rw[Bq];simp[this]
end
theorem Iu(n:Nat):((2:Int)^n-1)=((2^n-1:Nat):Int):=by
 have h:((2:Int)^n)=((2^n:Nat):Int):=by simp
 have:=Nat.two_pow_pos n
 lia
theorem K0{S:Int}{l:List Nat}(h:∀ c∈l,S≠((c:Nat):Int)):HZ (.int S) (aV l)=false:=by
 unfold HZ aV;rw[List.any_map,List.any_eq_false];intro x hx z;exact h x hx (eq_of_beq z).symm
theorem oJ{c:Nat}:∀{n:Nat},c<n->(List.range n).filter (fun k=>decide (k=c))=[c]
 | 0,h=>absurd h (Nat.not_lt_zero _)
 | n+1,h=>by
   rw[bQ]
   by_cases e:c=n
   ·subst e;have z:(List.range c).filter (fun k=>decide (k=c))=[]:=by
     rw[List.filter_eq_nil_iff];intro x hx;have:=List.mem_range.mp hx;simp
     lia
    rw[z];simp
   ·rw[oJ (by lia)]
    simp[Ne.symm e]
theorem tD{l:List Nat}{i:Nat}{k:Nat}(h:l[i]?=some k):(aV l)[i]?=some (.int (k:Int)):=by
 unfold aV;rw[List.getElem?_map,h];rfl
def pB(f:Nat->Bool)(l:List Nat)(H:Hp)(D:Addr)(i:Nat)(acc:List V)(H2:Hp):Prop:=au H H2/\H2 D=some (.lst acc)/\acc=aV ((l.take i).filter f)
section
variable {f:Nat->Bool}{l:List Nat}{H H2 H3:Hp}{D:Addr}{i k:Nat}{acc:List V}
theorem pB.start(hD:H D=none):pB f l H D 0 [] (upd H D (.lst [])):=⟨au.new hD,aj,rfl⟩
theorem pB.len(p:pB f l H D i acc H2):H2 D=some (.lst acc)/\acc.length<=i:=by
 refine⟨p.2.1,?_⟩;rw[p.2.2,aM];exact Nat.le_trans (List.length_filter_le _ _) (by rw[List.length_take];lia)
theorem pB.yes(p:pB f l H D i acc H2)(hD:H D=none)(s:au H2 H3)(hk:l[i]?=some k)(hf:f k=true):H3 D=some (.lst acc)/\pB f l H D (i+1) (acc++[.int (k:Int)]) (upd H3 D (.lst (acc++[.int (k:Int)]))):=by
 refine⟨s _ _ p.2.1,(p.1.trans s).put hD,aj,?_⟩;rw[List.take_add_one,hk,List.filter_append];show _=aV (_++[k].filter f);rw[List.filter_cons,if_pos hf,List.filter_nil,o5,<-p.2.2]
theorem pB.no(p:pB f l H D i acc H2)(s:au H2 H3)(hk:l[i]?=some k)(hf:f k=false):pB f l H D (i+1) acc H3:=by
 refine⟨p.1.trans s,s _ _ p.2.1,?_⟩;rw[List.take_add_one,hk,List.filter_append];show _=aV (_++[k].filter f);rw[List.filter_cons,if_neg (by rw[hf];simp),List.filter_nil,List.append_nil]
 exact p.2.2
theorem pB.fin(p:pB f l H D l.length acc H2):H2 D=some (.lst (aV (l.filter f))):=by rw[p.2.1,p.2.2,List.take_length]
end
def uo(f:Nat->Int)(l:List Nat)(H:Hp)(D:Addr)(i:Nat)(acc:List V)(H2:Hp):Prop:=au H H2/\H2 D=some (.lst acc)/\acc=((l.take i).map f).map V.int
section
variable {f:Nat->Int}{l:List Nat}{H H2 H3:Hp}{D:Addr}{i k:Nat}{acc:List V}{v:V}
theorem uo.start(hD:H D=none):uo f l H D 0 [] (upd H D (.lst [])):=⟨au.new hD,aj,rfl⟩
theorem uo.len(p:uo f l H D i acc H2):H2 D=some (.lst acc)/\acc.length<=i:=by
 refine⟨p.2.1,?_⟩;rw[p.2.2,List.length_map,List.length_map,List.length_take]
 lia
theorem uo.next(p:uo f l H D i acc H2)(hD:H D=none)(s:au H2 H3)(hk:l[i]?=some k)(hv:v = .int (f k)):H3 D=some (.lst acc)/\uo f l H D (i+1) (acc++[v]) (upd H3 D (.lst (acc++[v]))):=by
 refine⟨s _ _ p.2.1,(p.1.trans s).put hD,aj,?_⟩;rw[List.take_add_one,hk,List.map_append,List.map_append,<-p.2.2,hv];rfl
theorem uo.fin(p:uo f l H D l.length acc H2):H2 D=some (.lst ((l.map f).map V.int)):=by rw[p.2.1,p.2.2,List.take_length]
end
end Ring
namespace RM
theorem zR(f:Nat->Bool):∀ n,bK f n=decide (cnt f n%2=1)
 | 0=>rfl
 | n+1=>by
   unfold bK cnt;rw[zR f n]
   by_cases h:f n=true
   ·rw[h,if_pos rfl]
    by_cases q:cnt f n%2=1
    ·have q' : ¬(cnt f n+1)%2=1:=by lia
     simp[q,q']
    ·have q' : (cnt f n+1)%2=1:=by lia
     simp[q,q']
   ·have h' : f n=false:=by simpa using h
    rw[h',if_neg (by decide)]
    simp
end RM
namespace Ring
open PySem L2
section
variable {p:Nat}{ts:List cg}(g:az p ts)
include g
end
end Ring
namespace RM
def sm(f:Nat->Nat):Nat->Nat
 | 0=>0
 | n+1=>sm f n+f n
theorem iq{f g:Nat->Nat}:∀{n:Nat},(∀ k,k<n->f k=g k)->sm f n=sm g n
 | 0,_=>rfl
 | n+1,h=>by
   show sm f n+f n=sm g n+g n;rw[iq fun k hk=>h k (by lia),h n (by lia)]
theorem uq(f g:Nat->Nat):∀ n,sm (fun k=>f k+g k) n=sm f n+sm g n
 | 0=>rfl
 | n+1=>by
   show sm (fun k=>f k+g k) n+(f n+g n)=sm f n+f n+(sm g n+g n)
   rw[uq f g n]
   lia
theorem tE:∀ n,sm (fun _=>0) n=0
 | 0=>rfl
 | n+1=>by
   show sm (fun _=>0) n+0=0
   rw[tE n]
theorem Cw(f:Nat->Nat->Nat)(n:Nat):∀ p,sm (fun x=>sm (fun k=>f x k) n) p=sm (fun k=>sm (fun x=>f x k) p) n
 | 0=>(tE n).symm
 | p+1=>by
   show sm (fun x=>sm (fun k=>f x k) n) p+sm (fun k=>f p k) n=sm (fun k=>sm (fun x=>f x k) p+f p k) n
   rw[Cw f n p,uq]
theorem jj(f:Nat->Bool):∀ n,cnt f n=sm (fun k=>if f k=true then 1 else 0) n
 | 0=>rfl
 | n+1=>by
   show cnt f n+(if f n=true then 1 else 0)=sm (fun k=>if f k=true then 1 else 0) n+(if f n=true then 1 else 0)
   rw[jj f n]
theorem Cy{f g:Nat->Nat}:∀{n:Nat},(∀ k,k<n->f k<=g k)->sm f n<=sm g n
 | 0,_=>Nat.le_refl _
 | n+1,h=>by
   have h1:=Cy (f:=f) (g:=g) (n:=n) fun k hk=>h k (by lia)
   have h2:=h n (by lia)
   show sm f n+f n<=sm g n+g n
   lia
theorem JH{f g:Nat->Nat}{n:Nat}(h:∀ k,k<n->f k<=g k)(e:sm f n=sm g n):∀ k,k<n->f k=g k:=by
 induction n with
 | zero=>exact fun k hk=>absurd hk (Nat.not_lt_zero _)
 | succ n ih =>
   intro k hk;have h1:=Cy (f:=f) (g:=g) (n:=n) fun k hk=>h k (by lia)
   have h2:=h n (by lia)
   have e:sm f n+f n=sm g n+g n:=e
   by_cases hkn:k=n
   ·subst hkn
    lia
   ·exact ih (fun j hj=>h j (by lia)) (by lia) k (by lia)
theorem K1{f g:Nat->Bool}{n:Nat}(h:∀ k,k<n->f k=true->g k=true):cnt f n<=cnt g n:=by
 rw[jj,jj];refine Cy fun k hk=>?_
 by_cases hf:f k=true
 ·rw[if_pos hf,if_pos (h k hk hf)];exact Nat.le_refl _
 ·rw[if_neg hf];exact Nat.zero_le _
theorem FG{f g:Nat->Bool}{n:Nat}(h:∀ k,k<n->f k=true->g k=true)(e:cnt f n=cnt g n):∀ k,k<n->g k=true->f k=true:=fun k hk hg=>by
 rw[jj,jj]at e;have q:=JH (n:=n) (fun k hk=>by
  by_cases hf:f k=true
  ·rw[if_pos hf,if_pos (h k hk hf)];exact Nat.le_refl _
  ·rw[if_neg hf];exact Nat.zero_le _) e k hk
 rw[if_pos hg]at q
 by_cases hf:f k=true
 ·exact hf
 ·rw[if_neg hf]at q
  lia
theorem qh{f:Nat->Bool}:∀{n:Nat},0<cnt f n->∃ k,k<n/\f k=true
 | 0,h=>absurd h (Nat.lt_irrefl _)
 | n+1,h=>by
   by_cases hf:f n=true
   ·exact⟨n,by lia,hf⟩
   ·have h:0<cnt f n+(if f n=true then 1 else 0):=h
    rw[if_neg hf]at h;obtain⟨k,hk,q⟩:=qh (f:=f) (n:=n) (by lia)
    exact⟨k,by lia,q⟩
theorem qi{f:Nat->Bool}{k:Nat}(hf:f k=true):∀{n:Nat},k<n->0<cnt f n
 | 0,h=>absurd h (Nat.not_lt_zero _)
 | n+1,h=>by
   show 0<cnt f n+(if f n=true then 1 else 0)
   by_cases hk:k=n
   ·subst hk;rw[if_pos hf]
    lia
   ·have:=qi hf (n:=n) (by lia)
    lia
theorem qj{f:Nat->Bool}:∀{n:Nat},2<=cnt f n->∃ c d,c<d/\d<n/\f c=true/\f d=true
 | 0,h=>absurd h (by show ¬ 2<=0;lia)
 | n+1,h=>by
   have h:2<=cnt f n+(if f n=true then 1 else 0):=h
   by_cases hf:f n=true
   ·rw[if_pos hf]at h;obtain⟨k,hk,q⟩:=qh (f:=f) (n:=n) (by lia)
    exact⟨k,n,hk,by lia,q,hf⟩
   ·rw[if_neg hf]at h;obtain⟨c,d,h1,h2,h3,h4⟩:=qj (f:=f) (n:=n) (by lia)
    exact⟨c,d,h1,by lia,h3,h4⟩
theorem yo{f:Nat->Bool}{u v:Nat}(hu:f u=true)(hv:f v=true)(ne:u≠v):∀{n:Nat},u<n->v<n->2<=cnt f n
 | 0,h,_=>absurd h (Nat.not_lt_zero _)
 | n+1,h1,h2=>by
   show 2<=cnt f n+(if f n=true then 1 else 0)
   by_cases e1:u=n
   ·subst e1;have:=qi hv (n:=u) (by lia)
    rw[if_pos hu]
    lia
   ·by_cases e2:v=n
    ·subst e2;have:=qi hu (n:=v) (by lia)
     rw[if_pos hv]
     lia
    ·have:=yo hu hv ne (n:=n) (by lia) (by lia)
     lia
theorem yp(a:Nat):∀ n,cnt (fun x=>decide (a=x)) n=if a<n then 1 else 0
 | 0=>rfl
 | n+1=>by
   show cnt (fun x=>decide (a=x)) n+(if decide (a=n)=true then 1 else 0)=_
   rw[yp a n]
   by_cases e:a=n
   ·subst e;simp
   ·have d:(if decide (a=n)=true then 1 else 0)=0:=if_neg (by simpa using e)
    rw[d]
    by_cases h:a<n
    ·rw[if_pos h,if_pos (by lia)]
    ·rw[if_neg h,if_neg (by lia)]
theorem yq{f g:Nat->Bool}:∀{n:Nat},(∀ x,x<n->¬(f x=true/\g x=true))->cnt (fun x=>f x^^g x) n=cnt f n+cnt g n
 | 0,_=>rfl
 | n+1,h=>by
   show cnt (fun x=>f x^^g x) n+(if(f n^^g n)=true then 1 else 0)=cnt f n+(if f n=true then 1 else 0)+(cnt g n+(if g n=true then 1 else 0))
   rw[yq fun x hx=>h x (by lia)]
   have q:=h n (by lia)
   cases hf:f n<;>cases hg:g n
   ·simp
   ·simp
    lia
   ·simp
    lia
   ·exact absurd ⟨hf,hg⟩ q
variable {N:Net}
def Net.dg(N:Net)(m x:Nat):Nat:=cnt (fun k=>m.testBit k&&N.inc k x) N.n
theorem JI(m x:Nat):N.bd m x=decide (N.dg m x%2=1):=zR _ _
theorem yr{m x:Nat}(e:N.fS m)(hx:x<N.p):N.dg m x%2=0:=by
 have h:=e x hx;rw[JI]at h;have:=of_decide_eq_false h
 lia
theorem tF{k x:Nat}(hk:k<N.n):N.inc k x=true↔(N.a k=x\/N.b k=x):=by
 have ne:=N.ne k hk;unfold Net.inc
 by_cases h1:N.a k=x
 ·have h2 : ¬ N.b k=x:=fun z=>ne (h1.trans z.symm)
  simp[h1,h2]
 ·by_cases h2:N.b k=x
  ·simp[h1,h2]
  ·simp[h1,h2]
theorem Iv{k:Nat}(hk:k<N.n):cnt (N.inc k) N.p=2:=by
 have ne:=N.ne k hk;have e:cnt (N.inc k) N.p=cnt (fun x=>decide (N.a k=x)^^decide (N.b k=x)) N.p:=rfl
 rw[e,yq fun x _ ⟨h1,h2⟩=>ne ((mG h1).trans (mG h2).symm),yp,yp,if_pos (N.al k hk),if_pos (N.bl k hk)]
theorem FH(m:Nat):sm (fun x=>N.dg m x) N.p=2*cnt (fun k=>m.testBit k) N.n:=by
 have e:sm (fun x=>N.dg m x) N.p=sm (fun x=>sm (fun k=>if(m.testBit k&&N.inc k x)=true then 1 else 0) N.n) N.p:=iq fun x _=>jj _ _
 rw[e,Cw,jj];have d:∀ n,2*sm (fun k=>if m.testBit k=true then 1 else 0) n=sm (fun k=>(if m.testBit k=true then 1 else 0)+(if m.testBit k=true then 1 else 0)) n:=fun n=>by
  rw[uq]
  lia
 rw[d];refine iq fun k hk=>?_
 by_cases h:m.testBit k=true
 ·rw[if_pos h];have q:=Iv hk;rw[jj]at q;show _=2;exact(iq fun x _=>by rw[h,Bool.true_and]).trans q
 ·rw[if_neg h];have h' : m.testBit k=false:=by simpa using h
  have:sm (fun x=>if(m.testBit k&&N.inc k x)=true then 1 else 0) N.p=sm (fun _=>0) N.p:=iq fun x _=>by rw[h'];rfl
  rw[this,tE]
theorem MM{q m:Nat}(h:∀ k,q.testBit k=true->m.testBit k=true)(x:Nat):N.dg q x<=N.dg m x:=K1 fun k _ hq=>by
 rw[Bool.and_eq_true]at hq ⊢;exact⟨h k hq.1,hq.2⟩
theorem zS{m k x:Nat}(hk:k<N.n)(hb:m.testBit k=true)(hx:N.a k=x\/N.b k=x):0<N.dg m x:=qi (k:=k) (by rw[hb,Bool.true_and];exact(tF hk).mpr hx) hk
theorem yt{m x:Nat}(h:0<N.dg m x):∃ k,k<N.n/\m.testBit k=true/\(N.a k=x\/N.b k=x):=by
 obtain⟨k,hk,q⟩:=qh h;rw[Bool.and_eq_true]at q;exact⟨k,hk,q.1,(tF hk).mp q.2⟩
theorem alone{m x y:Nat}(h:N.dg m x=0)(c:N.jO (fun k=>m.testBit k) N.n x y):y=x:=by
 induction c with
 | refl=>rfl
 | fwd _ hj hs ih=>exact absurd (zS hj hs (.inl ih)) (by lia)
 | bwd _ hj hs ih=>exact absurd (zS hj hs (.inr ih)) (by lia)
theorem DG{S:Nat->Bool}{k u v:Nat}(hk:k<=N.n)(c:N.jO S k u v):∃ t,(∀ j,t.testBit j=true->j<k/\S j=true)/\∀ x,N.bd t x=(decide (u=x)^^decide (v=x)):=by
 induction c with
 | refl=>exact⟨0,fun j hj=>by simp at hj,fun x=>by rw[p8];simp⟩
 | fwd _ hj hs ih =>
   rename_i j _
   obtain⟨t,h1,h2⟩:=ih;refine⟨t^^^2^j,fun i hi=>?_,fun x=>?_⟩
   ·rw[Nat.testBit_xor,Nat.testBit_two_pow]at hi
    by_cases e:j=i
    ·subst e;exact⟨hj,hs⟩
    ·rw[ia e,Bool.xor_false]at hi;exact h1 i hi
   ·rw[iF,h2,pe (by lia)]
    unfold Net.inc;cases decide (u=x)<;>cases decide (N.a j=x)<;>cases decide (N.b j=x)<;>rfl
 | bwd _ hj hs ih =>
   rename_i j _
   obtain⟨t,h1,h2⟩:=ih;refine⟨t^^^2^j,fun i hi=>?_,fun x=>?_⟩
   ·rw[Nat.testBit_xor,Nat.testBit_two_pow]at hi
    by_cases e:j=i
    ·subst e;exact⟨hj,hs⟩
    ·rw[ia e,Bool.xor_false]at hi;exact h1 i hi
   ·rw[iF,h2,pe (by lia)]
    unfold Net.inc;cases decide (u=x)<;>cases decide (N.a j=x)<;>cases decide (N.b j=x)<;>rfl
def Net.Ring(N:Net)(m:Nat):Prop:=m≠0/\N.fS m/\∀ q,(∀ k,q.testBit k=true->m.testBit k=true)->N.fS q->q=0\/q=m
section
variable {m s:Nat}
theorem Iw(hm:m<2^N.n)(ev:N.fS m)(C:Nat->Bool)(hC:∀ x,x<N.p->C x=decide (N.aS (fun k=>m.testBit k) N.n x=s))(h2:2<=cnt C N.p)
 (zT:∀ k,k<N.n->m.testBit k=true->C (N.a k)=true) (hl:cnt C N.p=cnt (fun k=>m.testBit k) N.n):N.Ring m:=by
 have JJ:∀ k,k<N.n->m.testBit k=true->C (N.a k)=true/\C (N.b k)=true:=fun k hk hb=>by
  have h:=zT k hk hb;refine⟨h,?_⟩;rw[hC _ (N.al k hk)]at h;rw[hC _ (N.bl k hk)];rw[fT (S:=fun k=>m.testBit k) hk hb]at h
  exact h
 have pos:∀ x,x<N.p->C x=true->0<N.dg m x:=fun x hx hc=>by
  cases hz:N.dg m x with
  | succ d=>lia
  | zero =>
    exfalso
    obtain⟨y,hy,LC,hne⟩:∃ y,y<N.p/\C y=true/\y≠x:=by
     obtain⟨c,d,h1,h3,h4,h5⟩:=qj h2
     by_cases e:c=x
     ·exact⟨d,h3,h5,by lia⟩
     ·exact⟨c,by lia,h4,e⟩
    rw[hC x hx]at hc;rw[hC y hy]at LC;exact hne (alone hz (ck _ _ _ ((mG hc).trans (mG LC).symm)))
 have two:∀ x,x<N.p->(if C x=true then 2 else 0)=N.dg m x:=by
  refine JH (fun x hx=>?_) ?_
  ·by_cases hc:C x=true
   ·rw[if_pos hc];have h1:=pos x hx hc;have h3:=yr ev hx
    lia
   ·rw[if_neg hc];exact Nat.zero_le _
  ·rw[FH,<-hl,jj];have d:∀ n,2*sm (fun k=>if C k=true then 1 else 0) n=sm (fun k=>(if C k=true then 1 else 0)+(if C k=true then 1 else 0)) n:=fun n=>by
    rw[uq]
    lia
   rw[d];exact iq fun x _=>by split<;>rfl
 obtain⟨c0,hc0,hcc⟩:=qh (f:=C) (n:=N.p) (by lia)
 refine⟨fun z=>?_,ev,fun q hq eq=>?_⟩
 ·have h:=pos c0 hc0 hcc;obtain⟨k,_,hb,_⟩:=yt h;rw[z]at hb;simp at hb
 ·by_cases OM:q=0
  ·exact .inl OM
  ·right
   have full:∀ x,x<N.p->0<N.dg q x->∀ k,k<N.n->m.testBit k=true->(N.a k=x\/N.b k=x)->q.testBit k=true:=fun x hx h k hk hb LD=>by
    have h1:=MM (N:=N) hq x;have h3:=yr eq hx;have h4:=two x hx;have h5:N.dg q x=N.dg m x:=by
     by_cases hc:C x=true
     ·rw[if_pos hc]at h4
      lia
     ·rw[if_neg hc]at h4
      lia
    have h6:=FG (f:=fun k=>q.testBit k&&N.inc k x) (g:=fun k=>m.testBit k&&N.inc k x) (n:=N.n) (fun k _ z=>by
     rw[Bool.and_eq_true]at z ⊢;exact⟨hq k z.1,z.2⟩) h5 k hk (by rw[hb,Bool.true_and];exact(tF hk).mpr LD)
    rw[Bool.and_eq_true]at h6;exact h6.1
   obtain⟨k0,hb0⟩:∃ k,q.testBit k=true:=Nat.exists_testBit_of_ne_zero OM;have hk0:k0<N.n:=cD hm (hq k0 hb0);have spread:∀{y},N.jO (fun k=>m.testBit k) N.n (N.a k0) y->0<N.dg q y:=fun {y} c=>by
    induction c with
    | refl=>exact zS hk0 hb0 (.inl rfl)
    | fwd _ hj hs ih=>exact zS hj (full _ (N.al _ hj) ih _ hj hs (.inl rfl)) (.inr rfl)
    | bwd _ hj hs ih=>exact zS hj (full _ (N.bl _ hj) ih _ hj hs (.inr rfl)) (.inl rfl)
   refine Nat.eq_of_testBit_eq fun k=>?_
   cases hb:m.testBit k with
   | false =>
     cases hz:q.testBit k with
     | false=>rfl
     | true =>
       have:=hq k hz;rw[hb]at this;cases this
   | true =>
     have hk:=cD hm hb;have e1:=(JJ k hk hb).1;have e2:=(JJ k0 hk0 (hq k0 hb0)).1;rw[hC _ (N.al k hk)]at e1;rw[hC _ (N.al k0 hk0)]at e2;exact full _ (N.al k hk) (spread (ck _ _ _ ((mG e2).trans (mG e1).symm))) k hk hb (.inl rfl)
theorem Br(hm:m<2^N.n)(r:N.Ring m):∃ k0,k0<N.n/\m.testBit k0=true/\∀ k,k<N.n->m.testBit k=true->N.aS (fun k=>m.testBit k) N.n (N.a k)=N.aS (fun k=>m.testBit k) N.n (N.a k0):=by
 obtain⟨h0,ev,mn⟩:=r;obtain⟨k0,hb0⟩:=Nat.exists_testBit_of_ne_zero h0;have hk0:=cD hm hb0;refine⟨k0,hk0,hb0,?_⟩;generalize hs:N.aS (fun k=>m.testBit k) N.n (N.a k0)=s
 have bit:∀ k,(Ring.maskOf (fun k=>m.testBit k&&decide (N.aS (fun k=>m.testBit k) N.n (N.a k)=s)) N.n).testBit k=(decide (k<N.n)&&(m.testBit k&&decide (N.aS (fun k=>m.testBit k) N.n (N.a k)=s))):=fun k=>Ring.mask_bit _ k _
 have sub:∀ k,(Ring.maskOf (fun k=>m.testBit k&&decide (N.aS (fun k=>m.testBit k) N.n (N.a k)=s)) N.n).testBit k=true->m.testBit k=true:=fun k hk=>by
  rw[bit,Bool.and_eq_true,Bool.and_eq_true]at hk;exact hk.2.1
 have QF:N.fS (Ring.maskOf (fun k=>m.testBit k&&decide (N.aS (fun k=>m.testBit k) N.n (N.a k)=s)) N.n):=fun x hx=>by
  have e:N.bd (Ring.maskOf (fun k=>m.testBit k&&decide (N.aS (fun k=>m.testBit k) N.n (N.a k)=s)) N.n) x=(decide (N.aS (fun k=>m.testBit k) N.n x=s)&&N.bd m x):=by
   unfold Net.bd;rw[<-p5];refine bS fun k hk=>?_
   rw[bit,eG hk,Bool.true_and];cases hb:m.testBit k with
   | false=>simp
   | true =>
     cases hi:N.inc k x with
     | false=>simp
     | true =>
       have el:N.aS (fun k=>m.testBit k) N.n (N.a k)=N.aS (fun k=>m.testBit k) N.n x:=by
        rcases(tF hk).mp hi with z|z
        ·rw[z]
        ·rw[<-z];exact fT (S:=fun k=>m.testBit k) hk hb
       rw[el];simp
  rw[e,ev x hx,Bool.and_false]
 rcases mn _ sub QF with q|q
 ·have:=bit k0;rw[q,hb0,hs,eG hk0]at this;simp at this
 ·intro k hk hb;have h:=bit k;rw[q,hb,eG hk]at h;exact mG (by simpa using h.symm)
theorem wN(S:Nat->Bool):∀ k,k<=N.n->cnt (N.root S k) N.p+cnt (fun j=>S j && !decide (N.aS S j (N.a j)=N.aS S j (N.b j))) k=N.p
 | 0,_=>by
   show cnt (N.root S 0) N.p+0=N.p;rw[yk (f:=N.root S 0) fun x _=>eG rfl]
   rfl
 | k+1,hk=>by
   have ih:=wN S k (by lia)
   have st:=uf (N:=N) (S:=S) (k:=k) (by lia)
   show cnt (N.root S (k+1)) N.p+(cnt (fun j=>S j && !decide (N.aS S j (N.a j)=N.aS S j (N.b j))) k+if(S k && !decide (N.aS S k (N.a k)=N.aS S k (N.b k)))=true then 1 else 0)=N.p
   lia
theorem FI(hm:m<2^N.n)(r:N.Ring m)(C:Nat->Bool)(hC:∀ x,x<N.p->C x=decide (N.aS (fun k=>m.testBit k) N.n x=s))
 (zT:∀ k,k<N.n->m.testBit k=true->C (N.a k)=true):2<=cnt C N.p/\cnt C N.p=cnt (fun k=>m.testBit k) N.n/\∀ x,x<N.p->C x=false->N.aS (fun k=>m.testBit k) N.n x=x/\∀ y,N.aS (fun k=>m.testBit k) N.n y=x->y=x:=by
 obtain⟨h0,ev,mn⟩:=r;obtain⟨k0,hb0⟩:=Nat.exists_testBit_of_ne_zero h0;have hk0:=cD hm hb0;have JJ:∀ k,k<N.n->m.testBit k=true->C (N.a k)=true/\C (N.b k)=true:=fun k hk hb=>by
  have h:=zT k hk hb;refine⟨h,?_⟩;rw[hC _ (N.al k hk)]at h;rw[hC _ (N.bl k hk),<-fT (S:=fun k=>m.testBit k) hk hb]
  exact h
 have h2:2<=cnt C N.p:=yo (JJ k0 hk0 hb0).1 (JJ k0 hk0 hb0).2 (N.ne k0 hk0) (N.al k0 hk0) (N.bl k0 hk0);have none:∀ x,x<N.p->C x=false->N.dg m x=0:=fun x hx hc=>by
  cases hz:N.dg m x with
  | zero=>rfl
  | succ d =>
    exfalso
    obtain⟨k,hk,hb,LD⟩:=yt (N:=N) (m:=m) (x:=x) (by lia)
    rcases LD with e|e
    ·have:=(JJ k hk hb).1;rw[e,hc]at this;cases this
    ·have:=(JJ k hk hb).2;rw[e,hc]at this;cases this
 have Iz:∀ x,x<N.p->C x=false->N.aS (fun k=>m.testBit k) N.n x=x/\∀ y,N.aS (fun k=>m.testBit k) N.n y=x->y=x:=fun x hx hc=>by
  have hz:=none x hx hc;have r1:N.aS (fun k=>m.testBit k) N.n x=x:=alone hz (ck _ _ _ (cj _ _).symm)
  exact⟨r1,fun y hy=>alone hz (ck _ _ _ (r1.trans hy.symm))⟩
 refine⟨h2,?_,Iz⟩;have pos:∀ x,x<N.p->C x=true->0<N.dg m x:=fun x hx hc=>by
  cases hz:N.dg m x with
  | succ d=>lia
  | zero =>
    exfalso
    obtain⟨y,hy,LC,hne⟩:∃ y,y<N.p/\C y=true/\y≠x:=by
     obtain⟨c,d,h1,h3,h4,h5⟩:=qj h2
     by_cases e:c=x
     ·exact⟨d,h3,h5,by lia⟩
     ·exact⟨c,by lia,h4,e⟩
    rw[hC x hx]at hc;rw[hC y hy]at LC;exact hne (alone hz (ck _ _ _ ((mG hc).trans (mG LC).symm)))
 have ge:cnt C N.p<=cnt (fun k=>m.testBit k) N.n:=by
  have h:sm (fun x=>if C x=true then 2 else 0) N.p<=sm (fun x=>N.dg m x) N.p:=Cy fun x hx=>by
   by_cases hc:C x=true
   ·rw[if_pos hc];have h1:=pos x hx hc;have h3:=yr ev hx
    lia
   ·rw[if_neg hc];exact Nat.zero_le _
  rw[FH]at h;have d:sm (fun x=>if C x=true then 2 else 0) N.p=2*cnt C N.p:=by
   rw[jj];have d:∀ n,2*sm (fun k=>if C k=true then 1 else 0) n=sm (fun k=>(if C k=true then 1 else 0)+(if C k=true then 1 else 0)) n:=fun n=>by
    rw[uq]
    lia
   rw[d];exact iq fun x _=>by split<;>rfl
  lia
 refine Nat.le_antisymm ge (Nat.le_of_not_lt fun more=>?_)
 have QG:=wN (N:=N) (fun k=>m.testBit k) N.n (Nat.le_refl _)
 have hr:cnt (N.root (fun k=>m.testBit k) N.n) N.p+cnt C N.p=N.p+1:=by
  have hc0:=(JJ k0 hk0 hb0).1;rw[hC _ (N.al k0 hk0)]at hc0;have hs:=mG hc0;have B8:s<N.p:=by rw[<-hs];exact nR (N.al k0 hk0)
  have hss:N.aS (fun k=>m.testBit k) N.n s=s:=by rw[<-hs];exact cj _ _
  have e:cnt (N.root (fun k=>m.testBit k) N.n) N.p=cnt (fun x=>!C x^^decide (s=x)) N.p:=ko fun x hx=>by
   unfold Net.root;cases hc:C x with
   | false =>
     have ne : ¬ s=x:=fun z=>by
      have:=hC x hx;rw[hc,<-z,hss]at this;simp at this
     rw[eG (Iz x hx hc).1,ia ne];rfl
   | true =>
     have h:=hC x hx;rw[hc]at h;have h:=mG h.symm;rw[h];simp
  rw[e,yq fun x hx ⟨z1,z2⟩=>by
   have z2:=mG z2;have:=hC x hx;rw[<-z2,hss]at this;rw[<-z2,this]at z1;simp at z1,yp,if_pos B8]
  have:=qg C N.p
  lia
 have split:cnt (fun k=>m.testBit k) N.n=cnt (fun j=>m.testBit j && !decide (N.aS (fun k=>m.testBit k) j (N.a j)=N.aS (fun k=>m.testBit k) j (N.b j))) N.n+cnt (fun j=>m.testBit j&&decide (N.aS (fun k=>m.testBit k) j (N.a j)=N.aS (fun k=>m.testBit k) j (N.b j))) N.n:=by
  rw[<-yq fun x _ ⟨z1,z2⟩=>by
   rw[Bool.and_eq_true]at z1 z2;have:=z1.2;rw[z2.2]at this;cases this]
  refine ko fun k _=>?_
  cases m.testBit k<;>cases decide (N.aS (fun k=>m.testBit k) k (N.a k)=N.aS (fun k=>m.testBit k) k (N.b k))<;>rfl
 obtain⟨c,d,hcd,hd,hc1,hd1⟩:=qj (f:=fun j=>m.testBit j&&decide (N.aS (fun k=>m.testBit k) j (N.a j)=N.aS (fun k=>m.testBit k) j (N.b j))) (n:=N.n) (by lia)
 have whole:∀ j,j<N.n->(m.testBit j&&decide (N.aS (fun k=>m.testBit k) j (N.a j)=N.aS (fun k=>m.testBit k) j (N.b j)))=true->∀ i,m.testBit i=true->i<=j:=fun j hj h i hi=>by
  rw[Bool.and_eq_true]at h;obtain⟨t,t1,t2⟩:=DG (Nat.le_of_lt hj) (ck _ _ _ (mG h.2));have own:(t^^^2^j).testBit j=true:=by
   rw[Nat.testBit_xor,Nat.testBit_two_pow,eG rfl];cases hz:t.testBit j with
   | false=>rfl
   | true=>exact absurd (t1 j hz).1 (Nat.lt_irrefl _)
  have sub:∀ k,(t^^^2^j).testBit k=true->m.testBit k=true:=fun k hk=>by
   rw[Nat.testBit_xor,Nat.testBit_two_pow]at hk
   by_cases e:j=k
   ·subst e;exact h.1
   ·rw[ia e,Bool.xor_false]at hk;exact(t1 k hk).2
  have QF:N.fS (t^^^2^j):=fun x hx=>by
   rw[iF,t2,pe hj];unfold Net.inc;cases decide (N.a j=x)<;>cases decide (N.b j=x)<;>rfl
  rcases mn _ sub QF with q|q
  ·rw[q]at own;simp at own
  ·rw[<-q,Nat.testBit_xor,Nat.testBit_two_pow]at hi
   by_cases e:j=i
   ·lia
   ·rw[ia e,Bool.xor_false]at hi;exact Nat.le_of_lt (t1 i hi).1
 have h1:m.testBit d=true:=by
  rw[Bool.and_eq_true]at hd1;exact hd1.1
 have:=whole c (by lia) hc1 d h1
 lia
end
end RM
namespace Ring
open PySem L2
def dQ(L:Nat->Nat)(p:Nat):List Nat:=(bR L p).filter fun s=>decide (1<(pieceOf L p s).length)
def K2(L:Nat->Nat)(p k:Nat):List Nat->Bool
 | [s]=>decide ((pieceOf L p s).length=k)
 | _=>false
def qk(p:Nat)(ts:List cg)(g:az p ts)(m:Nat):Bool:=decide (kc p ts (m:Int)=[])&&K2 (bx p ts g m) p (bw (m:Int)).length (dQ (bx p ts g m) p)
theorem i0(L:Nat->Nat)(p s:Nat):(pieceOf L p s).length=RM.cnt (fun x=>decide (L x=s)) p:=RM.gF _ _
theorem zU{m n:Nat}(hm:m<2^n):(bw (m:Int)).length=RM.cnt (fun k=>m.testBit k) n:=by
 rw[kg hm];exact RM.gF _ _
theorem wO{f:Nat->Bool}{n c:Nat}(hc:c<n)(h:∀ k,k<n->f k=decide (k=c)):(List.range n).filter f=[c]:=by
 rw[<-oJ hc];exact List.filter_congr fun k hk=>h k (List.mem_range.mp hk)
theorem wQ{p:Nat}{ts:List cg}(g:az p ts){m:Nat}(hm:m<2^ts.length):qk p ts g m=true↔g.N.Ring m:=by
 have eL:bx p ts g m=g.N.aS (fun k=>m.testBit k) g.N.n:=rfl
 have ep:g.N.p=p:=rfl
 constructor
 ·intro h;unfold qk at h;rw[Bool.and_eq_true]at h;obtain⟨h1,h2⟩:=h;have ev:=(kr g hm).mp (mG h1);unfold K2 at h2
  split at h2
  ·rename_i s hs
   have h2:=mG h2;have hmem:s∈dQ (bx p ts g m) p:=by rw[hs];exact List.mem_singleton.mpr rfl
   unfold dQ at hmem;have hlen:=mG (List.mem_filter.mp hmem).2;refine RM.Iw (s:=s) hm ev (fun x=>decide (bx p ts g m x=s)) (fun x _=>by rw[eL]) ?_ (fun k hk hb=>?_) ?_
   ·rw[ep,<-i0];exact hlen
   ·
    have WY:=g.N.al k hk;have MN:=g.N.bl k hk;have e:bx p ts g m (g.N.b k)=bx p ts g m (g.N.a k):=(RM.fT (S:=fun k=>m.testBit k) hk hb).symm
    have hr:bx p ts g m (bx p ts g m (g.N.a k))=bx p ts g m (g.N.a k):=RM.cj _ _;have hlt:bx p ts g m (g.N.a k)<p:=RM.nR WY;have ht:bx p ts g m (g.N.a k)∈dQ (bx p ts g m) p:=by
     unfold dQ bR;refine List.mem_filter.mpr ⟨List.mem_filter.mpr ⟨List.mem_range.mpr hlt,eG hr⟩,eG ?_⟩;rw[i0];exact RM.yo (u:=g.N.a k) (v:=g.N.b k) (eG rfl) (eG e) (g.N.ne k hk) WY MN
    rw[hs]at ht;exact eG (List.mem_singleton.mp ht)
   ·rw[ep,<-i0,h2];exact zU hm
  ·cases h2
 ·intro r;obtain⟨k0,hk0,hb0,hall⟩:=RM.Br hm r;generalize hs:g.N.aS (fun k=>m.testBit k) g.N.n (g.N.a k0)=s at hall
  obtain⟨h2,hl,Iz⟩:=RM.FI (s:=s) hm r (fun x=>decide (bx p ts g m x=s)) (fun x _=>by rw[eL]) (fun k hk hb=>eG (hall k hk hb))
  have B8:s<p:=by rw[<-hs];exact RM.nR (g.N.al k0 hk0)
  have hss:bx p ts g m s=s:=by rw[eL,<-hs];exact RM.cj _ _
  have ht:dQ (bx p ts g m) p=[s]:=by
   unfold dQ bR;rw[List.filter_filter];refine wO B8 fun x hx=>?_
   by_cases e:x=s
   ·subst e;rw[eG hss,i0,eG rfl,Bool.and_true];exact eG h2
   ·rw[ia e]
    by_cases LD:bx p ts g m x=x
    ·have hc:decide (bx p ts g m x=s)=false:=ia (by rw[LD];exact e)
     obtain⟨_,q⟩:=Iz x hx hc;have : ¬ 1<(pieceOf (bx p ts g m) p x).length:=fun z=>by
      rw[i0]at z;obtain⟨c,d,h1,_,h3,h4⟩:=RM.qj z;have h3:=q c (mG h3);have h4:=q d (mG h4)
      lia
     rw[ia this,Bool.false_and]
    ·rw[ia LD,Bool.and_false]
  unfold qk;rw[eG ((kr g hm).mpr r.2.1),ht,Bool.true_and];refine eG ?_;rw[i0,zU hm];exact hl
theorem Bt{p:Nat}{ts:List cg}{g:az p ts}{m:Nat}(ev:kc p ts (m:Int)=[]):qk p ts g m=K2 (bx p ts g m) p (bw (m:Int)).length (dQ (bx p ts g m) p):=by
 unfold qk;rw[eG ev,Bool.true_and]
theorem Cz:∀ l l' : List Nat,PyData.eqvAll (l.map o7) (l'.map o7)=decide (l=l')
 | [],[]=>rfl
 | [],_::_=>rfl
 | _::_,[]=>rfl
 | x::l,y::l'=>by
   show(((x:Int)==(y:Int))&&PyData.eqvAll (l.map o7) (l'.map o7))=decide (x::l=y::l');rw[Cz l l',Bool.eq_iff_iff];simp
   lia
theorem DH(l l' : List Nat):PyData.eqv (.list (l.map o7)) (.list (l'.map o7))=decide (l=l'):=Cz l l'
theorem CA{q m:Nat}:q&&&m=q↔∀ k,q.testBit k=true->m.testBit k=true:=by
 constructor
 ·intro h k hk;rw[<-h,Nat.testBit_and,Bool.and_eq_true]at hk;exact hk.2
 ·intro h;refine Nat.eq_of_testBit_eq fun k=>?_
  rw[Nat.testBit_and];cases hk:q.testBit k with
  | false=>rfl
  | true=>rw[h k hk];rfl
def dF(p:Nat)(ts:List cg):List Nat:=(List.range (2^ts.length)).filter fun k=>decide (0<k)&&decide (kc p ts (k:Int)=[])
theorem ur{p:Nat}{ts:List cg}(g:az p ts){m:Nat}(hm:m<2^ts.length):(dF p ts).filter (fun k=>decide (k&&&m=k))=[m]↔g.N.Ring m:=by
 unfold dF;rw[List.filter_filter]
 constructor
 ·intro h;have mem:∀ k,k<2^ts.length->((k&&&m=k/\0<k/\kc p ts (k:Int)=[])↔k=m):=fun k hk=>by
   have q:k∈(List.range (2^ts.length)).filter (fun k=>decide (k&&&m=k)&&(decide (0<k)&&decide (kc p ts (k:Int)=[])))↔k=m:=by rw[h];exact List.mem_singleton
   rw[List.mem_filter,Bool.and_eq_true,Bool.and_eq_true,decide_eq_true_eq,decide_eq_true_eq,decide_eq_true_eq,List.mem_range]at q;exact⟨fun z=>q.mp ⟨hk,z⟩,fun z=>(q.mpr z).2⟩
  obtain⟨_,h0,he⟩:=(mem m hm).mpr rfl;refine⟨by lia,(kr g hm).mp he,fun q hq eq=>?_⟩
  have WZ:=CA.mpr hq;have W0:q<2^ts.length:=by rw[<-WZ];exact Nat.and_lt_two_pow q hm
  by_cases OM:q=0
  ·exact .inl OM
  ·exact .inr ((mem q W0).mp ⟨WZ,by lia,(kr g W0).mpr eq⟩)
 ·intro r;refine wO hm fun k hk=>?_
  rw[Bool.eq_iff_iff,Bool.and_eq_true,Bool.and_eq_true,decide_eq_true_eq,decide_eq_true_eq,decide_eq_true_eq,decide_eq_true_eq]
  constructor
  ·rintro⟨h1,h2,h3⟩;rcases r.2.2 k (CA.mp h1) ((kr g hk).mp h3) with z|z
   ·lia
   ·exact z
  ·rintro rfl;exact⟨Nat.and_self _,Nat.pos_of_ne_zero r.1,(kr g hk).mpr r.2.1⟩
theorem wR{f:Nat->Bool}(h0:f 0=false):∀ i,((List.range (i+1)).filter f).length<=i
 | 0=>by
   show((List.range 1).filter f).length<=0;rw[show List.range 1=[0] from rfl]
   simp[h0]
 | i+1=>by
   rw[bQ,List.length_append];have:=wR h0 i
   split<;>simp<;>lia
def K3(H:Hp)(y:V)(l:List Nat):Prop:=∃ b,y = .ref b/\H b=some (.lst (aV l))
def uu(f:List Nat->Bool)(ls:List (List Nat))(H:Hp)(D:Addr)(i:Nat)(acc:List V)(H2:Hp):Prop:=au H H2/\H2 D=some (.lst acc)/\Paired (K3 H) acc ((ls.take i).filter f)
section
variable {f:List Nat->Bool}{ls:List (List Nat)}{H H2 H3:Hp}{D:Addr}{i:Nat}{acc:List V}{y:V}{l:List Nat}
theorem uu.start(hD:H D=none):uu f ls H D 0 [] (upd H D (.lst [])):=⟨au.new hD,aj,.nil⟩
theorem uu.len(h:uu f ls H D i acc H2):H2 D=some (.lst acc)/\acc.length<=i:=⟨h.2.1,by
 rw[h.2.2.length];exact Nat.le_trans (List.length_filter_le _ _) (by rw[List.length_take];lia)⟩
theorem uu.yes(h:uu f ls H D i acc H2)(hD:H D=none)(hl:ls[i]?=some l)(hf:f l=true)(hy:K3 H y l):H2 D=some (.lst acc)/\uu f ls H D (i+1) (acc++[y]) (upd H2 D (.lst (acc++[y]))):=by
 refine⟨h.2.1,h.1.put hD,aj,?_⟩;rw[List.take_add_one,hl,List.filter_append];show Paired _ _ (_++List.filter f [l]);rw[List.filter_cons,if_pos hf];exact Paired.snoc h.2.2 hy
theorem uu.no(h:uu f ls H D i acc H2)(hl:ls[i]?=some l)(hf:f l=false):uu f ls H D (i+1) acc H2:=by
 refine⟨h.1,h.2.1,?_⟩;rw[List.take_add_one,hl,List.filter_append];show Paired _ _ (_++List.filter f [l]);rw[List.filter_cons,if_neg (by rw[hf];exact Bool.false_ne_true)]
 simpa using h.2.2
end
def orM(ks:List Nat):Nat:=ks.foldl (fun m k=>m ||| 2^k) 0
theorem FJ(ks:List Nat)(j:Nat):∀ m,(ks.foldl (fun m k=>m ||| 2^k) m).testBit j=(m.testBit j || decide (j∈ks)):=by
 induction ks with
 | nil=>intro m;simp
 | cons k r ih =>
   intro m;rw[List.foldl_cons,ih,Nat.testBit_or,Nat.testBit_two_pow]
   by_cases h:k=j
   ·subst h;simp
   ·have h' : ¬ j=k:=fun z=>h z.symm
    simp[h,h']
theorem nU(ks:List Nat)(j:Nat):(orM ks).testBit j=decide (j∈ks):=by
 unfold orM;rw[FJ];simp
theorem zV(ks:List Nat){t:Nat}(h:t∉ks):orM (ks++[t])=orM ks^^^2^t:=Nat.eq_of_testBit_eq fun j=>by
 rw[Nat.testBit_xor,nU,nU,Nat.testBit_two_pow]
 by_cases e:t=j
 ·subst e;simp[h]
 ·have e' : ¬ j=t:=fun z=>e z.symm
  simp[e,e']
end Ring
namespace RM
variable {N:Net}
inductive Net.Walk(N:Net):List Nat->Nat->List Nat->Prop
 | one {v:Nat}:Net.Walk N [] v []
 | snoc {pre ks:List Nat} {v w t:Nat} (h:Net.Walk N pre v ks) (ht:t<N.n) (hn:t∉ks) (j:(N.a t=v/\N.b t=w)\/(N.b t=v/\N.a t=w)):Net.Walk N (pre++[v]) w (ks++[t])
theorem Net.Walk.len{pre ks:List Nat}{v:Nat}(h:N.Walk pre v ks):pre.length=ks.length:=by
 induction h with
 | one=>rfl
 | snoc _ _ _ _ ih=>rw[List.length_append,List.length_append,ih];rfl
theorem Net.Walk.lt{pre ks:List Nat}{v:Nat}(h:N.Walk pre v ks):∀ t∈ks,t<N.n:=by
 induction h with
 | one=>exact fun t ht=>nomatch ht
 | snoc _ ht _ _ ih =>
   intro s hs;rcases List.mem_append.mp hs with q|q
   ·exact ih s q
   ·have e:=List.mem_singleton.mp q;rw[e];exact ht
theorem Net.Walk.bd{pre ks:List Nat}{v:Nat}(h:N.Walk pre v ks):∀ i u,(pre++[v])[i]?=some u->∀ x,N.bd (Ring.orM (ks.drop i)) x=(decide (u=x)^^decide (v=x)):=by
 induction h with
 | one =>
   rename_i v
   intro i u hu x
   match i,hu with
   | 0,hu =>
     have e:v=u:=Option.some.inj hu;subst e;show N.bd 0 x=_;rw[p8];simp
   | i+1,hu=>simp at hu
 | snoc hw ht hn j ih =>
   rename_i pre ks v w t
   intro i u hu x;have hl:=hw.len
   by_cases hi:i<(pre++[v]).length
   ·rw[List.getElem?_append_left hi]at hu;have hi' : i<=ks.length:=by rw[List.length_append]at hi;simp at hi;lia
    rw[List.drop_append_of_le_length hi',Ring.zV _ (fun z=>hn (List.mem_of_mem_drop z)),iF,ih i u hu x,pe ht]
    have e:N.inc t x=(decide (v=x)^^decide (w=x)):=by
     unfold Net.inc;rcases j with⟨j1,j2⟩|⟨j1,j2⟩
     ·rw[j1,j2]
     ·rw[j1,j2];exact Bool.xor_comm _ _
    rw[e];cases decide (u=x)<;>cases decide (v=x)<;>cases decide (w=x)<;>rfl
   ·have hi2:i=(pre++[v]).length:=by
     have:=(zj.mp hu).1;rw[List.length_append]at this;simp at this hi ⊢
     lia
    rw[hi2,List.getElem?_append_right (Nat.le_refl _),Nat.sub_self]at hu;have e:w=u:=Option.some.inj hu;subst e;have:(ks++[t]).drop i=[]:=List.drop_eq_nil_of_le (by rw[hi2,List.length_append,List.length_append];simp;lia)
    rw[this];show N.bd 0 x=_;rw[p8];simp
structure Way(N:Net)(jk:Nat)(pre:List Nat)(v:Nat)(ks:List Nat)(left:Nat):Prop where
 w:N.Walk pre v ks
 lt:jk<2^N.n
 ev:N.fS jk
 sub:∀ t∈ks,jk.testBit t=true
 tG:left=jk^^^Ring.orM ks
 nd:pre.Nodup
 ON:∀ x∈pre++[v],x<N.p
 st:pre=[]->∃ t,t<N.n/\jk.testBit t=true/\N.a t=v
section
variable {jk left v:Nat}{pre ks:List Nat}
theorem Way.start{t:Nat}(lt:jk<2^N.n)(ev:N.fS jk)(hb:jk.testBit t=true):Way N jk [] (N.a t) [] jk:=by
 have ht:=cD lt hb;refine⟨.one,lt,ev,(fun _ z=>nomatch z),?_,List.Pairwise.nil,fun x hx=>?_,fun _=>⟨t,ht,hb,rfl⟩⟩
 ·show jk=jk^^^0;simp
 ·have e:x=N.a t:=by simpa using hx
  rw[e];exact N.al t ht
theorem Way.ql(h:Way N jk pre v ks left)(t:Nat):left.testBit t=(jk.testBit t && !decide (t∈ks)):=by
 rw[h.tG,Nat.testBit_xor,Ring.nU]
 by_cases hm:t∈ks
 ·rw[h.sub t hm,eG hm];rfl
 ·rw[ia hm];simp
theorem Way.CB(h:Way N jk pre v ks left):left<2^N.n:=jh fun k hk=>by
 rw[h.ql,Bool.and_eq_true]at hk;exact cD h.lt hk.1
theorem Way.on(h:Way N jk pre v ks left)(hv:v∉pre):∃ t,left.testBit t=true/\(N.a t=v\/N.b t=v):=by
 cases pre with
 | nil =>
   obtain⟨t,ht,hb,e⟩:=h.st rfl;have hk:ks=[]:=List.length_eq_zero_iff.mp (by rw[<-h.w.len];rfl)
   refine⟨t,?_,.inl e⟩;rw[h.ql,hb,hk];simp
 | cons u r =>
   have hb:=h.w.bd 0 u rfl v;rw[List.drop_zero]at hb;have hu : ¬ u=v:=fun z=>hv (by rw[z];exact List.mem_cons_self)
   rw[ia hu,eG rfl]at hb;have QH:v<N.p:=h.ON v (pO _ (List.mem_singleton.mpr rfl));have hl:N.bd left v=true:=by
    rw[h.tG,iF,h.ev v QH,hb];rfl
   rw[JI]at hl;have hp:=mG hl;obtain⟨k,hk,hkb,hx⟩:=yt (N:=N) (m:=left) (x:=v) (by lia)
   exact⟨k,hkb,hx⟩
theorem Way.go(h:Way N jk pre v ks left)(hv:v∉pre){t w:Nat}(hb:left.testBit t=true)(j:(N.a t=v/\N.b t=w)\/(N.b t=v/\N.a t=w)):
 Way N jk (pre++[v]) w (ks++[t]) (left^^^2^t):=by
 rw[h.ql,Bool.and_eq_true]at hb;have hn:t∉ks:=by simpa using hb.2
 have ht:=cD h.lt hb.1;refine⟨.snoc h.w ht hn j,h.lt,h.ev,fun s hs=>?_,?_,?_,fun x hx=>?_,fun z=>?_⟩
 ·rcases List.mem_append.mp hs with q|q
  ·exact h.sub s q
  ·rw[List.mem_singleton.mp q];exact hb.1
 ·rw[Ring.zV _ hn,h.tG,Nat.xor_assoc]
 ·refine List.nodup_append.mpr ⟨h.nd,by simp,fun x hx y hy=>?_⟩
  have e:y=v:=by simpa using hy
  rw[e];exact fun z=>hv (z▸hx)
 ·rcases List.mem_append.mp hx with q|q
  ·exact h.ON x q
  ·have e:x=w:=by simpa using q
   rw[e];rcases j with⟨_,j2⟩|⟨_,j2⟩
   ·rw[<-j2];exact N.bl t ht
   ·rw[<-j2];exact N.al t ht
 ·simp at z
theorem Way.closes(h:Way N jk pre v ks left){i:Nat}(hi:pre[i]?=some v):Ring.orM (ks.drop i)≠0/\N.fS (Ring.orM (ks.drop i))/\Ring.orM (ks.drop i)<2^N.n/\∀ k,(Ring.orM (ks.drop i)).testBit k=true->jk.testBit k=true:=by
 have MO:=(zj.mp hi).1;have hl:=h.w.len;have MP:∀ k,(Ring.orM (ks.drop i)).testBit k=true->k∈ks:=fun k hk=>by
  rw[Ring.nU]at hk;exact List.mem_of_mem_drop (mG hk)
 refine⟨fun z=>?_,fun x _=>?_,jh fun k hk=>h.w.lt k (MP k hk),fun k hk=>h.sub k (MP k hk)⟩
 ·have hne:ks.drop i≠[]:=fun q=>by
   have:=List.drop_eq_nil_iff.mp q
   lia
  obtain⟨k,hk⟩:=List.exists_mem_of_ne_nil _ hne;have:=Ring.nU (ks.drop i) k;rw[z,eG hk]at this;simp at this
 ·rw[h.w.bd i v (by rw[List.getElem?_append_left MO];exact hi) x]
  simp
end
end RM
namespace Ring
open PySem L2
def xorL(rs:List Nat):Nat:=rs.foldl (fun m r=>m^^^r) 0
theorem DI(rs:List Nat):∀ m,rs.foldl (fun m r=>m^^^r) m=m^^^xorL rs:=by
 induction rs with
 | nil=>intro m;show m=m^^^0;simp
 | cons r rs ih =>
   intro m;show rs.foldl (fun m r=>m^^^r) (m^^^r)=m^^^rs.foldl (fun m r=>m^^^r) (0^^^r)
   rw[ih,ih,Nat.zero_xor,Nat.xor_assoc]
theorem xorL_cons(rs:List Nat)(r:Nat):xorL (r::rs)=r^^^xorL rs:=by
 show rs.foldl (fun m r=>m^^^r) (0^^^r)=_
 rw[DI,Nat.zero_xor]
end Ring
namespace L2
open PySem PySem.Spec PyProof.Rows
theorem FL{X:Cx}:mO X (binaryOp .FloorDiv) (rI (fun _ j=>j≠0/\j.natAbs<2^1000) fun i j=>.int (i.fdiv j)):=Jv fun i j _ _ _ _ _ hc q=>by
 refine floordiv_int hc.1 q (.inl ?_);have h0:j.natAbs≠0:=by have:=hc.1;lia
 have h:j.natAbs.log2<1000:=(Nat.log2_lt h0).mpr hc.2;exact PyProof.noPylong_of_log2 (by lia)
theorem Bu{x d q:Int}(hd:d≠0)(h:x=d*q):x.fdiv d=q:=by
 rw[h,Int.fdiv_eq_ediv_of_dvd ⟨q,rfl⟩];exact Int.mul_ediv_cancel_left q hd
end L2
namespace Ring
open PySem L2
def ent(rs:List (List Int))(i j:Nat):Int:=(rs.getD i []).getD j 0
structure Tab(n:Nat)(rs:List (List Int)):Prop where
 len:rs.length=n
 row:∀ r∈rs,r.length=n
def CC(H:Hp)(x:V)(r:List Int):Prop:=∃ b,x = .ref b/\H b=some (.lst (aR r))
def TabAt(H:Hp)(t:Addr)(rs:List (List Int)):Prop:=∃ ys,H t=some (.lst ys)/\Paired (CC H) ys rs
theorem bD(l:List Int):(aR l).length=l.length:=by unfold aR;rw[List.length_map]
theorem Bv(l:List Int)(k:Int):aR (l++[k])=aR l++[.int k]:=by unfold aR;rw[List.map_append];rfl
theorem lF{l:List Int}{i:Nat}{x:V}(h:(aR l)[i]?=some x):i<l.length/\x = .int (l.getD i 0):=by
 unfold aR at h;rw[List.getElem?_map]at h;obtain⟨k,e,q⟩:=J7.mp h;have hi:i<l.length:=(zj.mp e).1;refine⟨hi,?_⟩;rw[List.getD_eq_getElem?_getD,e];exact q.symm
theorem lG{α β:Type}{F:α->β->Prop}{x:α}{y:β}(h:F x y):∀{l:List α} {r:List β} (i:Nat),Paired F l r->Paired F (l.set i x) (r.set i y)
 | _,_,_,.nil=>.nil
 | _,_,0,.cons _ t=>.cons h t
 | _,_,i+1,.cons a t=>.cons a (lG h i t)
theorem Bw{rs:List (List Int)}{i:Nat}(h:i<rs.length):rs[i]?=some (rs.getD i []):=by
 rw[List.getD_eq_getElem?_getD];simp[h]
theorem qm{rs:List (List Int)}{a:Nat}(ha:a<rs.length)(r:List Int)(i j:Nat):ent (rs.set a r) i j=if i=a then r.getD j 0 else ent rs i j:=by
 unfold ent
 by_cases h:i=a
 ·subst h;rw[if_pos rfl,List.getD_eq_getElem?_getD (l:=rs.set i r),List.getElem?_set_self ha];rfl
 ·rw[if_neg h,List.getD_eq_getElem?_getD (l:=rs.set a r),List.getElem?_set_ne (Ne.symm h),<-List.getD_eq_getElem?_getD]
theorem Tab.set{n:Nat}{rs:List (List Int)}(T:Tab n rs)(a:Nat){r:List Int}(h:r.length=n):Tab n (rs.set a r):=by
 refine⟨by rw[List.length_set,T.len],fun x hx=>?_⟩
 rcases List.mem_or_eq_of_mem_set hx with z|z
 ·exact T.row x z
 ·rw[z,h]
theorem Tab.zW{n:Nat}{rs:List (List Int)}(T:Tab n rs){i:Nat}(h:i<n):(rs.getD i []).length=n :=
 T.row _ (nJ (Bw (by rw[T.len];exact h)))
theorem TabAt.get{H:Hp}{ys:List V}{rs:List (List Int)}(pr:Paired (CC H) ys rs){n i:Nat}(T:Tab n rs)(h:i<n):∃ b,ys[i]?=some (.ref b)/\H b=some (.lst (aR (rs.getD i []))):=by
 have hy:i<ys.length:=by rw[pr.length,T.len];exact h
 obtain⟨r,hr,b,e,hb⟩:=Paired.mD pr (i:=i) (x:=ys[i]) (by simp[hy])
 rw[Bw (by rw[T.len];exact h)]at hr
 cases hr;exact⟨b,by rw[<-e];simp[hy],hb⟩
def lH(R:Addr)(H:Hp)(x:V)(r:List Int):Prop:=∃ b,x = .ref b/\b≠R/\H b=some (.lst (aR r))
theorem lH.same{R:Addr}{H H' : Hp}(s:au H H'){x:V}{r:List Int}(h:lH R H x r):lH R H' x r:=by
 obtain⟨b,e,n,h⟩:=h;exact⟨b,e,n,s _ _ h⟩
theorem lH.put{R:Addr}{H:Hp}{o:HO}{x:V}{r:List Int}(h:lH R H x r):lH R (upd H R o) x r:=by
 obtain⟨b,e,n,h⟩:=h;exact⟨b,e,n,by rw[aT n];exact h⟩
theorem lH.is{R:Addr}{H:Hp}{x:V}{r:List Int}(h:lH R H x r):CC H x r:=by
 obtain⟨b,e,n,h⟩:=h;exact⟨b,e,h⟩
theorem lH.get{R:Addr}{H:Hp}{ys:List V}{rs:List (List Int)}(pr:Paired (lH R H) ys rs){n i:Nat}(T:Tab n rs)(h:i<n):∃ b,ys[i]?=some (.ref b)/\b≠R/\H b=some (.lst (aR (rs.getD i []))):=by
 have hy:i<ys.length:=by rw[pr.length,T.len];exact h
 obtain⟨r,hr,b,e,nb,hb⟩:=Paired.mD pr (i:=i) (x:=ys[i]) (by simp[hy])
 rw[Bw (by rw[T.len];exact h)]at hr
 cases hr;exact⟨b,by rw[<-e];simp[hy],nb,hb⟩
def sr(n:Nat)(f:Nat->Int):List Int:=(List.range n).map f
theorem rG(n:Nat)(f:Nat->Int):(sr n f).length=n:=by unfold sr;rw[List.length_map,List.length_range]
theorem DJ{n j:Nat}(f:Nat->Int)(h:j<n):(sr n f).getD j 0=f j:=by
 unfold sr;rw[List.getD_eq_getElem?_getD,List.getElem?_map,List.getElem?_range h];rfl
def zX(f:Nat->Int)(H:Hp)(D:Addr)(i:Nat)(acc:List V)(H2:Hp):Prop:=au H H2/\H2 D=some (.lst acc)/\acc=aR (sr i f)
theorem zX.start{f:Nat->Int}{H:Hp}{D:Addr}(hD:H D=none):zX f H D 0 [] (upd H D (.lst [])):=⟨au.new hD,aj,rfl⟩
theorem zX.len{f:Nat->Int}{H H2:Hp}{D:Addr}{i:Nat}{acc:List V}(p:zX f H D i acc H2):H2 D=some (.lst acc)/\acc.length<=i:=by
 refine⟨p.2.1,?_⟩;rw[p.2.2,bD,rG];exact Nat.le_refl _
theorem zX.next{f:Nat->Int}{H H2 H3:Hp}{D:Addr}{i:Nat}{acc:List V}{v:V}(p:zX f H D i acc H2)(hD:H D=none)(s:au H2 H3)(hv:v = .int (f i)):H3 D=some (.lst acc)/\zX f H D (i+1) (acc++[v]) (upd H3 D (.lst (acc++[v]))):=by
 refine⟨s _ _ p.2.1,(p.1.trans s).put hD,aj,?_⟩;rw[hv,p.2.2];unfold sr;rw[List.range_succ,List.map_append];show _=aR (_++[f i]);rw[Bv]
def fV(D:Addr)(H0 H:Hp)(x:V)(r:List Int):Prop:=∃ b,x = .ref b/\b≠D/\H0 b=none/\H b=some (.lst (aR r))
theorem fV.same{D:Addr}{H0 H H' : Hp}(s:au H H'){x:V}{r:List Int}(h:fV D H0 H x r):fV D H0 H' x r:=by
 obtain⟨b,e,n,z,h⟩:=h;exact⟨b,e,n,z,s _ _ h⟩
theorem fV.put{D:Addr}{H0 H:Hp}{o:HO}{x:V}{r:List Int}(h:fV D H0 H x r):fV D H0 (upd H D o) x r:=by
 obtain⟨b,e,n,z,h⟩:=h;exact⟨b,e,n,z,by rw[aT n];exact h⟩
theorem fV.is{D:Addr}{H0 H:Hp}{x:V}{r:List Int}(h:fV D H0 H x r):CC H x r:=by
 obtain⟨b,e,_,_,h⟩:=h;exact⟨b,e,h⟩
theorem DK{D p:Addr}{H0 H:Hp}{ys:List V}{rs:List (List Int)}(pr:Paired (fV D H0 H) ys rs)(hp:H p=none):V.ref p∉ys:=fun z=>by
 obtain⟨i,hi⟩:=List.getElem?_of_mem z;obtain⟨_,_,b,e,_,_,q⟩:=Paired.mD pr hi;cases e;rw[hp]at q;cases q
theorem DL(l:List Int)(i:Nat)(z:Int):(aR l).set i (.int z)=aR (l.set i z):=by
 unfold aR;rw[List.map_set]
end Ring
namespace L2
open PySem PySem.Spec PyProof.Rows
theorem uv{f:Str×NameKind->List (Str×Addr)->Sem (ForInStep (List (Str×Addr)))}(hf2:∀ n k cs,k≠NameKind.cell->f (n,k) cs=pure (.yield cs)):
 ∀(names:List (Str×NameKind)) (cs:List (Str×Addr)),names.filter (fun y=>decide (y.2=NameKind.cell))=[]->forIn names cs f=(pure cs:Sem (List (Str×Addr)))
 | [],cs,_=>by rw[List.forIn_nil]
 | (n,k)::r,cs,h=>by
   by_cases e:k=NameKind.cell
   ·rw[List.filter_cons,if_pos (eG e)]at h;cases h
   ·rw[List.filter_cons,if_neg (by simpa using e)]at h
    rw[List.forIn_cons,hf2 n k cs e,pure_bind];exact uv hf2 r cs h
theorem wU{x:Str}{f:Str×NameKind->List (Str×Addr)->Sem (ForInStep (List (Str×Addr)))}(hf1:∀ n cs,f (n,.cell) cs=(do let a←alloc { cls:=.type "cell",data:=.cell none};pure (.yield ((n,a)::cs))))
 (hf2:∀ n k cs,k≠NameKind.cell->f (n,k) cs=pure (.yield cs)) :
 ∀(names:List (Str×NameKind)) (cs:List (Str×Addr)),names.filter (fun y=>decide (y.2=NameKind.cell))=[(x,.cell)]->forIn names cs f=((do let a←alloc { cls:=.type "cell",data:=.cell none};pure ((x,a)::cs)):Sem (List (Str×Addr)))
 | [],cs,h=>by cases h
 | (n,k)::r,cs,h=>by
   by_cases e:k=NameKind.cell
   ·subst e;rw[List.filter_cons,if_pos (by simp)]at h
    have h1:=List.cons.inj h;have hn:n=x:=congrArg Prod.fst h1.1;subst hn;rw[List.forIn_cons,hf1,bind_assoc]
    congr
    funext a
    rw[pure_bind];exact uv hf2 r _ h1.2
   ·rw[List.filter_cons,if_neg (by simpa using e)]at h
    rw[List.forIn_cons,hf2 n k cs e,pure_bind];exact wU hf1 hf2 r cs h
theorem vF{M:Model}{A:Around}{E:iH}{s:Shared}{scope:Scope}{x:Str}{globals:Addr}{closure:List (Str×Addr)}{qual:Str}{outer:Env}{Q:Env->Shared->Prop}
 (h1:scope.names.filter (fun y=>decide (y.2=NameKind.cell))=[(x,.cell)]) (hk:scope.kind = .function)
 (q:∀ h' : Heap,(h'.Ns s.heap.objs.size fun _=>none)->Heap.SameBut s.heap.objs.size (s.heap.push { cls:=.type "dict",data:=.dict #[]}) h'->
  Q (newEnv scope s.heap.objs.size globals ((x,h'.objs.size)::closure) qual none .none (some outer) builtinsNs) { s with heap:=h'.push { cls:=.type "cell",data:=.cell none}}) :
 wpAny M A (newFunctionEnv scope globals closure [] qual none .none (some outer)) Q E s:=by
 have e:newFunctionEnv scope globals closure [] qual none .none (some outer)=(do
  let env←newFunctionEnv { scope with names:=[]} globals closure [] qual none .none (some outer)
  let a←alloc { cls:=.type "cell",data:=.cell none}
  pure { env with scope:=scope,cells:=(x,a)::env.cells}):=by
  simp only[newFunctionEnv];rw[bind_assoc]
  congr
  funext L
  rw[wU (x:=x) ?_ ?_ scope.names closure h1]
  ·simp only[List.forIn_nil,pure_bind,bind_assoc]
  ·intro n cs;rfl
  ·intro n k cs hk;show(if(k==NameKind.cell)=true then _ else _)=_
   rw[if_neg (by simpa using hk)]
 rw[e];refine iX (wpAny_newFunctionEnv (by intro y hy;cases hy) (by intro y hy;simp at hy) (fun h' hn sb=>?_) hk)
 refine iX (wpAny_alloc (wpAny_pure ?_));exact q h' hn sb
def cN(X:Cx)(N:List Str)(scope:Scope)(xe:iH)(x:Str)(cc C:Addr)(s:Shared)(H:Hp)(fp:List Addr):Cx where
 prog:=X.prog
 w:=X.w
 K:=X.K
 mg:=X.mg
 base:=X.base
 A:=X.A
 N:=N
 s₀:=s
 H₀:=H
 env:=compEnvC scope ((x,cc)::bN X.env.cells scope.names []) C X.env
 outer:=X.stack
 stack:=X.stack
 ex:=fp
 fn:=fun y=>decide (y=x)
 calm:=X.calm
 pn:=[]
 xe:=xe
structure ku(X:Cx)(scope:Scope)(x:Str)(own fq:List Str)(js:List Nat):Prop where
 kind:scope.kind = .function
 one:scope.names.filter (fun y=>decide (y.2=NameKind.cell))=[(x,.cell)]
 Ke:∀ y∈scope.names,y.1=x->y.2 = .cell
 names:∀ y∈scope.names,y.2 = .local->scope.names.lookup y.1=some .local
 free:∀ y∈scope.names,y.2 = .free->X.env.scope.names.lookup y.1=some .cell\/X.env.scope.names.lookup y.1=some .free
 at_:js.map (fun j=>X.N[j]?)=fq.map some
 fr:∀ x∈fq,scope.names.lookup x=some .free
theorem fC{x y:Str}{cc c:Addr}{cl:List (Str×Addr)}(h:((x,cc)::cl).lookup y=some c):(y=x/\c=cc)\/(y≠x/\cl.lookup y=some c):=by
 by_cases e:y=x
 ·subst e;rw[List.lookup_cons_self]at h;exact .inl ⟨rfl,(Option.some.inj h).symm⟩
 ·have hb:(y==x)=false:=beq_eq_false_iff_ne.mpr e;simp only[List.lookup_cons,hb]at h;exact .inr ⟨e,h⟩
theorem qo{x y:Str}{cc c:Addr}{cl:List (Str×Addr)}(e:y≠x)(h:cl.lookup y=some c):((x,cc)::cl).lookup y=some c:=by
 have hb:(y==x)=false:=beq_eq_false_iff_ne.mpr e;simp only[List.lookup_cons,hb];exact h
section
variable {X:Cx}
theorem mX{pq:br}{σ:St}{H:Hp}{s:Shared}{scope:Scope}{xc:Str}{own fq:List Str}{js:List Nat}(I:Inv X pq σ H s)(T:ku X scope xc own fq js):
 ∀ n k,(n,k)∈scope.names->(k==NameKind.free)=true->∃ c,X.env.cells.lookup n=some c:=fun n k hm e=>by
 have hk:k=NameKind.free:=eq_of_beq e;exact I.ok.has n (T.free (n,k) hm hk)
theorem DM{pq:br}{σ:St}{H:Hp}{s:Shared}{scope:Scope}{xc:Str}{own fq:List Str}{js:List Nat}{fp:List Addr}{D C cc:Addr}{h1:Heap}{t1:Nat}{m:jY}{xe:iH}
 (I:Inv X pq σ H s) (T:ku X scope xc own fq js) (hf:∀ b∈fp,jA X pq H b) (hfo:∀ b∈fp,∃ o,s.heap.get? b=some o) (hD:s.heap.objs.size<=D) (hC:s.heap.objs.size<=C) (hDC:D≠C) (hcc:s.heap.objs.size<=cc) (QI:D≠cc) (FN:h1.IsCell cc none)
 (old:∀ b o,s.heap.get? b=some o->h1.get? b=some o) (hl:h1.get? D=some { cls:=.type "list",data:=.seq ([]:List Value).toArray 0}) (hn:h1.Ns C m) :
 Inv (cN X (own++fq) scope xe xc cc C s H fp) [] (List.replicate own.length none++dD σ js) (upd H D (.lst [])) { s with heap:=h1,toks:=t1}:=by
 have cells:∀ x c,(bN X.env.cells scope.names []).lookup x=some c->X.env.cells.lookup x=some c:=fun x c h=>by
  rcases fB h with q|⟨q1,q2⟩
  ·cases q
  ·obtain⟨c',hc'⟩:=mX I T x .free q1 rfl;rw[hc']at q2;rw[hc'];exact congrArg some q2
 have Cd:∀ b o,s.heap.get? b=some o->b<s.heap.objs.size:=fun b o e=>Heap.lt_size e
 have hcl:∀ x c,X.env.cells.lookup x=some c->c<s.heap.objs.size:=fun x c e=>by
  obtain⟨v,q⟩:=I.cell x c e;exact q.lt
 have KG:∀ b∈frs X.stack,b<s.heap.objs.size:=fun b hb=>by
  obtain⟨_,o,ho,_⟩:=I.stack.mem hb;exact Heap.lt_size ho
 have Qk:H D=none:=I.hok.fresh hD;have Bg:H C=none:=I.hok.fresh hC;refine⟨⟨I.ok.mod,T.kind,I.ok.glob,I.ok.blt,hC,fun x y c a b=>?_,fun x hx=>?_,fun x c z q=>?_,I.ok.hd,I.ok.frames,.inl rfl,fun b hb=>⟨?_,fun x c e z=>?_⟩,
  fun b o e=>I.bs b o e,Nat.le_trans I.ok.HC I.sz,fun b o e hb=>?_,fun b hb z=>?_,I.stack,I.pP⟩,
  rfl,I.bare,Un.laid old hD Qk,⟨m,hn,fun i x v e1 e2 e3=>?_⟩,fun x c e=>?_,?_,fun x c e=>?_,fun p hp=>absurd (show p∈([]:br) from hp) (by simp),?_,?_⟩
 ·
  rcases fC a with⟨e1,e2⟩|⟨_,q1⟩
  ·rcases fC b with⟨e3,_⟩|⟨_,q2⟩
   ·rw[e1,e3]
   ·exact absurd (hcl y c (cells y c q2)) (by rw[e2];exact Nat.not_lt.mpr hcc)
  ·rcases fC b with⟨_,e4⟩|⟨_,q2⟩
   ·exact absurd (hcl x c (cells x c q1)) (by rw[e4];exact Nat.not_lt.mpr hcc)
   ·exact I.ok.inj x y c (cells x c q1) (cells y c q2)
 ·
  by_cases hxc:x=xc
  ·exact⟨cc,by rw[hxc];exact List.lookup_cons_self⟩
  have hx:(relabel scope X.env).names.lookup x=some .cell\/(relabel scope X.env).names.lookup x=some .free:=hx;have Ql:(x,NameKind.free)∈scope.names:=by
   rcases hx with hx|hx
   ·obtain⟨k0,q,r⟩:=fQ hx;have hm:=PySem.mem_of_lookup q;rcases r with r|⟨r,_⟩
    ·rw[<-r]at hm;have hmem:(x,NameKind.cell)∈scope.names.filter (fun y=>decide (y.2=NameKind.cell)):=List.mem_filter.mpr ⟨hm,by simp⟩
     rw[T.one]at hmem;exact absurd (congrArg Prod.fst (List.mem_singleton.mp hmem)) hxc
    ·rw[r]at hm;exact hm
   ·obtain⟨k0,q,r⟩:=fQ hx;have hm:=PySem.mem_of_lookup q;rcases r with r|⟨_,r⟩
    ·rw[<-r]at hm;exact hm
    ·cases r
  obtain⟨c,hc⟩:=je (cells:=X.env.cells) (cs:=[]) (.inl Ql);exact⟨c,qo hxc hc⟩
 ·
  rcases fC q with⟨_,e2⟩|⟨n2,_⟩
  ·rw[e2];exact hcc
  ·exact absurd (mG z) n2
 ·
  obtain⟨o,ho⟩:=hfo b hb;exact Nat.ne_of_lt (Nat.lt_of_lt_of_le (Cd b o ho) hC)
 ·rcases fC e with⟨_,e2⟩|⟨_,q⟩
  ·obtain⟨o,ho⟩:=hfo b hb;exact absurd (Cd b o ho) (by rw[<-z,e2];exact Nat.not_lt.mpr hcc)
  ·exact(hf b hb).2.2.2.2.1 x c (cells x c q) z
 ·
  obtain⟨_,_,_,f3,_,_⟩:=hf b hb;rcases f3 with z|z
  ·exact I.ok.AV b o e z
  ·exact absurd (Nat.lt_of_lt_of_le (Heap.lt_size (I.ok.bs b o e).1) z) (Nat.lt_irrefl _)
 ·
  obtain⟨_,f1,f2,_⟩:=hf b hb;rcases List.mem_cons.mp (I.lg b z) with q|q
  ·exact f1 q
  ·exact f2 q
 ·
  by_cases hi:i<own.length
  ·rw[List.getElem?_append_left (by simpa using hi),List.getElem?_replicate,if_pos hi]at e2
   cases e2
  ·rw[List.getElem?_append_right (by simpa using hi),List.length_replicate]at e2
   replace e1:(own++fq)[i]?=some x:=e1
   rw[List.getElem?_append_right (by lia)]at e1
   obtain⟨j,hj,hσ⟩:=tZ e2;have hN:X.N[j]?=some x:=by
    have q:=congrArg (fun l=>l[i-own.length]?) T.at_
    simp only[List.getElem?_map,hj,e1,Option.map_some]at q;exact Option.some.inj q
   have hfx:=T.fr x (nJ e1);have hm:=PySem.mem_of_lookup hfx;have hk:=T.free (x,.free) hm rfl;obtain⟨m0,hn0,Ie⟩:=I.loc;obtain⟨u,r,l⟩:=Ie j x v hN hσ (by rcases hk with k|k;exact .inr (.inl k);exact .inr (.inr k))
   refine⟨u,r,.inr ⟨lz hfx,?_⟩⟩;rcases l with⟨zA,_⟩|⟨_,c,hc,hcell⟩
   ·have zA:X.env.scope.names.lookup x=some .local:=zA;rcases hk with k|k<;>(rw[zA]at k;cases k)
   ·obtain⟨c',hc'⟩:=je (cells:=X.env.cells) (names:=scope.names) (cs:=[]) (x:=x) (.inl hm);have q:=cells x c' hc';rw[hc]at q;cases q;have hxc:x≠xc:=fun z=>by
     have hz:=T.Ke _ hm z;cases hz
    exact⟨c,qo hxc hc',hcell.keeps old⟩
 ·
  rcases fC e with⟨_,e2⟩|⟨_,q⟩
  ·exact⟨none,by rw[e2];exact FN⟩
  ·obtain⟨v,q⟩:=I.cell x c (cells x c q);exact⟨v,q.keeps old⟩
 ·
  show upd H D (.lst []) C=none;rw[aT (Ne.symm hDC)];exact Bg
 ·show upd H D (.lst []) c=none;rcases fC e with⟨_,e2⟩|⟨_,q⟩
  ·rw[e2,aT (Ne.symm QI)];exact I.hok.fresh hcc
  ·have e:=cells x c q;rw[aT (Nat.ne_of_lt (Nat.lt_of_lt_of_le (hcl x c e) hD))];exact I.j4 x c e
 ·exact I.hok.laid old hD ⟨Nat.zero_le _,[],0,.nil,hl⟩
 ·show _=(own++fq).length;have q:=congrArg List.length T.at_;rw[List.length_map,List.length_map]at q;rw[List.length_append,List.length_append,List.length_replicate];unfold dD;rw[List.length_map,q]
theorem uw{pq:br}{σ σ' : St}{H H' : Hp}{s s' : Shared}{scope:Scope}{N:List Str}{fp:List Addr}{xc:Str}{cc C:Addr}{h' : Heap}{xe:iH}
 (I:Inv X pq σ H s) (hf:∀ b∈fp,jA X pq H b) (hC:s.heap.objs.size<=C) (J:Inv (cN X N scope xe xc cc C s H fp) [] σ' H' s') (sb:Heap.SameBut C s'.heap h'):Inv X pq σ H' { s' with heap:=h'}:=by
 have Bg:H' C=none:=J.free;refine I.BY (ch:=fp) J.os ?_ ?_ J.bare (fun b hb=>?_)
 ·have u:Un (frs X.stack) fp H H' s.heap s'.heap:=J.base;have ne:∀ b o,s.heap.get? b=some o->b≠C:=fun b o e=>Nat.ne_of_lt (Nat.lt_of_lt_of_le (Heap.lt_size e) hC)
  refine⟨fun b o e n hb hx=>(sb.2 b (ne b o e)).trans (u.keep b o e n hb hx),fun b o e n hb hx=>?_,u.free,fun b o e hx=>?_,u.tups,u.rm,u.sO⟩
  ·obtain⟨sl,q⟩:=u.slot b o e n hb hx;exact⟨sl,(sb.2 b (ne b o e)).trans q⟩
  ·obtain⟨o',q⟩:=u.there b o e hx;exact⟨o',(sb.2 b (ne b o e)).trans q⟩
 ·intro b ob e;refine(J.hok b ob e).stay (fun c w' hc q=>(sb.2 c ?_).trans q) (fun _ q=>q) fun _ _ q=>q
  rintro rfl;rcases hc with rfl|hc
  ·rw[Bg]at e;cases e
  ·rw[Bg]at hc;cases hc
 ·obtain⟨_,f1,_,f3,f4,f5⟩:=hf b hb;exact⟨f3,f1,f4,f5⟩
end
section
variable {X:Cx}{elt iter tg:Expr}{ifs:List Expr}{scope:Scope}{xc:Str}{pos:Pos}{own fq:List Str}{js:List Nat}{wi:TI}{g:TG}{tt:TT}{te:TE}
theorem zY{pq:br}{σ:St}{H2:Hp}{s2:Shared}{it:Addr}{fp:List Addr}{tn:Nat->Heap->Prop}{J:It}{E:iH}{RR:Value->Addr->Result->Shared->Prop}{QQ:Addr->Hp->Prop}
 (T:ku X scope xc own fq js)
 (hg:∀ cc C s H fp,PG (cN X (own++fq) scope (fun _ _=>False) xc cc C s H fp) tg g)
 (ht:∀ cc C s H fp,Ig (cN X (own++fq) scope (fun _ _=>False) xc cc C s H fp) ifs tt)
 (he:∀ cc C s H fp,PE (cN X (own++fq) scope (fun _ _=>False) xc cc C s H fp) elt te)
 (I2:Inv X pq σ H2 s2) (nM:Cf X.A X.calm X.prog X.w X.K tg J fp it tn) (st2:tn 0 s2.heap) (f2:∀ b∈fp,jA X pq H2 b)
 (hl:∀ D,H2 D=none->ig J g tt te own.length (dD σ js) D (QQ D) (upd H2 D (.lst [])))
 (hRR:∀ D cc C σ' H' s',s2.heap.objs.size<=C->Inv (cN X (own++fq) scope (fun _ _=>False) xc cc C s2 H2 fp) [] σ' H' s'->QQ D H'->RR (.ref D) C (.ok .next) s') :
 wpAny (model X.prog X.w) X.A (newList []) (fun acc s₃=>wpAny (model X.prog X.w) X.A (newFunctionEnv scope X.env.globals (bN X.env.cells scope.names []) [] X.env.qual none .none (some X.env)) (fun cenv s₄ =>
  codeAny (model X.prog X.w) X.A (.compStart (.ListComp elt [⟨tg,iter,ifs,0⟩] scope pos) 0 (.ref it) acc { cenv with scope:=relabel scope X.env}) (RR acc cenv.locals) s₄) E s₃) E s2:=by
 refine wpAny_newObj_type (vF T.one T.kind fun h₀ K4 FO=>?_)
 dsimp only at K4 FO ⊢;generalize E9:s2.heap.push { cls:=.type "list",dict:=none,data:=.seq ([]:List Value).toArray}=G2 at K4 FO ⊢;have hC:G2.objs.size=s2.heap.objs.size+1:=by rw[<-E9,Heap.size_push]
 have hDC:s2.heap.objs.size≠G2.objs.size:=by rw[hC];exact Nat.ne_of_lt (Nat.lt_succ_self _)
 have yg:s2.heap.objs.size<=G2.objs.size:=by rw[hC];exact Nat.le_succ _
 have below:∀ b,b<s2.heap.objs.size->b≠G2.objs.size:=fun b hb=>by rw[hC];exact Nat.ne_of_lt (Nat.lt_succ_of_lt hb)
 have IA:h₀.objs.size=s2.heap.objs.size+2:=by rw[FO.1,Heap.size_push,hC]
 have FN:(h₀.push { cls:=.type "cell",data:=.cell none}).IsCell h₀.objs.size none:=⟨_,Heap.get?_push_size _ rfl,rfl⟩;have vC:(h₀.push { cls:=.type "cell",data:=.cell none}).Ns G2.objs.size fun _=>none:=K4.keeps fun b o e=>Heap.get?_push_of_some _ e
 have old:∀ b o,s2.heap.get? b=some o->(h₀.push { cls:=.type "cell",data:=.cell none}).get? b=some o:=fun b o e=>Heap.get?_push_of_some _ (FO.extBut b o (below b (Heap.lt_size e)) (Heap.get?_push_of_some _ (E9▸Heap.get?_push_of_some _ e)))
 have hacc:(h₀.push { cls:=.type "cell",data:=.cell none}).get? s2.heap.objs.size=some { cls:=.type "list",data:=.seq ([]:List Value).toArray 0}:=Heap.get?_push_of_some _ (FO.extBut _ _ hDC (Heap.get?_push_of_some _ (E9▸Heap.get?_push_size _ rfl)));generalize YX:h₀.objs.size=cc at IA FN;generalize h₀.push { cls:=.type "cell",data:=.cell none}=h₁ at FN vC old hacc;have Fb:∀ b∈fp,∃ o,s2.heap.get? b=some o:=fun b hb=>let⟨o,e,_⟩:=nM.obj _ _ st2 b hb;⟨o,e⟩
 have st1:tn 0 h₁:=nM.keep _ _ _ st2 fun b _ o e=>old b o e
 obtain⟨W,⟨m0,w0⟩,turn⟩:=hl s2.heap.objs.size (I2.hok.fresh (Nat.le_refl _));have hfx:∀{H' : Hp},(∀ b∈fp,H' b=none)->∀ b∈fp,jA (cN X (own++fq) scope (fun _ _=>False) xc cc G2.objs.size s2 H2 fp) [] H' b:=fun {H'} hn b hb=>by
  obtain⟨_,f1,Mv,_,f4,_⟩:=f2 b hb;obtain⟨o,ho⟩:=Fb b hb;refine⟨hn b hb,below b (Heap.lt_size ho),fun z=>?_,.inl hb,fun x c e=>?_,fun p hp=>absurd (show p∈([]:br) from hp) (by simp)⟩
  ·rcases List.mem_cons.mp (I2.lg b z) with q|q
   ·exact f1 q
   ·exact Mv q
  ·rcases fC e with⟨_,e2⟩|⟨_,e⟩
   ·exact fun z=>absurd (Heap.lt_size ho) (by rw[<-z,e2,IA];exact Nat.not_lt.mpr (Nat.le_add_right _ _))
   rcases fB (show(bN X.env.cells scope.names []).lookup x=some c from e) with q|⟨q1,q2⟩
   ·cases q
   ·obtain⟨c',hc'⟩:=mX I2 T x .free q1 rfl;rw[hc']at q2;have q2:c' = c:=q2;rw[<-q2];exact f4 x c' hc'
 have Mw:∀ b∈fp,upd H2 s2.heap.objs.size (.lst []) b=none:=fun b hb=>by
  obtain⟨o,ho⟩:=Fb b hb;rw[aT (Nat.ne_of_lt (Heap.lt_size ho))];exact(f2 b hb).1
 have back:∀{σ6:St} {p6:br} {H6:Hp} {s6:Shared},Inv (cN X (own++fq) scope (fun _ _=>False) xc cc G2.objs.size s2 H2 fp) p6 σ6 H6 s6->σ6.drop own.length=dD σ js->
  Inv (cN X (own++fq) scope (fun _ _=>False) xc cc G2.objs.size s2 H2 fp) [] (List.replicate own.length none++dD σ js) H6 s6:=fun {σ6 p6 H6 s6} I6 hd=>by
  have My:σ6.length=(own++fq).length:=I6.len;have J6:=I6.lj (LV:=[]) fun p hp=>absurd hp (by simp)
  refine J6.weak ?_ fun i v e=>?_
  ·have q:=congrArg List.length hd;rw[List.length_drop]at q;rw[List.length_append]at My;rw[List.length_append,List.length_replicate]
   lia
  ·by_cases hi:i<own.length
   ·rw[List.getElem?_append_left (by simpa using hi),List.getElem?_replicate,if_pos hi]at e
    cases e
   ·rw[List.getElem?_append_right (by simpa using hi),List.length_replicate,<-hd,List.getElem?_drop]at e
    rw[show own.length+(i-own.length)=i by lia]at e
    exact e
 have loop:∀ s₃:Shared,s₃={ s2 with heap:=h₁}->
  codeAny (model X.prog X.w) X.A (.compLoop (.ListComp elt [⟨tg,iter,ifs,0⟩] scope pos) 0 (.ref it) (.ref s2.heap.objs.size) (compEnvC scope ((xc,cc)::bN X.env.cells scope.names []) G2.objs.size X.env))
   (RR (.ref s2.heap.objs.size) G2.objs.size) s₃:=by
  rintro s₃ rfl;refine lA (fun n s'=>∃ i acc H',Inv (cN X (own++fq) scope (fun _ _=>False) xc cc G2.objs.size s2 H2 fp) [] (List.replicate own.length none++dD σ js) H' s'/\tn i s'.heap/\(∀ b∈fp,H' b=none)/\W i n acc H') ?_ m0
   ⟨0,[],upd H2 s2.heap.objs.size (.lst []),DM I2 T f2 Fb (Nat.le_refl _) yg hDC (by rw[IA];exact Nat.le_add_right _ _) (by rw[IA];exact Nat.ne_of_lt (Nat.lt_add_of_pos_right (by decide))) FN old hacc vC,st1,Mw,w0⟩
  rintro n s3 ⟨i,acc,H3,I3,st3,B3,w3⟩;obtain⟨wB,zB⟩:=turn i n acc H3 w3;rcases zB with⟨stop,qn⟩|⟨go,hz,NN,Jy,step⟩
  ·refine wpAny_mono (nM.done (cN X (own++fq) scope (fun _ _=>False) xc cc G2.objs.size s2 H2 fp) rfl rfl rfl rfl rfl i [] s3 _ H3 (fun _ _=>False) I3 (hfx B3) st3 stop) (fun r s4 ⟨hr,I4⟩=>?_) fun _ _ z=>z.elim
   subst hr;exact hRR _ _ _ _ H3 s4 yg I4 qn
  ·refine wpAny_mono (nM.item (cN X (own++fq) scope (fun _ _=>False) xc cc G2.objs.size s2 H2 fp) rfl rfl rfl rfl rfl i [] s3 _ H3 (fun _ _=>False) I3 (hfx B3) st3 go) (fun r s4 ⟨u,hr,h4⟩=>?_) fun _ _ z=>z.elim
   subst hr;refine wpAny_mono h4 (fun _ s5 ⟨x,H5,I5,r5,y5,xX,HL⟩=>?_) fun _ _ z=>z.elim
   have HM:=I5.pinned (hfx HL) (nM.obj _ _ xX);refine wpAny_mono (hg _ _ _ _ _ _ s5 _ H5 x u _ HM r5 (step x H5 y5)) (fun _ s6 ⟨σ6,H6,I6,Jz,q6⟩=>?_) fun _ _ z=>z.elim
   refine wpAny_mono (ht _ _ _ _ _ _ s6 σ6 H6 _ I6 q6) (fun ok s7 ⟨H7,I7,q7⟩=>?_) fun _ _ z=>z.elim
   have again:∀{H8:Hp} {s8:Shared},Inv (cN X (own++fq) scope (fun _ _=>False) xc cc G2.objs.size s2 H2 fp) ([]++mL fp s5.heap) σ6 H8 s8->tn (i+1) s8.heap/\∀ b∈fp,H8 b=none:=fun {H8 s8} I8=>by
    refine⟨nM.keep _ _ _ xX fun b hb o e=>(I8.pin (b,o) (pO _ (pO _ (cV hb e)))).1,fun b hb=>?_⟩
    obtain⟨o,e,d⟩:=nM.obj _ _ xX b hb;exact(I8.pin (b,o) (pO _ (pO _ (cV hb e)))).2.1
   cases ok with
   | false =>
     rw[if_neg Bool.false_ne_true];obtain⟨m',hm,w7⟩:=Jy _ _ q7;obtain⟨t7,n7⟩:=again I7;exact⟨m',hm,i+1,acc,H7,back I7 Jz,t7,n7,w7⟩
   | true =>
     rw[if_pos rfl];refine wpAny_mono (he _ _ _ _ _ _ s7 σ6 H7 _ I7 q7) (fun xv s8 ⟨v,H8,I8,r8,Mz,q8⟩=>?_) fun _ _ z=>z.elim
     obtain⟨m',hm,w8⟩:=Jy _ _ q8;refine wpAny_mono (dO (X:=cN X (own++fq) scope (fun _ _=>False) xc cc G2.objs.size s2 H2 fp) _ s8 σ6 H8 (.ref s2.heap.objs.size) [v] (.ref s2.heap.objs.size) [xv] (fun y H9=>y = .iC/\H9=upd H8 s2.heap.objs.size (.lst (acc++[v]))) I8 rfl (.cons r8 .nil) ⟨_,acc,v,rfl,rfl,Mz,hz,rfl,rfl⟩)
      (fun _ s9 ⟨y,H9,I9,_,_,e9⟩=>?_) fun _ _ z=>z.elim
     subst e9;obtain⟨t9,n9⟩:=again I9;exact⟨m',hm,i+1,acc++[v],_,back I9 Jz,t9,n9,w8⟩
 exact codeAny_compStart_list (loop _ rfl) (nM.self _ 0 _ _ _ st1 (loop _ rfl))
theorem FP(T:ku X scope xc own fq js)(hc:X.calm=true)(hi:PI X tg iter wi)
 (hg:∀ cc C s H fp,PG (cN X (own++fq) scope (fun _ _=>False) xc cc C s H fp) tg g)
 (ht:∀ cc C s H fp,Ig (cN X (own++fq) scope (fun _ _=>False) xc cc C s H fp) ifs tt)
 (he:∀ cc C s H fp,PE (cN X (own++fq) scope (fun _ _=>False) xc cc C s H fp) elt te)
 (hs:∀ x,foldedSetIterable iter X.env x=pure x:=by intro _;rfl) :
 PE X (.ListComp elt [⟨tg,iter,ifs,0⟩] scope pos) (E8 wi g tt te own.length js):=by
 intro pq s σ H Q I h;rw[eval_ListComp];refine wpAny_comprehension_free (use:=none) rfl hs (ly (mX I T)) T.kind T.names ?_;refine wpAny_mono (hi pq s σ H _ I h) (fun v s1 h1=>wpAny_mono h1 (fun itv s2 h2=>?_) fun _ _ z=>z) fun _ _ z=>z
 obtain⟨it,fp,tn,J,H2,e,I2,nM,st2,f2,hl⟩:=h2;subst e;refine zY (QQ:=fun D H'=>Q (.ref D) H') T hg ht he I2 (nM.x hc) st2 f2 hl fun D cc C σ' H' s' hC J' q=>?_
 obtain⟨m,hn,_⟩:=J'.loc;exact⟨m,hn,fun h' sb=>⟨.ref D,H',uw I2 f2 hC J' sb,rfl,q⟩⟩
end
def wW(scope Cg:Scope)(x:Str)(N fq:List Str)(js:List Nat):Bool :=
 decide (scope.kind = .function)&&decide (scope.names.filter (fun y=>decide (y.2=NameKind.cell))=[(x,.cell)])&&scope.names.all (fun y=>decide (y.1=x->y.2 = .cell))&&scope.names.all (fun y=>decide (y.2 = .local->scope.names.lookup y.1=some .local)) &&
 scope.names.all (fun y=>decide (y.2 = .free->Cg.names.lookup y.1=some .cell\/Cg.names.lookup y.1=some .free))&&decide (js.map (fun j=>N[j]?)=fq.map some)&&fq.all (fun x=>decide (scope.names.lookup x=some .free))
theorem yu{X:Cx}{scope:Scope}{x:Str}{own fq:List Str}{js:List Nat}(Cg:Scope)(N:List Str)(h1:X.env.scope=Cg:=by rfl)(h2:X.N=N:=by rfl)(h:wW scope Cg x N fq js=true:=by decide +kernel):ku X scope x own fq js:=by
 unfold wW at h;simp only[Bool.and_eq_true,decide_eq_true_eq,List.all_eq_true]at h;obtain⟨⟨⟨⟨⟨⟨a,b⟩,b2⟩,c⟩,d⟩,e⟩,f⟩:=h;exact⟨a,b,b2,c,by rw[h1];exact d,by rw[h2];exact e,f⟩
def FQ(scope Cg:Scope):Scope:={ kind:=scope.kind,names:=scope.names.map (fun(n,k)=>if(k==NameKind.free&&Cg.kind == .function&&Cg.names.lookup n==some .cell) then(n,NameKind.cell) else(n,k)),isGenerator:=scope.isGenerator,isCoroutine:=scope.isCoroutine,more:=scope.more}
theorem sy{scope:Scope}{env:Env}{x:Str}:∀{names:List (Str×NameKind)},names.lookup x=some .local->
 (names.map fun(n,k)=>if(k==NameKind.free&&env.scope.kind == .function&&env.kindOf n==some .cell) then(n,NameKind.cell) else(n,k)).lookup x=some .local
 | [],h=>by cases h
 | (n,j)::r,h=>by
   have ih:=@sy scope env x r;show List.lookup x ((if(j==NameKind.free&&env.scope.kind == .function&&env.kindOf n==some .cell)=true then(n,NameKind.cell) else(n,j))::_)=_
   cases hx:x==n with
   | true =>
     simp only[List.lookup_cons,hx]at h;cases h;rw[if_neg (by simp)]
     simp only[List.lookup_cons,hx]
   | false =>
     simp only[List.lookup_cons,hx]at h
     by_cases hc:(j==NameKind.free&&env.scope.kind == .function&&env.kindOf n==some .cell)=true
     ·rw[if_pos hc];simp only[List.lookup_cons,hx];exact ih h
     ·rw[if_neg hc];simp only[List.lookup_cons,hx];exact ih h
def MQ(X:Cx)(N:List Str)(scope:Scope)(E:XK)(C:Addr)(s:Shared)(H:Hp)(fp:List Addr):Value->Shared->Prop:=fun e s' =>
 ∃ pq σ Hc sc,Inv (aZ X N scope (fun _ _=>False) C s H fp) pq σ Hc sc/\jZ X.prog X.w X.stack Hc sc E e s'
section
variable {X:Cx}{E:XK}{pq:br}{σ:St}{H:Hp}{s:Shared}{N:List Str}{scope:Scope}{C:Addr}{fp:List Addr}
theorem Bx{xe W2:iH}{Hc:Hp}{sc:Shared}(I:Inv (aZ X N scope xe C s H fp) pq σ Hc sc):Inv (aZ X N scope W2 C s H fp) pq σ Hc sc :=
 ⟨⟨I.ok.mod,I.ok.kind,I.ok.glob,I.ok.blt,I.ok.above,I.ok.inj,I.ok.has,I.ok.Lv,I.ok.hd,I.ok.frames,I.ok.AR,I.ok.PD,I.ok.bs,I.ok.HC,I.ok.AV,I.ok.EI,I.ok.funs,I.ok.Jr⟩,I.os,I.bare,I.base,I.loc,I.cell,I.free,I.j4,I.pin,I.hok,I.len⟩
theorem MR{P:Program}{w:World}(h1:X.prog=P:=by rfl)(h2:X.w=w:=by rfl):Passes (jZ P w) (aZ X N scope (MQ X N scope E C s H fp) C s H fp) E:=by
 subst h1 h2;intro pq σ Hc sc e s' I q;exact⟨pq,σ,Hc,sc,Bx I,q⟩
theorem FT(O:Out X E)(I:Inv X pq σ H s){B:Heap}{ea:Addr}{cls a0:Value}{od:Option Addr}{c:Value}(AS:Hu B X.fs X.s₀.heap H s.heap)(hd:Heap.HeldW B X.stack ea cls a0 X.env.locals s.heap)(sc:t8 od c ea s.heap)(hn:H ea=none)(q:Ij E cls od c H):
 X.xe (.ref ea) s:=by
 refine O.xe _ _ ?_;obtain⟨y1,y2,y3,y4⟩:=hd;rw[O.AR]at y3;have y5:=y4;obtain⟨oe,vs,T,oT,ts,ge,⟨hc,h0⟩,de,f1,nT,Te,gT,dT,f3⟩:=y5;rw[leaving,noteFrame];simp only[O.fr];refine iX (iX (wpAny_field ge de f1 ?_));rw[if_pos (by simp)]
 refine iX (wpAny_field gT dT f3 ?_);rw[if_pos (by simp)]
 refine wpAny_pure ?_;refine Fe y1 y2 y3 y4 sc fun h' z1 z2 z3=>?_
 exact yi O I AS (KL (s:={ s with heap:=h'}) z1) z2 z3 hn q
theorem qp{h h' B B' : Heap}:∀{l:List Env},h.FunFrames B l->(∀ b∈frs l,∀ o,h.get? b=some o->h'.get? b=some o)->(∀ b,B.get? b=none->B'.get? b=none)->h'.FunFrames B' l
 | [],_,_,_=>trivial
 | env::rest,x,k,n=>by
   obtain⟨x1,⟨L,o,x2,x3,x4,x5⟩,x6⟩:=x;have hm:L∈frs (env::rest):=List.mem_filterMap.mpr ⟨env,List.mem_cons_self,x2⟩;refine⟨x1,⟨L,o,x2,n L x3,k L hm o x4,x5⟩,qp x6 (fun b hb=>k b ?_) n⟩
   obtain⟨e2,he,hb⟩:=List.mem_filterMap.mp hb;exact List.mem_filterMap.mpr ⟨e2,vz _ he,hb⟩
theorem FU(B:Heap)(C:Addr):(PySem.W.hideAll B [C]).get? C=none:=Heap.hide_self ..
theorem zZ{H2:Hp}{s2 s8:Shared}{e:Value}{cl:List (Str×Addr)}{E' : iH}{α:Type}{Qa:α->Shared->Prop}(O:Out X E)(I2:Inv X pq σ H2 s2)(f2:∀ b∈fp,jA X pq H2 b)(hC:s2.heap.objs.size<=C)(h:MQ X N scope E C s2 H2 fp e s8):
 wpAny (model X.prog X.w) X.A (noteFrame e (compEnvC scope cl C X.env)) (fun _ s'=>∃ m,s'.heap.Ns C m/\∀ h',Heap.SameBut C s'.heap h'->
  wpAny (model X.prog X.w) X.A (PySem.passOn "comprehension.variables-let-go" e (compEnvC scope cl C X.env)) Qa X.xe { s' with heap:=h'}) E' s8:=by
 obtain⟨p,σ',Hc,sc,Ic,ea,cls,a0,od,c,H',B,rfl,os,bare,un,hok,hn,AS,fl,sec,qE⟩:=h;have I1:Inv (aZ X N scope (fun _ _=>False) C s2 H2 fp) p σ' H' s8:=Ic.JD os bare un hok
 show wpAny _ _ (noteFrame (.ref ea) X.env) _ _ _;have hfr:X.A.frames=some (X.env::X.outer):=by rw[I2.ok.frames,O.AR]
 have W3:=fl;rw[O.AR]at W3;refine JC hfr O.fr W3 sec fun h1 x1 x2 up=>?_
 obtain⟨m,hns,_⟩:=I1.loc;obtain⟨oC,es,ep,KH,KI,rest⟩:=id hns;have KH:s8.heap.get? C=some oC:=KH;have QJ:∃ o,sc.heap.get? C=some o:=by
  obtain⟨_,⟨o,_,_,z,_⟩,_⟩:=Ic.loc;exact⟨o,z⟩
 have KG:∀ b∈frs X.stack,b<s2.heap.objs.size:=fun b hb=>by
  obtain⟨_,o,ho,_⟩:=I2.stack.mem hb;exact Heap.lt_size ho
 have nC:C∉frs X.stack:=fun z=>absurd (KG C z) (Nat.not_lt.mpr hC)
 have bC:B.get? C=some oC:=AS C oC KH (.inr QJ) nC;refine⟨m,⟨oC,es,ep,x1.1 C oC bC,KI,rest⟩,fun h2 sb=>?_⟩
 have sb:Heap.SameBut C h1 h2:=sb;obtain⟨y1,y2,y3,oe,vs,T,oT,ts,ge,⟨hc,h0⟩,de,f1,nT,Te,gT,dT,f3⟩:=x1;have eC:ea≠C:=fun z=>by rw[z,bC]at y2;cases y2
 have tC:T≠C:=fun z=>by rw[z,bC]at nT;cases nT
 have Ly:h2.get? ea=some oe:=(sb.2 ea eC).trans ge;have W4:h2.get? T=some oT:=(sb.2 T tC).trans gT;have z3:3<ts.size:=(Array.getElem?_eq_some_iff.mp f3).1;rw[PySem.passOn];refine iX (wpAny_field Ly de f1 ?_);rw[if_neg (by simp)]
 refine iX ?_;show wpAny _ _ (setFlight (.ref ea) X.env.frame) _ _ _;rw[O.fr,setFlight];refine iX (wpAny_field Ly de f1 ?_);rw[if_pos (by simp)]
 refine wpAny_setField W4 dT z3 (wpAny_throw ?_);dsimp only;have W5:=Obj.data_mapFields dT (·.setIfInBounds 3 ((some X.env.locals:Option Addr).elim Value.none fun f=>rawInt f))
 have OF:=Heap.get?_update_self (Obj.mapFields (·.setIfInBounds 3 ((some X.env.locals:Option Addr).elim Value.none fun f=>rawInt f))) W4 (Obj.isFreed_of_fields W5)
 have k3:∀ b,b≠C->b≠T->(h2.update T (Obj.mapFields (·.setIfInBounds 3 ((some X.env.locals:Option Addr).elim Value.none fun f=>rawInt f)))).get? b=h1.get? b:=fun b n1 n2=>(Heap.get?_update_other h2 _ (Ne.symm n2)).trans (sb.2 b n1)
 generalize h2.update T (Obj.mapFields (·.setIfInBounds 3 ((some X.env.locals:Option Addr).elim Value.none fun f=>rawInt f)))=h3 at OF k3
 have neT:∀ b o,B.get? b=some o->b≠T:=fun b o e z=>by rw[z,nT]at e;cases e
 have Ii:∀ b o,B.get? b=some o->b≠C->h3.get? b=some o:=fun b o e n=>(k3 b n (neT b o e)).trans (y1 b o e)
 have QK:∀ b∈frs X.stack,b≠T:=fun b hb z=>by
  rw[O.AR]at hb;obtain⟨_,o,ho,nf⟩:=y3.mem hb;rw[z,gT]at ho;cases ho;exact nf ts dT
 have QL:∀ b∈frs X.stack,b≠C:=fun b hb z=>nC (z▸hb)
 have W6:∀ b o,(PySem.W.hideAll B [C]).get? b=some o->B.get? b=some o:=fun b o e=>PySem.W.of_hideAll _ e
 have hBn:∀ b,B.get? b=none->(PySem.W.hideAll B [C]).get? b=none:=fun b e=>by
  cases z:(PySem.W.hideAll B [C]).get? b with
  | none=>rfl
  | some o=>rw[W6 b o z]at e;cases e
 have u8:Un (frs X.stack) fp H2 H' s2.heap s8.heap:=I1.base;have QM:∀ b o,s2.heap.get? b=some o->b∉fp->∃ o',sc.heap.get? b=some o':=fun b o e n=>Ic.base.there b o e n
 have MS:∀ b o,s2.heap.get? b=some o->b≠C:=fun b o e z=>absurd (Heap.lt_size e) (by rw[z];exact Nat.not_lt.mpr hC)
 have Kf:∀ b∈frs X.stack,H' b=none:=fun b hb=>I1.ok.AR.elim (fun _=>I1.pP b hb) fun _=>I1.pP b hb
 have YY:Un (frs X.stack) fp H2 H' s2.heap h3:=by
  refine⟨fun b o e n hb hx=>Ii b o (AS b o (u8.keep b o e n hb hx) (.inr (QM b o e hx)) hb) (MS b o e),fun b o e n hb hx=>?_,u8.free,fun b o e hx=>?_,u8.tups,u8.rm,u8.sO⟩
  ·obtain⟨sl,q⟩:=u8.slot b o e n hb hx;obtain⟨Kh,q'⟩:=up b _ q (I1.Fi b hb _ q);exact⟨Kh,(k3 b (QL b hb) (QK b hb)).trans q'⟩
  ·obtain⟨o',q⟩:=u8.there b o e hx
   by_cases hb:b∈frs X.stack
   ·obtain⟨Kh,q'⟩:=up b _ q (I1.Fi b hb _ q);exact⟨_,(k3 b (QL b hb) (QK b hb)).trans q'⟩
   ·exact⟨o',Ii b o' (AS b o' q (.inr (QM b o e hx)) hb) (MS b o e)⟩
 have Jq:∀ b u,H' b=some u->b∉frs X.stack/\b≠C:=fun b u e=>⟨fun z=>(by rw[Kf b z]at e;cases e),fun z=>(by rw[z,show H' C=none from I1.free]at e;cases e)⟩
 have QN:rj X.prog X.w H' h3:=fun b u e=>by
  refine(hok b u e).stay (fun c v hc q=>?_) (fun _ q=>q) fun _ _ q=>q
  have hct:∃ z,H' c=some z:=by
   rcases hc with hc|hc
   ·rw[hc];exact⟨u,e⟩
   ·exact⟨_,hc⟩
  obtain⟨z,hz⟩:=hct;obtain⟨t1,t2⟩:=Jq c z hz;exact Ii c v (AS c v q (.inl (by rw[hz];simp)) t1) t2
 have IX:Inv X pq σ H' { s8 with heap:=h3}:=I2.BY (ch:=fp) (s':={ s8 with heap:=h3}) I1.os YY QN bare fun b hb=>by
  obtain⟨_,g1,_,g3,g4,g5⟩:=f2 b hb;exact⟨g3,g1,g4,g5⟩
 refine FT (B:=PySem.W.hideAll B [C]) (a0:=a0) O IX (fun b o e3 c n=>?_) ⟨fun b o e=>Ii b o (W6 b o e) fun z=>?_,hBn ea y2,?_,?_⟩ ?_ hn qE
 ·have e3:h3.get? b=some o:=e3;have W7:b≠C:=fun z=>by
   rcases c with c|⟨o',c⟩
   ·exact c (by rw[z];exact I1.free)
   ·exact absurd (Nat.lt_of_lt_of_le (Heap.lt_size c) I2.sz) (by rw[z];exact Nat.not_lt.mpr hC)
  have YZ:b∉frs X.stack:=fun z=>by
   rcases List.mem_cons.mp (I2.lg b z) with q|q
   ·subst q;rcases c with c|⟨o',c⟩
    ·exact c IX.free
    ·exact absurd (Nat.lt_of_lt_of_le (Heap.lt_size c) I2.ok.above) (Nat.lt_irrefl _)
   ·exact n q
  have W8:∀ o',X.s₀.heap.get? b=some o'->b∉fp:=fun o' c z=>by
   obtain⟨_,_,_,g3,_,_⟩:=f2 b z;rcases g3 with g|g
   ·rw[O.ex]at g;cases g
   ·exact absurd (Heap.lt_size c) (Nat.not_lt.mpr g)
  have W9:∀ o',X.s₀.heap.get? b=some o'->∃ o2,s2.heap.get? b=some o2:=fun o' c=>I2.base.there b o' c (by rw[O.ex];simp)
  have ht:∃ o1,s8.heap.get? b=some o1:=by
   rcases c with c|⟨o',c⟩
   ·cases hz:H' b with
    | none=>exact absurd hz c
    | some z=>exact(hok b z hz).thing
   ·obtain⟨o2,q2⟩:=W9 o' c;exact u8.there b o2 q2 (W8 o' c)
  obtain⟨o1,q1⟩:=ht;have q2:=AS b o1 q1 (c.imp id fun⟨o',c⟩=>let⟨o2,q2⟩:=W9 o' c;QM b o2 q2 (W8 o' c)) YZ
  have q3:=Ii b o1 q2 W7;rw[e3]at q3;rw[Option.some.inj q3];exact PySem.W.hideAll_get _ q2 (by simpa using W7)
 ·rw[z,FU]at e;cases e
 ·rw[<-O.AR]at y3;exact qp y3 (fun b hb o e=>(k3 b (QL b hb) (QK b hb)).trans e) hBn
 ·exact⟨oe,vs,T,_,_,(k3 ea eC (Ne.symm Te)).trans ge,⟨hc,h0⟩,de,f1,hBn T nT,Te,OF,W5,by simp[z3]⟩
 ·obtain⟨o2,v2,g2,d2,kk⟩:=x2;exact⟨o2,v2,(k3 ea eC (Ne.symm Te)).trans g2,d2,kk⟩
end
section
variable {X:Cx}{EE:XK}{elt iter tg:Expr}{ifs:List Expr}{scope:Scope}{pos:Pos}{own fq:List Str}{js:List Nat}{wi:TI}{g:TG}{tt:TT}{te:TE}
theorem z6{pq:br}{σ:St}{H2:Hp}{s2:Shared}{it:Addr}{fp:List Addr}{tn:Nat->Heap->Prop}{J:It}{E:iH}{RR:Value->Env->Result->Shared->Prop}{QQ:Addr->Hp->Prop}
 (O:Out X EE) (T:ie X scope own fq js)
 (hg:∀ C s H fp,PG (aZ X (own++fq) scope (fun _ _=>False) C s H fp) tg g)
 (ht:∀ C s H fp,Ig (aZ X (own++fq) scope (fun _ _=>False) C s H fp) ifs tt)
 (he:∀ C s H fp,PE (aZ X (own++fq) scope (MQ X (own++fq) scope EE C s H fp) C s H fp) elt te)
 (I2:Inv X pq σ H2 s2) (nM:Cf X.A X.calm X.prog X.w X.K tg J fp it tn) (st2:tn 0 s2.heap) (f2:∀ b∈fp,jA X pq H2 b)
 (hl:∀ D,H2 D=none->ig J g tt te own.length (dD σ js) D (QQ D) (upd H2 D (.lst [])))
 (hRR:∀ D C σ' H' s',s2.heap.objs.size<=C->Inv (aZ X (own++fq) scope (fun _ _=>False) C s2 H2 fp) [] σ' H' s'->QQ D H'->RR (.ref D) (newEnv scope C X.env.globals (bN X.env.cells scope.names []) X.env.qual none .none (some X.env) builtinsNs) (.ok .next) s')
 (Y0:∀ D C e s8,s2.heap.objs.size<=C->MQ X (own++fq) scope EE C s2 H2 fp e s8->notedBy (model X.prog X.w) X.A (compEnvC scope (bN X.env.cells scope.names []) C X.env) (fun e s'=>RR D (newEnv scope C X.env.globals (bN X.env.cells scope.names []) X.env.qual none .none (some X.env) builtinsNs) (.error e) s') e s8) :
 wpAny (model X.prog X.w) X.A (newList []) (fun acc s₃=>wpAny (model X.prog X.w) X.A (newFunctionEnv scope X.env.globals (bN X.env.cells scope.names []) [] X.env.qual none .none (some X.env)) (fun cenv s₄ =>
  codeAny (model X.prog X.w) X.A (.compStart (.ListComp elt [⟨tg,iter,ifs,0⟩] scope pos) 0 (.ref it) acc { cenv with scope:=relabel scope X.env}) (RR acc cenv) s₄) E s₃) E s2:=by
 refine wpAny_newObj_type (wpAny_newFunctionEnv T.Bf (by intro y hy;simp at hy) (fun h₁ vC yf=>?_) T.kind)
 dsimp only at vC yf ⊢;generalize E9:s2.heap.push { cls:=.type "list",dict:=none,data:=.seq ([]:List Value).toArray}=G2 at vC yf ⊢;have hC:G2.objs.size=s2.heap.objs.size+1:=by rw[<-E9,Heap.size_push]
 have hDC:s2.heap.objs.size≠G2.objs.size:=by rw[hC];exact Nat.ne_of_lt (Nat.lt_succ_self _)
 have yg:s2.heap.objs.size<=G2.objs.size:=by rw[hC];exact Nat.le_succ _
 have below:∀ b,b<s2.heap.objs.size->b≠G2.objs.size:=fun b hb=>by rw[hC];exact Nat.ne_of_lt (Nat.lt_succ_of_lt hb)
 have old:∀ b o,s2.heap.get? b=some o->h₁.get? b=some o:=fun b o e=>yf.extBut b o (below b (Heap.lt_size e)) (Heap.get?_push_of_some _ (E9▸Heap.get?_push_of_some _ e))
 have hacc:h₁.get? s2.heap.objs.size=some { cls:=.type "list",data:=.seq ([]:List Value).toArray 0}:=yf.extBut _ _ hDC (Heap.get?_push_of_some _ (E9▸Heap.get?_push_size _ rfl));have Fb:∀ b∈fp,∃ o,s2.heap.get? b=some o:=fun b hb=>let⟨o,e,_⟩:=nM.obj _ _ st2 b hb;⟨o,e⟩
 have st1:tn 0 h₁:=nM.keep _ _ _ st2 fun b _ o e=>old b o e
 obtain⟨W,⟨m0,w0⟩,turn⟩:=hl s2.heap.objs.size (I2.hok.fresh (Nat.le_refl _));have hfx:∀{H' : Hp},(∀ b∈fp,H' b=none)->∀ b∈fp,jA (aZ X (own++fq) scope (fun _ _=>False) G2.objs.size s2 H2 fp) [] H' b:=fun {H'} hn b hb=>by
  obtain⟨_,f1,Mv,_,f4,_⟩:=f2 b hb;obtain⟨o,ho⟩:=Fb b hb;refine⟨hn b hb,below b (Heap.lt_size ho),fun z=>?_,.inl hb,fun x c e=>?_,fun p hp=>absurd (show p∈([]:br) from hp) (by simp)⟩
  ·rcases List.mem_cons.mp (I2.lg b z) with q|q
   ·exact f1 q
   ·exact Mv q
  ·rcases fB (show(bN X.env.cells scope.names []).lookup x=some c from e) with q|⟨q1,q2⟩
   ·cases q
   ·obtain⟨c',hc'⟩:=gE I2 T x .free q1 rfl;rw[hc']at q2;have q2:c' = c:=q2;rw[<-q2];exact f4 x c' hc'
 have Mw:∀ b∈fp,upd H2 s2.heap.objs.size (.lst []) b=none:=fun b hb=>by
  obtain⟨o,ho⟩:=Fb b hb;rw[aT (Nat.ne_of_lt (Heap.lt_size ho))];exact(f2 b hb).1
 have back:∀{σ6:St} {p6:br} {H6:Hp} {s6:Shared},Inv (aZ X (own++fq) scope (fun _ _=>False) G2.objs.size s2 H2 fp) p6 σ6 H6 s6->σ6.drop own.length=dD σ js->
  Inv (aZ X (own++fq) scope (fun _ _=>False) G2.objs.size s2 H2 fp) [] (List.replicate own.length none++dD σ js) H6 s6:=fun {σ6 p6 H6 s6} I6 hd=>by
  have My:σ6.length=(own++fq).length:=I6.len;have J6:=I6.lj (LV:=[]) fun p hp=>absurd hp (by simp)
  refine J6.weak ?_ fun i v e=>?_
  ·have q:=congrArg List.length hd;rw[List.length_drop]at q;rw[List.length_append]at My;rw[List.length_append,List.length_replicate]
   lia
  ·by_cases hi:i<own.length
   ·rw[List.getElem?_append_left (by simpa using hi),List.getElem?_replicate,if_pos hi]at e
    cases e
   ·rw[List.getElem?_append_right (by simpa using hi),List.length_replicate,<-hd,List.getElem?_drop]at e
    rw[show own.length+(i-own.length)=i by lia]at e
    exact e
 have loop:∀ s₃:Shared,s₃={ s2 with heap:=h₁,toks:=s2.toks+([]:List (Str×Value)).length}->
  codeAny (model X.prog X.w) X.A (.compLoop (.ListComp elt [⟨tg,iter,ifs,0⟩] scope pos) 0 (.ref it) (.ref s2.heap.objs.size) (compEnvC scope (bN X.env.cells scope.names []) G2.objs.size X.env))
   (RR (.ref s2.heap.objs.size) (newEnv scope G2.objs.size X.env.globals (bN X.env.cells scope.names []) X.env.qual none .none (some X.env) builtinsNs)) s₃:=by
  rintro s₃ rfl;refine lA (fun n s'=>∃ i acc H',Inv (aZ X (own++fq) scope (fun _ _=>False) G2.objs.size s2 H2 fp) [] (List.replicate own.length none++dD σ js) H' s'/\tn i s'.heap/\(∀ b∈fp,H' b=none)/\W i n acc H') ?_ m0
   ⟨0,[],upd H2 s2.heap.objs.size (.lst []),zz I2 T f2 Fb (Nat.le_refl _) yg hDC old hacc vC,st1,Mw,w0⟩
  rintro n s3 ⟨i,acc,H3,I3,st3,B3,w3⟩;obtain⟨wB,zB⟩:=turn i n acc H3 w3;rcases zB with⟨stop,qn⟩|⟨go,hz,NN,Jy,step⟩
  ·refine wpAny_mono (nM.done (aZ X (own++fq) scope (fun _ _=>False) G2.objs.size s2 H2 fp) rfl rfl rfl rfl rfl i [] s3 _ H3 (fun _ _=>False) I3 (hfx B3) st3 stop) (fun r s4 ⟨hr,I4⟩=>?_) fun _ _ z=>z.elim
   subst hr;exact hRR _ _ _ H3 s4 yg I4 qn
  ·refine wpAny_mono (nM.item (aZ X (own++fq) scope (fun _ _=>False) G2.objs.size s2 H2 fp) rfl rfl rfl rfl rfl i [] s3 _ H3 (fun _ _=>False) I3 (hfx B3) st3 go) (fun r s4 ⟨u,hr,h4⟩=>?_) fun _ _ z=>z.elim
   subst hr;refine wpAny_mono h4 (fun _ s5 ⟨x,H5,I5,r5,y5,xX,HL⟩=>?_) fun _ _ z=>z.elim
   have HM:=I5.pinned (hfx HL) (nM.obj _ _ xX);refine wpAny_mono (hg _ _ _ _ _ s5 _ H5 x u _ HM r5 (step x H5 y5)) (fun _ s6 ⟨σ6,H6,I6,Jz,q6⟩=>?_) fun _ _ z=>z.elim
   refine wpAny_mono (ht _ _ _ _ _ s6 σ6 H6 _ I6 q6) (fun ok s7 ⟨H7,I7,q7⟩=>?_) fun _ _ z=>z.elim
   have again:∀{H8:Hp} {s8:Shared},Inv (aZ X (own++fq) scope (fun _ _=>False) G2.objs.size s2 H2 fp) ([]++mL fp s5.heap) σ6 H8 s8->tn (i+1) s8.heap/\∀ b∈fp,H8 b=none:=fun {H8 s8} I8=>by
    refine⟨nM.keep _ _ _ xX fun b hb o e=>(I8.pin (b,o) (pO _ (pO _ (cV hb e)))).1,fun b hb=>?_⟩
    obtain⟨o,e,d⟩:=nM.obj _ _ xX b hb;exact(I8.pin (b,o) (pO _ (pO _ (cV hb e)))).2.1
   cases ok with
   | false =>
     rw[if_neg Bool.false_ne_true];obtain⟨m',hm,w7⟩:=Jy _ _ q7;obtain⟨t7,n7⟩:=again I7;exact⟨m',hm,i+1,acc,H7,back I7 Jz,t7,n7,w7⟩
   | true =>
     rw[if_pos rfl];refine wpAny_mono (he _ _ _ _ _ s7 σ6 H7 _ (Bx I7) q7) (fun xv s8 ⟨v,H8,I8,r8,Mz,q8⟩=>?_) fun e s8 z=>Y0 _ _ e s8 yg z
     replace I8:=Bx (W2:=fun _ _=>False) I8
     obtain⟨m',hm,w8⟩:=Jy _ _ q8;refine wpAny_mono (dO (X:=aZ X (own++fq) scope (fun _ _=>False) G2.objs.size s2 H2 fp) _ s8 σ6 H8 (.ref s2.heap.objs.size) [v] (.ref s2.heap.objs.size) [xv] (fun y H9=>y = .iC/\H9=upd H8 s2.heap.objs.size (.lst (acc++[v]))) I8 rfl (.cons r8 .nil) ⟨_,acc,v,rfl,rfl,Mz,hz,rfl,rfl⟩)
      (fun _ s9 ⟨y,H9,I9,_,_,e9⟩=>?_) fun _ _ z=>z.elim
     subst e9;obtain⟨t9,n9⟩:=again I9;exact⟨m',hm,i+1,acc++[v],_,back I9 Jz,t9,n9,w8⟩
 exact codeAny_compStart_list (loop _ rfl) (nM.self _ 0 _ _ _ st1 (loop _ rfl))
end
theorem lI{M:Model}{A:Around}{E:iH}{s:Shared}{env:Env}{e:Expr}{scope:Scope}{pos:Pos}{newAcc first:Sem Value}{g:Comprehension}{gs:List Comprehension}{cl:List (Str×Addr)}{u:Value->Sem Unit}{Q:iH}
 (hcl:clausesOf e=g::gs) (hs:∀ x,foldedSetIterable g.iter env x=pure x) (hc:closureFor scope env=pure cl) (hk:scope.kind = .function) (hn:∀ x∈scope.names,x.2 = .local->scope.names.lookup x.1=some .local)
 (h:wpAny M A first (fun x s₁=>wpAny M A (pyIter x) (fun it s₂=>wpAny M A newAcc (fun acc s₃=>wpAny M A (newFunctionEnv scope env.globals cl [] env.qual none .none (some env)) (fun cenv s₄ =>
  codeAny M A (.compStart e 0 it acc { cenv with scope:=relabel scope env}) (fun r s'=>match r with
   | .ok _=>wpAny M A (u acc) (fun _ s''=>∃ m,s''.heap.Ns cenv.locals m/\∀ h',Heap.SameBut cenv.locals s''.heap h'->Q .none { s'' with heap:=h'}) E s'
   | .error x=>∃ m,s'.heap.Ns cenv.locals m/\∀ h',Heap.SameBut cenv.locals s'.heap h'->wpAny M A (PySem.passOn "comprehension.variables-let-go" x { cenv with scope:=relabel scope env}) Q E { s' with heap:=h'}) s₄) E s₃) E s₂) E s₁) E s) :
 wpAny M A (comprehension e scope env pos newAcc false first (some u)) Q E s:=by
 simp only[comprehension,hcl,hs,pure_bind,hc];refine iX (wpAny_mono h (fun x s₁ h₁=>?_) fun _ _ z=>z)
 refine iX (wpAny_standAt ?_);refine iX (wpAny_holding (wpAny_mono h₁ (fun it s₂ h₂=>?_) fun _ _ z=>z))
 rw[if_pos (by rfl)]
 refine iX (wpAny_standAt ?_);refine iX (wpAny_mono h₂ (fun acc s₃ h₃=>?_) fun _ _ z=>z)
 refine iX (wpAny_mono h₃ (fun cenv s₄ h₄=>?_) fun _ _ z=>z)
 refine wpAny_holding (iX (wpAny_attempt (wpAny_holding (wpAny_run ?_))));have loc:∀ y∈(List.filter (fun x=>match x with | (n,k)=>(k==NameKind.local || k==NameKind.cell)&&n != Str.ofString ".0") scope.names).reverse,y.2=NameKind.local->({ cenv with scope:=relabel scope env}:Env).kindOf y.1=some NameKind.local:=fun y hy hl=>by
  have hm:=(List.mem_filter.mp (List.mem_reverse.mp hy)).1;exact sy (scope:=scope) (hn y hm hl)
 refine codeAny_mono (show codeAny M (A.mark none) _ _ s₄ from h₄) fun r s' hr=>?_
 cases r with
 | ok f =>
   refine iX (wpAny_rule ?_);refine iX (wpAny_holding (wpAny_mono (show wpAny M A (u acc) _ E s' from hr) (fun _ s'' z=>?_) fun _ _ z=>z))
   obtain⟨m,hm,q⟩:=z;exact iX (wpAny_comp_letGo (cenv:={ cenv with scope:=relabel scope env}) hk _ _ m (fun y hy hl=>loc y ((List.mem_append.mp hy).elim (fun z=>List.mem_of_mem_drop z) fun z=>List.mem_of_mem_take z) hl) hm fun h' m' _ sb=>wpAny_pure (q h' sb))
 | error x =>
   obtain⟨m,hm,q⟩:=hr;exact iX (wpAny_holding (wpAny_comp_letGo (cenv:={ cenv with scope:=relabel scope env}) hk _ _ m loc hm fun h' m' _ sb=>q h' sb))
section
variable {X:Cx}{EE:XK}{elt iter tg:Expr}{ifs:List Expr}{scope:Scope}{pos:Pos}{own fq:List Str}{js:List Nat}{wi:TI}{g:TG}{tt:TT}{te:TE}
theorem FW{i:Nat}{x:Str}{pos' spos:Pos}(O:Out X EE)(hN:X.N.Nodup)(hix:X.N[i]?=some x)(hx:X.env.scope.names.lookup x=some .local)(T:ie X scope own fq js)(hc:X.calm=true)(hi:PI X tg iter wi)
 (hg:∀ C s H fp,PG (aZ X (own++fq) scope (fun _ _=>False) C s H fp) tg g)
 (ht:∀ C s H fp,Ig (aZ X (own++fq) scope (fun _ _=>False) C s H fp) ifs tt)
 (he:∀ C s H fp,PE (aZ X (own++fq) scope (MQ X (own++fq) scope EE C s H fp) C s H fp) elt te)
 (hsw:swapsWith (.ListComp elt [⟨tg,iter,ifs,0⟩] scope pos) (some (.Name x pos')) spos.line X.env=pure true:=by rfl)
 (hs:∀ x,foldedSetIterable iter X.env x=pure x:=by intro _;rfl) :
 PS X (.Assign [.Name x pos'] (.ListComp elt [⟨tg,iter,ifs,0⟩] scope pos) spos) (zC i wi g tt te own.length js):=by
 intro pq s σ H D I h;rw[exec_Assign_Name_used _ _ _ _ hsw];refine iX (wpAny_standAt (iX ?_));show wpAny _ X.A (do let _←comprehension (.ListComp elt [⟨tg,iter,ifs,0⟩] scope pos) scope X.env _ (newList []) false (eval iter X.env) (some (assign (.Name x pos') X.env))) _ _ s
 refine iX (wpAny_mono (lI (u:=assign (.Name x pos') X.env) (Q:=fun _ s'=>SP X pq D .next s') rfl hs (ly (gE I T)) T.kind T.names ?_) (fun _ s' hq=>wpAny_pure (wpAny_pure hq)) fun _ _ e=>e)
 refine wpAny_mono (hi pq s σ H _ I h) (fun v s1 h1=>wpAny_mono h1 (fun itv s2 h2=>?_) fun _ _ z=>z) fun _ _ z=>z
 obtain⟨it,fp,tn,J,H2,e,I2,nM,st2,f2,hl⟩:=h2;subst e;refine z6 (QQ:=fun D' H'=>D.nx (σ.set i (some (.ref D'))) H') O T hg ht he I2 (nM.x hc) st2 f2 hl (fun D' C σ' H' s' hC J' q=>?_) fun D C e s8 hC z=>?_
 ·have I3:Inv X pq σ H' s':=by
   obtain⟨hh,gg,dd,YI,oo⟩:=s';exact jN I2 f2 hC J' (Heap.SameBut.refl ..)
  obtain⟨m,hn,_⟩:=J'.loc;obtain⟨oC,es,ep,KH,KI,rest⟩:=id hn;have Bg:H' C=none:=J'.free;have MA:C≠X.env.locals:=Nat.ne_of_gt (Nat.lt_of_lt_of_le I2.lt hC);have Qm:C∉X.fs:=fun z=>by
   obtain⟨_,o,ho,_⟩:=I2.funs.mem z;exact absurd (Nat.lt_of_lt_of_le (Heap.lt_size ho) hC) (Nat.lt_irrefl _)
  have I4:Inv X (pq++[(C,oC)]) σ H' s':=I3.lj fun p hp=>(List.mem_append.mp hp).elim (fun z=>I3.pin p (pO _ z)) fun z=>by
   have e:p=(C,oC):=by simpa using z
   subst e;exact⟨KH,Bg,MA,Qm,fun v z=>by have z' : oC.data = .cell v:=z;rw[KI]at z';cases z'⟩
  show wpAny _ X.A (assign (.Name x pos') X.env (.ref D')) _ _ _;refine wpAny_assign_Name (mK (v:=.ref D') I4 hN hix (.inl hx) rfl (fun s5 I5=>?_) (.inr hx))
  have e5:s5.heap.get? C=some oC:=(I5.pin (C,oC) (pO _ (pO _ (by simp)))).1
  refine⟨m,⟨oC,es,ep,e5,KI,rest⟩,fun h' sb=>⟨_,H',?_,q⟩⟩
  have I6:Inv X pq (σ.set i (some (.ref D'))) H' s5:=I5.ic;refine I6.turned (t':=s5.toks) (fun b o hb e=>(sb.2 b hb).trans e) Bg MA (.inr (Nat.le_trans I2.sz hC)) (fun y c e=>?_) (fun p hp z=>?_)
  ·obtain⟨v,qc⟩:=I2.cell y c e;exact Nat.ne_of_lt (Nat.lt_of_lt_of_le qc.lt hC)
  ·have MB:=(I2.pin p hp).1;rw[z]at MB;exact absurd (Nat.lt_of_lt_of_le (Heap.lt_size MB) hC) (Nat.lt_irrefl _)
 ·exact zZ O I2 f2 hC z
end
end L2
namespace RM
variable {N:Net}{m t0:Nat}
def Net.IB(N:Net)(t v:Nat):Nat:=if N.a t=v then N.b t else N.a t
def Net.lJ(N:Net)(left v:Nat):List Nat:=(List.range N.n).filter fun t=>left.testBit t&&(decide (N.a t=v) || decide (N.b t=v))
theorem eg{left v t:Nat}:t∈N.lJ left v↔t<N.n/\left.testBit t=true/\(N.a t=v\/N.b t=v):=by
 unfold Net.lJ;rw[List.mem_filter,List.mem_range,Bool.and_eq_true,Bool.or_eq_true,decide_eq_true_eq,decide_eq_true_eq]
inductive Wk(N:Net)(m t0:Nat):List (Nat×Int)->Nat->Nat->Prop
 | start:Wk N m t0 [(t0,1)] (N.b t0) (m^^^2^t0)
 | next {acc:List (Nat×Int)} {v left t:Nat} (h:Wk N m t0 acc v left) (h0:left≠0) (ht:(N.lJ left v)[0]?=some t):Wk N m t0 (acc++[(t,if N.a t=v then 1 else -1)]) (N.IB t v) (left^^^2^t)
theorem z7{t v:Nat}(h:N.a t=v\/N.b t=v):(N.a t=v/\N.b t=N.IB t v)\/(N.b t=v/\N.a t=N.IB t v):=by
 unfold Net.IB
 by_cases e:N.a t=v
 ·rw[if_pos e];exact .inl ⟨e,rfl⟩
 ·rw[if_neg e];rcases h with h|h
  ·exact absurd h e
  ·exact .inr ⟨h,rfl⟩
theorem FY{pre ks:List Nat}{v left:Nat}(h:Way N m pre v ks left)(hz:∀ k,m.testBit k=true->k∈ks):left=0:=by
 apply Nat.eq_of_testBit_eq;intro k;rw[h.ql,Nat.zero_testBit];cases hb:m.testBit k with
 | false=>rfl
 | true=>rw[eG (hz k hb)];rfl
theorem nV{pre ks:List Nat}{v left:Nat}(r:N.Ring m)(h:Way N m pre v ks left)(h0:left≠0):v∉pre:=fun hv=>by
 obtain⟨i,hi⟩:=List.getElem?_of_mem hv;obtain⟨q0,qe,_,qs⟩:=h.closes hi;rcases r.2.2 _ qs qe with z|z
 ·exact q0 z
 ·refine h0 (FY h fun k hk=>?_)
  rw[<-z,Ring.nU]at hk;exact List.mem_of_mem_drop (mG hk)
theorem By(hm:m<2^N.n)(r:N.Ring m)(hb:m.testBit t0=true){acc:List (Nat×Int)}{v left:Nat}(h:Wk N m t0 acc v left):∃ pre,Way N m pre v (acc.map (·.1)) left/\pre[0]?=some (N.a t0):=by
 induction h with
 | start =>
   refine⟨[N.a t0],?_,rfl⟩;exact(Way.start hm r.2.1 hb).go (by simp) hb (.inl ⟨rfl,rfl⟩)
 | next h h0 ht ih =>
   obtain⟨pre,w,p0⟩:=ih;have hm2:=eg.mp (nJ ht);refine⟨_,by rw[List.map_append];exact w.go (nV r w h0) hm2.2.1 (z7 hm2.2.2),?_⟩
   rw[List.getElem?_append_left (by have:=(zj.mp p0).1;exact this)]
   exact p0
theorem JK(hm:m<2^N.n)(r:N.Ring m)(hb:m.testBit t0=true){acc:List (Nat×Int)}{v left:Nat}(h:Wk N m t0 acc v left)(h0:left≠0):∃ t,(N.lJ left v)[0]?=some t:=by
 obtain⟨pre,w,_⟩:=By hm r hb h;obtain⟨t,h1,h2⟩:=w.on (nV r w h0);have ht:t<N.n:=cD w.CB h1;have hmem:t∈N.lJ left v:=eg.mpr ⟨ht,h1,h2⟩;cases e:N.lJ left v with
 | nil=>rw[e]at hmem;cases hmem
 | cons x l=>exact⟨x,rfl⟩
theorem MT(hm:m<2^N.n)(r:N.Ring m)(hb:m.testBit t0=true){acc:List (Nat×Int)}{v left:Nat}(h:Wk N m t0 acc v left):v<N.p/\left<2^N.n/\∀ q∈acc,q.1<N.n:=by
 obtain⟨pre,w,_⟩:=By hm r hb h;refine⟨w.ON v (by simp),w.CB,fun q hq=>w.w.lt q.1 (List.mem_map.mpr ⟨q,hq,rfl⟩)⟩
theorem FZ(hm:m<2^N.n)(r:N.Ring m)(hb:m.testBit t0=true){acc:List (Nat×Int)}{v left:Nat}(h:Wk N m t0 acc v left):left=0↔v=N.a t0:=by
 obtain⟨pre,w,p0⟩:=By hm r hb h
 constructor
 ·intro z;apply Classical.byContradiction;intro hne;have QH:v<N.p:=w.ON v (by simp)
  have hb0:=w.w.bd 0 (N.a t0) (by rw[List.getElem?_append_left (zj.mp p0).1];exact p0) v
  rw[List.drop_zero,ia (fun e=>hne e.symm),eG rfl]at hb0
  have hx:m^^^Ring.orM (acc.map (·.1))=0:=by rw[<-w.tG];exact z
  have e:Ring.orM (acc.map (·.1))=m:=by
   have e2:m^^^(m^^^Ring.orM (acc.map (·.1)))=m^^^0:=by rw[hx]
   rw[<-Nat.xor_assoc,Nat.xor_self,Nat.zero_xor,Nat.xor_zero]at e2;exact e2
  rw[e,r.2.1 v QH]at hb0;cases hb0
 ·intro z;apply Classical.byContradiction;intro h0;exact nV r w h0 (by rw[z];exact nJ p0)
theorem ux{left t n:Nat}(ht:t<n)(hb:left.testBit t=true):cnt (fun j=>left.testBit j) n=cnt (fun j=>(left^^^2^t).testBit j) n+1 :=
 ue (h:=t) hb ht fun x _=>by
  rw[Nat.testBit_xor,Nat.testBit_two_pow]
  by_cases e:x=t
  ·subst e;simp[hb]
  ·rw[ia e,ia (fun z=>e z.symm)]
   simp
theorem pC(hm:m<2^N.n)(hb:m.testBit t0=true){acc:List (Nat×Int)}{v left:Nat}(h:Wk N m t0 acc v left):acc.length+cnt (fun j=>left.testBit j) N.n=cnt (fun j=>m.testBit j) N.n:=by
 induction h with
 | start =>
   have:=ux (cD hm hb) hb;show 1+_=_
   lia
 | next h h0 ht ih =>
   have hm2:=eg.mp (nJ ht);have:=ux hm2.1 hm2.2.1;rw[List.length_append,List.length_singleton]
   lia
theorem Ga{acc:List (Nat×Int)}{v left:Nat}(h:Wk N m t0 acc v left):0<acc.length:=by
 cases h with
 | start=>exact Nat.zero_lt_one
 | next _ _ _=>rw[List.length_append];exact Nat.succ_pos _
theorem IC{acc acc' : List (Nat×Int)}{v v' left left' : Nat}(h:Wk N m t0 acc v left)(h' : Wk N m t0 acc' v' left')(hl:acc.length=acc'.length):acc=acc'/\v=v'/\left=left':=by
 induction h generalizing acc' v' left' with
 | start =>
   cases h' with
   | start=>exact⟨rfl,rfl,rfl⟩
   | next h2 _ _ =>
     exfalso
     have:=Ga h2;rw[List.length_append]at hl;simp at hl;rw[hl]at this;exact absurd this (Nat.lt_irrefl 0)
 | next h h0 ht ih =>
   cases h' with
   | start =>
     exfalso
     have:=Ga h;rw[List.length_append]at hl;simp at hl;rw[hl]at this;exact absurd this (Nat.lt_irrefl 0)
   | next h2 h02 QO =>
     rw[List.length_append,List.length_append]at hl;obtain⟨e1,e2,e3⟩:=ih h2 (by simpa using hl)
     subst e1 e2 e3;rw[ht]at QO;cases QO;exact⟨rfl,rfl,rfl⟩
theorem ID(hm:m<2^N.n)(hb:m.testBit t0=true){acc acc' : List (Nat×Int)}{v v' : Nat}(h:Wk N m t0 acc v 0)(h' : Wk N m t0 acc' v' 0):acc=acc':=by
 have l1:=pC hm hb h;have l2:=pC hm hb h';exact(IC h h' (by lia)).1
variable {N:Net}{m t0:Nat}
theorem qq(hb:m.testBit t0=true){acc:List (Nat×Int)}{v left:Nat}(h:Wk N m t0 acc v left):∀ k,left.testBit k=(m.testBit k && !decide (k∈acc.map (·.1))):=by
 induction h with
 | start =>
   intro k;rw[Nat.testBit_xor,Nat.testBit_two_pow]
   by_cases e:t0=k
   ·subst e;simp[hb]
   ·have e' : ¬ k=t0:=fun z=>e z.symm
    simp[e,e']
 | @next acc v left t h h0 ht ih =>
   intro k;have hm2:=eg.mp (nJ ht);have hin:=hm2.2.1;rw[ih t]at hin;rw[Nat.testBit_xor,Nat.testBit_two_pow,ih k,List.map_append]
   by_cases e:t=k
   ·subst e;rw[hin];simp
   ·have e' : ¬ k=t:=fun z=>e z.symm
    have e3:(k∈acc.map (·.1)++[(t,if N.a t=v then(1:Int) else -1)].map (·.1))↔k∈acc.map (·.1):=by simp[e']
    rw[show decide (k∈acc.map (·.1)++[(t,if N.a t=v then(1:Int) else -1)].map (·.1))=decide (k∈acc.map (·.1)) from decide_eq_decide.mpr e3]
    simp[e]
theorem BA(hm:m<2^N.n)(hb:m.testBit t0=true){acc:List (Nat×Int)}{v left:Nat}(h:Wk N m t0 acc v left):left<2^N.n:=jh fun k hk=>by
 rw[qq hb h k,Bool.and_eq_true]at hk;exact cD hm hk.1
theorem Gb{left n:Nat}(hl:left<2^n):cnt (fun j=>left.testBit j) n=0↔left=0:=by
 constructor
 ·intro h;apply Classical.byContradiction;intro h0;obtain⟨j,hj⟩:=Nat.exists_testBit_of_ne_zero h0;have:=qi (f:=fun j=>left.testBit j) hj (cD hl hj)
  lia
 ·rintro rfl;rw[jj];refine(iq fun k _=>?_).trans (tE n)
  rw[if_neg (by rw[Nat.zero_testBit];simp)]
theorem IE(hm:m<2^N.n)(hb:m.testBit t0=true){acc:List (Nat×Int)}{v left:Nat}(h:Wk N m t0 acc v left):acc.length=cnt (fun j=>m.testBit j) N.n↔left=0:=by
 have:=pC hm hb h;rw[<-Gb (BA hm hb h)]
 lia
end RM
namespace Ring
open PySem L2
def CD(H:Hp)(x:V)(q:Nat×Int):Prop:=∃ b,x = .ref b/\H b=some (.tup [.int (q.1:Int),.int q.2])
def WalkAt(H:Hp)(D:Addr)(acc:List (Nat×Int)):Prop:=∃ xs,H D=some (.lst xs)/\Paired (CD H) xs acc
theorem CD.same{H H' : Hp}(s:au H H'){x:V}{q:Nat×Int}(h:CD H x q):CD H' x q:=by
 obtain⟨b,e,hb⟩:=h;exact⟨b,e,s _ _ hb⟩
theorem WalkAt.same{H H' : Hp}(s:au H H'){D:Addr}{acc:List (Nat×Int)}(h:WalkAt H D acc):WalkAt H' D acc:=by
 obtain⟨xs,h1,h2⟩:=h;exact⟨xs,s _ _ h1,Paired.imp' (fun _ _ z=>CD.same s z) h2⟩
theorem cO{α β:Type}{F:α->β->Prop}{x:α}{y:β}(h:F x y):∀{l:List α} {r:List β},Paired F l r->Paired F (l++[x]) (r++[y])
 | _,_,.nil=>.cons h .nil
 | _,_,.cons h1 h2=>.cons h1 (cO h h2)
theorem CD.put{H:Hp}{D:Addr}{xs ys:List V}(hD:H D=some (.lst xs)){x:V}{q:Nat×Int}(h:CD H x q):CD (upd H D (.lst ys)) x q:=by
 obtain⟨b,e,hb⟩:=h;have:b≠D:=fun z=>by
  rw[z,hD]at hb;cases hb
 exact⟨b,e,by rw[aT this];exact hb⟩
theorem WalkAt.push{H:Hp}{D b:Addr}{acc:List (Nat×Int)}{xs:List V}{q:Nat×Int}(hD:H D=some (.lst xs))(h:Paired (CD H) xs acc)(hb:H b=some (.tup [.int (q.1:Int),.int q.2])):WalkAt (upd H D (.lst (xs++[.ref b]))) D (acc++[q]) :=
 ⟨xs++[.ref b],aj,cO (CD.put hD ⟨b,rfl,hb⟩) (Paired.imp' (fun _ _ z=>CD.put hD z) h)⟩
theorem yv{H:Hp}{xs:List V}{p:Nat}{ts:List cg}{g:az p ts}{k:Nat}(h3:Paired (TupAt H) xs ts)(hk:k<ts.length):∃ c,xs[k]?=some (.ref c)/\H c=some (.tup [.int ((g.N.a k:Nat):Int),.int ((g.N.b k:Nat):Int),.int (cM ts k).2.2]):=by
 have hkx:k<xs.length:=by rw[h3.length];exact hk
 obtain⟨t,ht,c,hc,hct⟩:=Paired.mD h3 (i:=k) (x:=xs[k]) (by simp[hkx])
 have MU:t=cM ts k:=by
  have z:=rF hk;rw[ht]at z;exact Option.some.inj z
 refine⟨c,by rw[<-hc];simp[hkx],?_⟩
 rw[hct,<-Cq hk,<-Cr hk,MU];rfl
theorem DN{m:Nat}(h:m≠0):∃ c,(bw (m:Int))[0]?=some c/\m.testBit c=true:=by
 obtain⟨k,hk⟩:=Nat.exists_testBit_of_ne_zero h;have hm:k∈bw (m:Int):=by
  unfold bw;refine List.mem_filter.mpr ⟨List.mem_range.mpr (Nat.lt_of_not_le fun z=>?_),by rw[pY];exact hk⟩
  have:=zN z;rw[pY,hk]at this;cases this
 cases e:bw (m:Int) with
 | nil =>
   rw[e]at hm;cases hm
 | cons c r =>
   have hc:c∈bw (m:Int):=by rw[e];exact List.mem_cons_self
   unfold bw at hc;have:=(List.mem_filter.mp hc).2;rw[pY]at this;exact⟨c,rfl,this⟩
theorem IF{N:RM.Net}{m t0:Nat}{acc:List (Nat×Int)}{v left:Nat}(h:RM.Wk N m t0 acc v left):∀ q∈acc,q.2=1\/q.2 = -1:=by
 induction h with
 | start =>
   intro q hq;rw[List.mem_singleton.mp hq];exact .inl rfl
 | @next acc v left t h h0 ht ih =>
   intro q hq;rcases List.mem_append.mp hq with z|z
   ·exact ih q z
   ·rw[List.mem_singleton.mp z]
    by_cases e:N.a t=v
    ·exact .inl (if_pos e)
    ·exact .inr (if_neg e)
theorem K5{row:List Int}{t n:Nat}(h:t<n)(hl:row.length=n):(aR row)[t]?=some (.int (row.getD t 0)):=by
 unfold aR;rw[List.getElem?_map,List.getD_eq_getElem?_getD,List.getElem?_eq_getElem (by lia)]
 rfl
theorem int_at{l:List Int}{i:Nat}(h:i<l.length):(aR l)[i]?=some (.int (l.getD i 0)):=K5 h rfl
end Ring
namespace RM
variable {N:Net}{row Y3:Nat->Int}
theorem DO{m t0:Nat}(hm:m<2^N.n)(r:N.Ring m)(hb:m.testBit t0=true):∃ acc v,Wk N m t0 acc v 0:=by
 have key:∀(k:Nat) (acc:List (Nat×Int)) (v left:Nat),Wk N m t0 acc v left->cnt (fun j=>left.testBit j) N.n=k->∃ acc v,Wk N m t0 acc v 0:=by
  intro k
  induction k with
  | zero =>
    intro acc v left h e;have hl:=pC hm hb h;rw[e]at hl;have h0:=(IE hm hb h).mp hl;subst h0;exact⟨acc,v,h⟩
  | succ k ih =>
    intro acc v left h e
    by_cases h0:left=0
    ·subst h0;exact⟨acc,v,h⟩
    ·obtain⟨t,ht⟩:=JK hm r hb h h0;have h':=Wk.next h h0 ht;have l1:=pC hm hb h;have l2:=pC hm hb h';rw[List.length_append]at l2;refine ih _ _ _ h' ?_;have e1:[((t:Nat),(if N.a t=v then(1:Int) else -1))].length=1:=rfl
     lia
 exact key _ _ _ _ .start rfl
variable {N' : Net}
variable {N:Net}{m t0:Nat}
inductive Goes(N:Net):Nat->List (Nat×Int)->Nat->List Nat->Prop
 | nil {u:Nat}:Goes N u [] u []
 | IG {t v:Nat} {acc:List (Nat×Int)} {EC:List Nat} (h:Goes N (N.b t) acc v EC):Goes N (N.a t) ((t,1)::acc) v (N.a t::EC)
 | back {t v:Nat} {acc:List (Nat×Int)} {EC:List Nat} (h:Goes N (N.a t) acc v EC):Goes N (N.b t) ((t,-1)::acc) v (N.b t::EC)
theorem Goes.snoc{u v t v' : Nat}{y:Int}{acc:List (Nat×Int)}{EC:List Nat}(h:Goes N u acc v EC)(hj:(N.a t=v/\y=1/\v' = N.b t)\/(N.b t=v/\y = -1/\v' = N.a t)):Goes N u (acc++[(t,y)]) v' (EC++[v]):=by
 induction h with
 | nil =>
   rcases hj with⟨rfl,rfl,rfl⟩|⟨rfl,rfl,rfl⟩
   ·exact .IG .nil
   ·exact .back .nil
 | IG h ih=>exact .IG (ih hj)
 | back h ih=>exact .back (ih hj)
theorem II(hm:m<2^N.n)(r:N.Ring m)(hb:m.testBit t0=true){acc:List (Nat×Int)}{v left:Nat}(h:Wk N m t0 acc v left):∃ pre,Way N m pre v (acc.map (·.1)) left/\Goes N (N.a t0) acc v pre:=by
 induction h with
 | start =>
   refine⟨[N.a t0],?_,.IG .nil⟩;exact(Way.start hm r.2.1 hb).go (by simp) hb (.inl ⟨rfl,rfl⟩)
 | @next acc v left t h h0 ht ih =>
   obtain⟨pre,w,p0⟩:=ih;have hm2:=eg.mp (nJ ht);refine⟨_,by rw[List.map_append];exact w.go (nV r w h0) hm2.2.1 (z7 hm2.2.2),p0.snoc ?_⟩
   unfold Net.IB
   by_cases e:N.a t=v
   ·exact .inl ⟨e,if_pos e,if_pos e⟩
   ·exact .inr ⟨hm2.2.2.resolve_left e,if_neg e,if_neg e⟩
theorem Ge(hb:m.testBit t0=true){acc:List (Nat×Int)}{v left:Nat}(h:Wk N m t0 acc v left):(acc.map (·.1)).Nodup:=by
 induction h with
 | start=>simp
 | @next acc v left t h h0 ht ih =>
   have hm2:=eg.mp (nJ ht);rw[List.map_append];refine List.nodup_append.mpr ⟨ih,by simp,fun x hx y hy=>?_⟩
   have e:y=t:=by simpa using hy
   rw[e];rintro rfl;have:=hm2.2.1;rw[qq hb h,eG hx,Bool.not_true,Bool.and_false]at this;cases this
theorem IJ(hm:m<2^N.n)(r:N.Ring m)(hb:m.testBit t0=true){acc:List (Nat×Int)}{v:Nat}(h:Wk N m t0 acc v 0):(acc.map (·.1)).Perm ((List.range N.n).filter fun k=>m.testBit k):=by
 refine(List.perm_ext_iff_of_nodup (Ge hb h) (List.Pairwise.filter _ List.nodup_range)).mpr fun k=>?_
 obtain⟨pre,w,_⟩:=II hm r hb h;rw[List.mem_filter,List.mem_range]
 constructor
 ·exact fun z=>⟨cD hm (w.sub k z),w.sub k z⟩
 ·rintro⟨_,z⟩;have:=qq hb h k;rw[Nat.zero_testBit,z,Bool.true_and]at this;cases e:decide (k∈acc.map (·.1)) with
  | true=>exact mG e
  | false=>rw[e]at this;cases this
variable {N:Net}
inductive Sp(B:List Nat):Nat->Prop
 | zero:Sp B 0
 | add {x b:Nat} (h:Sp B x) (hb:b∈B):Sp B (x^^^b)
section
variable {B C:List Nat}{x y b:Nat}
theorem Sp.mem(h:b∈B):Sp B b:=by
 have:=Sp.add .zero h;rw[Nat.zero_xor]at this;exact this
theorem Sp.xor(h:Sp B x)(h' : Sp B y):Sp B (x^^^y):=by
 induction h' with
 | zero=>rw[Nat.xor_zero];exact h
 | add _ hb ih=>rw[<-Nat.xor_assoc];exact .add ih hb
theorem Sp.mono(h:Sp B x)(hc:∀ b∈B,Sp C b):Sp C x:=by
 induction h with
 | zero=>exact .zero
 | add _ hb ih=>exact ih.xor (hc _ hb)
theorem Sp.lt{n:Nat}(h:Sp B x)(hz:∀ b∈B,b<2^n):x<2^n:=by
 induction h with
 | zero=>exact Nat.two_pow_pos n
 | add _ hb ih=>exact Nat.xor_lt_two_pow ih (hz _ hb)
end
open Ring (xorL xorL_cons maskOf)
variable {N:Net}
theorem rH:N.ak.Nodup:=List.Pairwise.filter _ List.nodup_range
theorem Gf{c:Nat}(hc:c<N.n)(hf:N.gz c=false):∃ j:Nat,N.ak[j]?=some c:=List.getElem?_of_mem (cW.mpr ⟨hc,hf⟩)
theorem rJ{c:Nat}(hc:c<N.n)(hf:N.gz c=false):N.Ring (N.ring c):=by
 refine⟨fun z=>?_,nQ hc,fun q hq ev=>?_⟩
 ·have h:=qf hf;rw[z]at h;simp at h
 ·have hqn:q<2^N.n:=jh fun k hk=>cD (nS hc) (hq k hk)
  cases qc:q.testBit c with
  | true =>
    refine .inr (Fy hqn (nS hc) ev (nQ hc) fun d hd hfd=>?_)
    rw[ji hf hfd]
    by_cases e:c=d
    ·subst e;simp[qc]
    ·rw[ia e];cases qd:q.testBit d with
     | false=>rfl
     | true =>
       have:=hq d qd;rw[ji hf hfd,ia e]at this;cases this
  | false =>
    refine .inl (iM (fun k hk=>?_) ev)
    rcases qa (hq k hk) with e|e
    ·subst e;rw[qc]at hk;cases hk
    ·exact e
open Ring (maskOf mask_bit mask_lt)
theorem sA{a b:Nat}(h:a^^^b=0):a=b:=by
 have:=congrArg (fun y=>y^^^b) h
 simp only[Nat.zero_xor]at this
 rwa [Nat.xor_assoc,Nat.xor_self,Nat.xor_zero]at this
def comb:List Nat->Nat->Nat
 | [],_=>0
 | b::B,z=>(if z.testBit 0=true then b else 0)^^^comb B (z/2)
theorem Gg(a b c d:Nat):(a^^^b)^^^(c^^^d)=(a^^^c)^^^(b^^^d):=Nat.eq_of_testBit_eq fun i=>by
 simp only[Nat.testBit_xor];cases a.testBit i<;>cases b.testBit i<;>cases c.testBit i<;>cases d.testBit i<;>rfl
theorem Gh(z y:Nat):(z^^^y)/2=z/2^^^y/2:=Nat.eq_of_testBit_eq fun i=>by
 rw[Nat.testBit_xor,<-Nat.testBit_succ,<-Nat.testBit_succ,<-Nat.testBit_succ,Nat.testBit_xor]
theorem z8:∀(B:List Nat) (z y:Nat),comb B (z^^^y)=comb B z^^^comb B y
 | [],_,_=>by simp[comb]
 | b::B,z,y=>by
   unfold comb;rw[Gh,z8 B,Nat.testBit_xor,Gg]
   congr 1
   cases z.testBit 0<;>cases y.testBit 0<;>simp
theorem CF(B:List Nat):∀ z,Sp B (comb B z):=by
 induction B with
 | nil=>intro z;exact .zero
 | cons b B ih =>
   intro z;have h:Sp (b::B) (comb B (z/2)):=(ih (z/2)).mono fun c hc=>.mem (vz _ hc)
   unfold comb;rw[Nat.xor_comm]
   by_cases e:z.testBit 0=true
   ·rw[if_pos e];exact h.add List.mem_cons_self
   ·rw[if_neg e,Nat.xor_zero];exact h
def MV(B:List Nat):Prop:=∀ z,z<2^B.length->comb B z=0->z=0
theorem Gi(B:List Nat)(h:MV B){z y:Nat}(hz:z<2^B.length)(hy:y<2^B.length)(e:comb B z=comb B y):z=y:=by
 have:=h (z^^^y) (Nat.xor_lt_two_pow hz hy) (by rw[z8,e,Nat.xor_self])
 exact sA this
section
variable {N:Net}
theorem wY{B:List Nat}(h:∀ b∈B,N.fS b/\b<2^N.n)(z:Nat):N.fS (comb B z)/\comb B z<2^N.n:=by
 have hs:=CF B z;refine⟨?_,hs.lt fun b hb=>(h b hb).2⟩
 generalize comb B z=x at hs
 induction hs with
 | zero=>exact fS.zero
 | add _ hb ih=>exact fS.xor ih (h _ hb).1
theorem IK{f:Nat->Nat}{a b:Nat}(hf:∀ z,z<2^a->f z<2^b)(inj:∀ z y,z<2^a->y<2^a->f z=f y->z=y):a<=b:=by
 have nd:((List.range (2^a)).map f).Nodup:=by
  refine List.pairwise_map.mpr ?_;refine List.Pairwise.imp_of_mem (fun {z y} hz hy hne e=>?_) List.nodup_range
  exact hne (inj z y (List.mem_range.mp hz) (List.mem_range.mp hy) e)
 have:=FE nd fun x hx=>by
  obtain⟨z,hz,rfl⟩:=List.mem_map.mp hx;exact hf z (List.mem_range.mp hz)
 rw[List.length_map,List.length_range]at this;exact(Nat.pow_le_pow_iff_right (by decide)).mp this
def meets(ks:List Nat)(m:Nat):Nat:=maskOf (fun i=>m.testBit (ks.getD i 0)) ks.length
theorem Gj(ks:List Nat)(m:Nat):meets ks m<2^ks.length:=mask_lt _ _
theorem DP{ks:List Nat}{m i k:Nat}(h:ks[i]?=some k):(meets ks m).testBit i=m.testBit k:=by
 unfold meets;rw[mask_bit,List.getD_eq_getElem?_getD,h,eG (zj.mp h).1];rfl
theorem K6{B:List Nat}(hi:MV B)(h:∀ b∈B,N.fS b/\b<2^N.n):B.length<=N.ak.length:=by
 refine IK (f:=fun z=>meets N.ak (comb B z)) (fun z _=>Gj _ _) fun z y hz hy e=>Gi B hi hz hy ?_
 have h1:=wY h z;have h2:=wY h y;refine sA (iM (N:=N) (fun k hk=>?_) (fS.xor h1.1 h2.1))
 have hkn:=cD (Nat.xor_lt_two_pow h1.2 h2.2) hk;refine⟨hkn,?_⟩;cases hf:N.gz k with
 | true=>rfl
 | false =>
   obtain⟨j,hj⟩:=List.getElem?_of_mem (cW.mpr ⟨hkn,hf⟩);have e:meets N.ak (comb B z)=meets N.ak (comb B y):=e;have:=congrArg (fun x=>x.testBit j) e
   simp only[DP hj]at this;rw[Nat.testBit_xor,this,Bool.xor_self]at hk;cases hk
open Classical in
theorem wZ:∀(rs:List Nat) {k z:Nat} {f:Nat->Bool},(∀ i r,rs[i]?=some r->r.testBit k=f i)->(comb rs z).testBit k=bK (fun i=>z.testBit i&&f i) rs.length
 | [],_,_,_,_=>Nat.zero_testBit _
 | r::rs,k,z,f,h=>by
   have ih:=wZ rs (k:=k) (z:=z/2) (f:=fun i=>f (i+1)) fun i r hr=>h (i+1) r hr
   have h0:=h 0 r rfl;have shift:∀(g:Nat->Bool) n,bK g (n+1)=(g 0^^bK (fun i=>g (i+1)) n):=fun g n=>by
    induction n with
    | zero =>
      show(false^^g 0)=(g 0^^false);cases g 0<;>rfl
    | succ n ih =>
      show(bK g (n+1)^^g (n+1))=(g 0^^(bK (fun i=>g (i+1)) n^^g (n+1)))
      rw[ih,Bool.xor_assoc]
   unfold comb;rw[Nat.testBit_xor,ih,List.length_cons,shift]
   congr 1
   ·cases z.testBit 0 with
    | true=>rw[if_pos rfl,h0,Bool.true_and]
    | false=>rw[if_neg (by decide),Nat.zero_testBit,Bool.false_and]
   ·exact bS fun i _=>by rw[Nat.testBit_succ]
end
section
variable {B:List Nat}{rows:List Row3}
theorem w6(f:Nat->Bool)(n:Nat):∀{l:List Nat},l.Nodup->(∀ k∈l,k<n)->bK (fun k=>f k&&decide (k∈l)) n=l.foldr (fun k acc=>f k^^acc) false
 | [],_,_=>nP fun k _=>by simp
 | a::l,nd,h=>by
   obtain⟨n1,n2⟩:=List.nodup_cons.mp nd;have ih:=w6 f n n2 fun k hk=>h k (vz _ hk)
   have:bK (fun k=>f k&&decide (k∈a::l)) n=bK (fun k=>(f k&&decide (a=k))^^(f k&&decide (k∈l))) n:=bS fun k _=>by
    by_cases e:a=k
    ·subst e;rw[eG List.mem_cons_self,eG rfl,ia n1,Bool.and_false,Bool.xor_false]
    ·have:(k∈a::l)↔k∈l:=⟨fun z=>(List.mem_cons.mp z).resolve_left fun z=>e z.symm,vz _⟩
     rw[ia e,Bool.and_false,Bool.false_xor,decide_eq_decide.mpr this]
   rw[this,ki,jg f (h a List.mem_cons_self),ih];rfl
end
variable {N:Net}{S:Nat->Bool}
theorem z9{F:Nat->Bool}{n:Nat}{row:List Nat}(hp:row.Perm (List.range n)):bK F n=row.foldr (fun k acc=>F k^^acc) false:=by
 rw[<-w6 F n (hp.nodup_iff.mpr List.nodup_range) fun k hk=>List.mem_range.mp (hp.mem_iff.mp hk)]
 exact bS fun k hk=>by rw[eG (hp.mem_iff.mpr (List.mem_range.mpr hk)),Bool.and_true]
theorem Gk{F:Nat->Bool}{f:Nat->Nat}{n:Nat}(hp:((List.range n).map f).Perm (List.range n)):bK (fun i=>F (f i)) n=bK F n:=by
 have e1:bK F n=_:=z9 hp;have e2:bK (fun i=>F (f i)) n=_:=z9 (List.Perm.refl _)
 rw[e1,e2,List.foldr_map]
structure AU(N N' : Net)(f g:Nat->Nat):Prop where
 n:N'.n=N.n
 p:N'.p=N.p
 fl:∀ i,i<N.n->f i<N.n
 gl:∀ i,i<N.n->g i<N.n
 fg:∀ i,i<N.n->f (g i)=i
 gf:∀ i,i<N.n->g (f i)=i
 inc:∀ i x,i<N.n->N'.inc i x=N.inc (f i) x
section
variable {N N' : Net}{f g:Nat->Nat}
theorem AU.symm(h:AU N N' f g):AU N' N g f:=⟨h.n.symm,h.p.symm,by rw[h.n];exact h.gl,by rw[h.n];exact h.fl,by rw[h.n];exact h.gf,by rw[h.n];exact h.fg,fun i x hi=>by
 rw[h.n]at hi;rw[h.inc (g i) x (h.gl i hi),h.fg i hi]⟩
theorem AU.perm(h:AU N N' f g):((List.range N.n).map f).Perm (List.range N.n):=by
 refine(List.perm_ext_iff_of_nodup ?_ List.nodup_range).mpr fun k=>?_
 ·refine List.pairwise_map.mpr (List.Pairwise.imp_of_mem (fun {i j} hi hj hne e=>?_) List.nodup_range)
  have:=congrArg g e;rw[h.gf i (List.mem_range.mp hi),h.gf j (List.mem_range.mp hj)]at this;exact hne this
 ·rw[List.mem_map,List.mem_range]
  constructor
  ·rintro⟨i,hi,rfl⟩;exact h.fl i (List.mem_range.mp hi)
  ·exact fun hk=>⟨g k,List.mem_range.mpr (h.gl k hk),h.fg k hk⟩
def jl(n:Nat)(f:Nat->Nat)(m:Nat):Nat:=maskOf (fun i=>m.testBit (f i)) n
theorem jm(n:Nat)(f:Nat->Nat)(m i:Nat):(jl n f m).testBit i=(decide (i<n)&&m.testBit (f i)):=mask_bit _ _ _
theorem IL(n:Nat)(f:Nat->Nat)(m:Nat):jl n f m<2^n:=mask_lt _ _
theorem Gm(n:Nat)(f:Nat->Nat)(a b:Nat):jl n f (a^^^b)=jl n f a^^^jl n f b:=Nat.eq_of_testBit_eq fun i=>by
 rw[Nat.testBit_xor,jm,jm,jm,Nat.testBit_xor];cases decide (i<n)<;>simp
theorem rK(n:Nat)(f:Nat->Nat):jl n f 0=0:=Nat.eq_of_testBit_eq fun i=>by
 rw[jm,Nat.zero_testBit,Bool.and_false,Nat.zero_testBit]
theorem AU.back(h:AU N N' f g){m:Nat}(hm:m<2^N.n):jl N.n g (jl N.n f m)=m:=Nat.eq_of_testBit_eq fun k=>by
 rw[jm,jm]
 by_cases hk:k<N.n
 ·rw[eG hk,eG (h.gl k hk),h.fg k hk];rfl
 ·rw[ia hk,Bool.false_and];cases hb:m.testBit k with
  | false=>rfl
  | true=>exact absurd (cD hm hb) hk
theorem AU.jk(h:AU N N' f g){m:Nat}(ev:N.fS m):N'.fS (jl N.n f m):=fun x hx=>by
 rw[h.p]at hx;rw[<-ev x hx];unfold Net.bd;rw[h.n,<-Gk (F:=fun k=>m.testBit k&&N.inc k x) h.perm]
 exact bS fun i hi=>by rw[jm,eG hi,Bool.true_and,h.inc i x hi]
theorem w9(n:Nat)(f:Nat->Nat):∀(B:List Nat) (z:Nat),comb (B.map (jl n f)) z=jl n f (comb B z)
 | [],_=>(rK n f).symm
 | b::B,z=>by
   show(if z.testBit 0=true then jl n f b else 0)^^^comb (B.map (jl n f)) (z/2)=jl n f ((if z.testBit 0=true then b else 0)^^^comb B (z/2))
   rw[Gm,w9 n f B]
   split
   ·rfl
   ·rw[rK]
theorem AU.ind(h:AU N N' f g){B:List Nat}(hl:∀ b∈B,b<2^N.n)(hi:MV B):MV (B.map (jl N.n f)):=fun z hz e=>by
 rw[List.length_map]at hz;rw[w9]at e;refine hi z hz ?_;have:=h.back (m:=comb B z) ((CF B z).lt hl);rw[e,rK]at this;exact this.symm
end
structure Ext(N N' : Net):Prop where
 n:N'.n=N.n+1
 p:N'.p=N.p
 a:∀ k,k<N.n->N'.a k=N.a k
 b:∀ k,k<N.n->N'.b k=N.b k
section
variable {N N' : Net}
theorem Ext.cG(h:Ext N N'):∀ k,k<=N.n->N'.cG k=N.cG k
 | 0,_=>rfl
 | k+1,hk=>by
   have ih:=h.cG k (by lia)
   have e:N'.gz k=N.gz k:=by unfold Net.gz;rw[ih,h.a k (by lia),h.b k (by lia)]
   rw[mW,mW,e,ih,h.a k (by lia),h.b k (by lia)]
theorem Ext.gz(h:Ext N N'){k:Nat}(hk:k<N.n):N'.gz k=N.gz k:=by unfold Net.gz;rw[h.cG k (by lia),h.a k hk,h.b k hk]
theorem Ext.ak(h:Ext N N'):N'.ak.length=N.ak.length+if N'.gz N.n=true then 0 else 1:=by
 rw[pg,pg,h.n];show cnt _ N.n+_=_;rw[ko fun k hk=>by rw[h.gz hk]]
 by_cases hF:N'.gz N.n=true
 ·rw[if_neg (by show ¬(!N'.gz N.n)=true;rw[hF];decide),if_pos hF]
 ·rw[if_pos (by simpa using hF),if_neg hF]
end
end RM
namespace Dt
def su:Nat->(Nat->Int)->Int
 | 0,_=>0
 | n+1,f=>su n f+f n
theorem aC:∀{n:Nat} {f g:Nat->Int},(∀ i,i<n->f i=g i)->su n f=su n g
 | 0,_,_,_=>rfl
 | n+1,f,g,h=>by
   show su n f+f n=su n g+g n;rw[aC (n:=n) (fun i hi=>h i (by lia)),h n (by lia)]
theorem fW(a b:Int)(f g:Nat->Int):∀ n,su n (fun i=>a*f i+b*g i)=a*su n f+b*su n g
 | 0=>by simp[su]
 | n+1=>by
   show su n (fun i=>a*f i+b*g i)+(a*f n+b*g n)=a*(su n f+f n)+b*(su n g+g n)
   rw[fW a b f g n]
   grind
theorem dG:∀{n:Nat} {f:Nat->Int},(∀ i,i<n->f i=0)->su n f=0
 | 0,_,_=>rfl
 | n+1,f,h=>by
   show su n f+f n=0;rw[dG (n:=n) (fun i hi=>h i (by lia)),h n (by lia)]
   rfl
theorem mY{n r:Nat}{f:Nat->Int}(hr:r<n)(h:∀ i,i<n->i≠r->f i=0):su n f=f r:=by
 induction n with
 | zero=>lia
 | succ n ih =>
   show su n f+f n=f r
   by_cases e:r=n
   ·subst e;rw[dG fun i hi=>h i (by lia) (by lia)]
    lia
   ·rw[ih (by lia) fun i hi hn=>h i (by lia) hn,h n (by lia) (Ne.symm e)]
    lia
theorem K7{n r:Nat}{f:Nat->Int}(hr:r+1<n)(h:∀ i,i<n->i≠r->i≠r+1->f i=0):su n f=f r+f (r+1):=by
 induction n with
 | zero=>lia
 | succ n ih =>
   show su n f+f n=f r+f (r+1)
   by_cases e:r+1=n
   ·subst e;rw[mY (r:=r) (by lia) fun i hi hn=>h i (by lia) hn (by lia)]
   ·rw[ih (by lia) fun i hi hn hm=>h i (by lia) hn hm,h n (by lia) (by lia) (Ne.symm e)]
    lia
abbrev Mx:=Nat->Nat->Int
def sg(i:Nat):Int:=if i%2=0 then 1 else -1
theorem yw(i:Nat):sg (i+1) = - sg i:=by
 unfold sg
 by_cases h:i%2=0
 ·rw[if_pos h,if_neg (by lia)]
 ·rw[if_neg h,if_pos (by lia)];rfl
def sk(i r:Nat):Nat:=if r<i then r else r+1
def mn(M:Mx)(i:Nat):Mx:=fun r c=>M (sk i r) (c+1)
def det:Nat->Mx->Int
 | 0,_=>1
 | n+1,M=>su (n+1) fun i=>sg i*M i 0*det n (mn M i)
theorem aB:∀{n:Nat} {M M' : Mx},(∀ r c,r<n->c<n->M r c=M' r c)->det n M=det n M'
 | 0,_,_,_=>rfl
 | n+1,M,M',h=>by
   refine aC fun i hi=>?_
   rw[h i 0 hi (by lia),aB (n:=n) (M:=mn M i) (M':=mn M' i) fun r c hr hc=>?_]
   unfold mn sk
   split<;>exact h _ _ (by lia) (by lia)
theorem eJ:∀{n:Nat} {M A B:Mx} {r:Nat} (a b:Int),r<n->(∀ i c,i≠r->M i c=A i c)->(∀ i c,i≠r->M i c=B i c)->(∀ c,M r c=a*A r c+b*B r c)->det n M=a*det n A+b*det n B
 | 0,_,_,_,_,_,_,h,_,_,_=>by lia
 | n+1,M,A,B,r,a,b,hr,hA,hB,h=>by
   show su (n+1) _=a*su (n+1) _+b*su (n+1) _;rw[<-fW];refine aC fun i hi=>?_
   by_cases e:i=r
   ·subst e;have e1:det n (mn M i)=det n (mn A i):=aB fun x c _ _=>hA _ _ (by unfold sk;split<;>lia)
    have e2:det n (mn M i)=det n (mn B i):=aB fun x c _ _=>hB _ _ (by unfold sk;split<;>lia)
    rw[h 0,<-e1,<-e2]
    grind
   ·have e3:det n (mn M i)=a*det n (mn A i)+b*det n (mn B i):=by
     refine eJ (r:=if r<i then r else r-1) a b (by split<;>lia) (fun x c hx=>?_) (fun x c hx=>?_) (fun c=>?_)
     ·refine hA _ _ ?_;unfold sk
      split at hx<;>split<;>lia
     ·refine hB _ _ ?_;unfold sk
      split at hx<;>split<;>lia
     ·have z:sk i (if r<i then r else r-1)=r:=by
       unfold sk
       split<;>(try split)<;>lia
      show M (sk i _) _=a*A (sk i _) _+b*B (sk i _) _;rw[z];exact h _
    rw[e3,hA i 0 e];have e4:A i 0=B i 0:=by rw[<-hA i 0 e,hB i 0 e]
    rw[<-e4]
    grind
theorem yy:∀{n:Nat} {M:Mx} {r:Nat},r+1<n->(∀ c,M r c=M (r+1) c)->det n M=0
 | 0,_,_,h,_=>by lia
 | n+1,M,r,hr,h=>by
   show su (n+1) _=0;rw[K7 (r:=r) hr fun i hi h1 h2=>?_]
   ·have e:det n (mn M r)=det n (mn M (r+1)):=aB fun x c _ _=>by
     show M (sk r x) _=M (sk (r+1) x) _;unfold sk
     by_cases e1:x<r
     ·rw[if_pos e1,if_pos (by lia)]
     ·rw[if_neg e1]
      by_cases e2:x=r
      ·subst e2;rw[if_pos (by lia)]
       exact(h _).symm
      ·rw[if_neg (by lia)]
    rw[yw,e,h 0]
    grind
   ·have z:det n (mn M i)=0:=by
     refine yy (r:=if r<i then r else r-1) (by split<;>lia) fun c=>?_
     show M (sk i _) _=M (sk i _) _;have z1:sk i (if r<i then r else r-1)=r:=by unfold sk;split<;>(try split)<;>lia
     have z2:sk i ((if r<i then r else r-1)+1)=r+1:=by unfold sk;split<;>(try split)<;>lia
     rw[z1,z2];exact h _
    rw[z]
    grind
def put(M:Mx)(r:Nat)(v:Nat->Int):Mx:=fun i c=>if i=r then v c else M i c
theorem aG(M:Mx)(r:Nat)(v:Nat->Int)(c:Nat):put M r v r c=v c:=if_pos rfl
theorem aO(M:Mx){r i:Nat}(v:Nat->Int)(c:Nat)(h:i≠r):put M r v i c=M i c:=if_neg h
def sw(M:Mx)(r s:Nat):Mx:=put (put M r (M s)) s (M r)
theorem IM{n:Nat}{M:Mx}{r:Nat}(hr:r+1<n):det n (sw M r (r+1)) = - det n M:=by
 have S:∀ u v:Nat->Int,∀ w,(det n (put (put M r (fun c=>u c+v c)) (r+1) w))=det n (put (put M r u) (r+1) w)+det n (put (put M r v) (r+1) w):=fun u v w=>by
  have:=eJ (n:=n) (M:=put (put M r (fun c=>u c+v c)) (r+1) w) (A:=put (put M r u) (r+1) w) (B:=put (put M r v) (r+1) w) (r:=r) 1 1 (by lia) (fun i c h=>by unfold put;split<;>simp[h]) (fun i c h=>by unfold put;split<;>simp[h]) (fun c=>by simp[put])
  lia
 have S2:∀ u v:Nat->Int,∀ w,(det n (put (put M r w) (r+1) (fun c=>u c+v c)))=det n (put (put M r w) (r+1) u)+det n (put (put M r w) (r+1) v):=fun u v w=>by
  have:=eJ (n:=n) (M:=put (put M r w) (r+1) (fun c=>u c+v c)) (A:=put (put M r w) (r+1) u) (B:=put (put M r w) (r+1) v) (r:=r+1) 1 1 (by lia) (fun i c h=>by simp[put,h]) (fun i c h=>by simp[put,h]) (fun c=>by simp[put])
  lia
 have Z:∀ u:Nat->Int,det n (put (put M r u) (r+1) u)=0:=fun u=>yy hr fun c=>by simp[put]
 have h0:=Z (fun c=>M r c+M (r+1) c)
 rw[S,S2,S2,Z (M r),Z (M (r+1))]at h0;have e:det n (put (put M r (M r)) (r+1) (M (r+1)))=det n M:=aB fun i c _ _=>by
  unfold put
  by_cases h1:i=r+1
  ·rw[if_pos h1,h1]
  ·rw[if_neg h1]
   by_cases h2:i=r
   ·rw[if_pos h2,h2]
   ·rw[if_neg h2]
 unfold sw
 lia
theorem rL{n:Nat}:∀(d:Nat) {M:Mx} {r:Nat},r+d+1<n->(∀ c,M r c=M (r+d+1) c)->det n M=0
 | 0,M,r,hr,h=>yy hr h
 | d+1,M,r,hr,h=>by
   have e:=IM (n:=n) (M:=M) (r:=r) (by lia)
   have z:det n (sw M r (r+1))=0:=by
    refine rL d (r:=r+1) (by lia) fun c=>?_
    have e1:sw M r (r+1) (r+1) c=M r c:=aG _ _ _ _;have e2:sw M r (r+1) (r+1+d+1) c=M (r+1+d+1) c:=by
     unfold sw;rw[aO _ _ _ (by lia),aO _ _ _ (by lia)]
    rw[e1,e2,h c]
    congr 1
    lia
   lia
theorem gG{n:Nat}{M:Mx}{r s:Nat}(hr:r<n)(hs:s<n)(hn:r≠s)(h:∀ c,M r c=M s c):det n M=0:=by
 by_cases e:r<s
 ·refine rL (s-r-1) (r:=r) (by lia) fun c=>?_
  have z:r+(s-r-1)+1=s:=by lia
  rw[z];exact h c
 ·refine rL (r-s-1) (r:=s) (by lia) fun c=>?_
  have z:s+(r-s-1)+1=r:=by lia
  rw[z];exact(h c).symm
theorem tH{n:Nat}{M:Mx}{r s:Nat}(a b:Int)(hr:r<n)(hs:s<n)(hn:r≠s):det n (put M r fun c=>a*M r c+b*M s c)=a*det n M:=by
 have h:=eJ (n:=n) (M:=put M r fun c=>a*M r c+b*M s c) (A:=M) (B:=put M r (M s)) (r:=r) a b hr (fun i c h=>aO _ _ _ h) (fun i c h=>by rw[aO _ _ _ h,aO _ _ _ h]) (fun c=>by rw[aG,aG])
 have z:det n (put M r (M s))=0:=gG hr hs hn fun c=>by rw[aG,aO _ _ _ (Ne.symm hn)]
 rw[h,z]
 lia
theorem Gn{n:Nat}{M:Mx}{r s:Nat}(hr:r<n)(hs:s<n)(hn:r≠s):det n (sw M r s) = - det n M:=by
 have A1:∀ u v w:Nat->Int,det n (put (put M r fun c=>u c+v c) s w)=det n (put (put M r u) s w)+det n (put (put M r v) s w):=fun u v w=>by
  have:=eJ (n:=n) (M:=put (put M r fun c=>u c+v c) s w) (A:=put (put M r u) s w) (B:=put (put M r v) s w) (r:=r) 1 1 hr (fun i c h=>by unfold put;split<;>simp[h]) (fun i c h=>by unfold put;split<;>simp[h]) (fun c=>by simp[put,hn])
  lia
 have A2:∀ u v w:Nat->Int,det n (put (put M r w) s fun c=>u c+v c)=det n (put (put M r w) s u)+det n (put (put M r w) s v):=fun u v w=>by
  have:=eJ (n:=n) (M:=put (put M r w) s fun c=>u c+v c) (A:=put (put M r w) s u) (B:=put (put M r w) s v) (r:=s) 1 1 hs (fun i c h=>by simp[put,h]) (fun i c h=>by simp[put,h]) (fun c=>by simp[put])
  lia
 have Z:∀ u:Nat->Int,det n (put (put M r u) s u)=0:=fun u=>gG hr hs hn fun c=>by simp[put]
 have h0:=Z (fun c=>M r c+M s c)
 rw[A1,A2,A2,Z (M r),Z (M s)]at h0;have e:det n (put (put M r (M r)) s (M s))=det n M:=aB fun i c _ _=>by
  unfold put
  by_cases h1:i=s
  ·rw[if_pos h1,h1]
  ·rw[if_neg h1]
   by_cases h2:i=r
   ·rw[if_pos h2,h2]
   ·rw[if_neg h2]
 unfold sw
 lia
def pr:Nat->Mx->Int
 | 0,_=>1
 | n+1,M=>M 0 0*pr n fun r c=>M (r+1) (c+1)
theorem CG:∀{n:Nat} {M:Mx},(∀ r c,r<n->c<r->M r c=0)->det n M=pr n M
 | 0,_,_=>rfl
 | n+1,M,h=>by
   show su (n+1) _=M 0 0*pr n _;rw[mY (r:=0) (by lia) fun i hi hn=>by rw[h i 0 hi (by lia)];simp]
   have e:mn M 0=fun r c=>M (r+1) (c+1):=rfl
   rw[e,CG (n:=n) fun r c hr hc=>h (r+1) (c+1) (by lia) (by lia)]
   show(1:Int)*_*_=_;rw[Int.one_mul]
theorem uy{n:Nat}{M:Mx}{r:Nat}(a:Int)(c:Nat->Int)(hr:r<n):∀ k,k<=r->det n (put M r fun j=>a*M r j+su k fun l=>c l*M l j)=a*det n M
 | 0,_=>by
   have h:=eJ (n:=n) (M:=put M r fun j=>a*M r j+su 0 fun l=>c l*M l j) (A:=M) (B:=M) (r:=r) a 0 hr (fun i c h=>aO _ _ _ h) (fun i c h=>aO _ _ _ h) (fun c=>by rw[aG];simp[su])
   rw[h]
   lia
 | k+1,hk=>by
   have h:=eJ (n:=n) (M:=put M r fun j=>a*M r j+su (k+1) fun l=>c l*M l j) (A:=put M r fun j=>a*M r j+su k fun l=>c l*M l j) (B:=put M r (M k)) (r:=r) 1 (c k) hr (fun i c h=>by rw[aO _ _ _ h,aO _ _ _ h]) (fun i c h=>by rw[aO _ _ _ h,aO _ _ _ h]) (fun j=>by
    rw[aG,aG,aG];show a*M r j+(su k (fun l=>c l*M l j)+c k*M k j)=1*(a*M r j+su k fun l=>c l*M l j)+c k*M k j
    lia)
   have z:det n (put M r (M k))=0:=gG (r:=r) (s:=k) hr (by lia) (by lia) fun c=>by rw[aG,aO _ _ _ (by lia)]
   rw[h,z,uy a c hr k (by lia)]
   lia
theorem Aa:∀{k:Nat} {M:Mx},(∀ c,c<k->M k c=0)->det (k+1) M=det k M*M k k
 | 0,M,_=>by
   show(0:Int)+sg 0*M 0 0*1=1*M 0 0;have:sg 0=1:=rfl;rw[this]
   lia
 | k+1,M,h=>by
   show su (k+1) (fun i=>sg i*M i 0*det (k+1) (mn M i))+sg (k+1)*M (k+1) 0*det (k+1) (mn M (k+1))=su (k+1) (fun i=>sg i*M i 0*det k (mn M i))*M (k+1) (k+1)
   rw[h 0 (by lia)]
   have e:su (k+1) (fun i=>sg i*M i 0*det (k+1) (mn M i))=su (k+1) (fun i=>M (k+1) (k+1)*(sg i*M i 0*det k (mn M i))+0*0):=aC fun i hi=>by
    have e1:∀ c,mn M i k c=M (k+1) (c+1):=fun c=>by
     show M (sk i k) _=_;unfold sk;rw[if_neg (by lia)]
    rw[Aa (k:=k) (M:=mn M i) fun c hc=>by rw[e1];exact h _ (by lia),e1]
    grind
   rw[e,fW (M (k+1) (k+1)) 0 _ (fun _=>0)]
   grind
def pt(A:Mx)(k i j:Nat):Mx:=fun r c=>A (if r<k then r else i) (if c<k then c else j)
def md(A:Mx)(k i j:Nat):Int:=det (k+1) (pt A k i j)
def lm(A:Mx)(k:Nat):Int:=det k A
theorem CH(A:Mx)(k:Nat):md A k k k=lm A (k+1):=aB fun r c hr hc=>by
 unfold pt;have e1:(if r<k then r else k)=r:=by split<;>lia
 have e2:(if c<k then c else k)=c:=by split<;>lia
 rw[e1,e2]
theorem CI{A:Mx}{k i:Nat}{v c:Nat->Int}{q a:Int}(hq:∀ j,q*v j=a*A i j+su k fun l=>c l*A l j)(hz:∀ j,j<k->v j=0)(j:Nat):lm A k*(q*v j)=a*md A k i j:=by
 have h:=uy (n:=k+1) (M:=pt A k i j) (r:=k) a c (by lia) k (Nat.le_refl _)
 unfold md;rw[<-h];have e:∀ x,put (pt A k i j) k (fun y=>a*pt A k i j k y+su k fun l=>c l*pt A k i j l y) k x=q*v (if x<k then x else j):=fun x=>by
  rw[aG,hq];have e1:pt A k i j k x=A i (if x<k then x else j):=by unfold pt;rw[if_neg (by lia)]
  rw[e1]
  congr 1
  exact aC fun l hl=>by unfold pt;rw[if_pos hl]
 rw[Aa (k:=k) fun x hx=>by rw[e,if_pos hx,hz x hx,Int.mul_zero],e,if_neg (by lia)]
 congr 1
 refine aB fun r x hr hx=>?_
 rw[aO _ _ _ (by lia)]
 unfold pt;rw[if_pos hr,if_pos hx]
def Red(A:Mx)(k i:Nat)(v:Nat->Int):Prop:=(∀ j,j<k->v j=0)/\∃(q:Int) (c:Nat->Int),q≠0/\∀ j,q*v j=(q*lm A k)*A i j+su k fun l=>c l*A l j
theorem Red.eq{A:Mx}{k i:Nat}{v:Nat->Int}(h:Red A k i v)(hp:lm A k≠0)(j:Nat):v j=md A k i j:=by
 obtain⟨hz,q,c,q0,hq⟩:=h;have e:=CI (a:=q*lm A k) hq hz j;have e2:(lm A k*q)*v j=(lm A k*q)*md A k i j:=by grind
 exact Int.eq_of_mul_eq_mul_left (Int.mul_ne_zero hp q0) e2
theorem Red.zero(A:Mx)(i:Nat):Red A 0 i (A i):=⟨fun j h=>by lia,1,fun _=>0,by decide,fun j=>by
 show 1*A i j=(1*1)*A i j+0
 lia⟩
theorem Red.step{A:Mx}{k i:Nat}{v w:Nat->Int}(hv:Red A k i v)(hw:Red A k k w)(hp:lm A k≠0)(hl:w k≠0):
 (∀ j,w k*v j-v k*w j=lm A k*md A (k+1) i j)/\Red A (k+1) i (fun j=>(w k*v j-v k*w j)/lm A k):=by
 have ew:w k=lm A (k+1):=by rw[hw.eq hp,CH]
 obtain⟨zv,q,c,q0,hq⟩:=hv;obtain⟨zw,q',c',Xa,Y4⟩:=hw;have hx:∀ j,(q*q')*(w k*v j-v k*w j)=((q*q')*(w k*lm A k))*A i j+su (k+1) fun l=>(if l=k then-(v k*q*q'*lm A k) else w k*q'*c l-v k*q*c' l)*A l j:=fun j=>by
  have h1:=hq j;have h2:=Y4 j;have e:su (k+1) (fun l=>(if l=k then-(v k*q*q'*lm A k) else w k*q'*c l-v k*q*c' l)*A l j)=((w k*q')*su k (fun l=>c l*A l j)+(- (v k*q))*su k (fun l=>c' l*A l j))+(- (v k*q*q'*lm A k))*A k j:=by
   rw[<-fW];show su k _+(if k=k then-(v k*q*q'*lm A k) else w k*q'*c k-v k*q*c' k)*A k j=_
   rw[if_pos rfl]
   congr 1
   exact aC fun l hl=>by rw[if_neg (by lia)];grind
  rw[e];have h3:(q*q')*(w k*v j-v k*w j)=(w k*q')*(q*v j)-(v k*q)*(q'*w j):=by grind
  rw[h3,h1,h2]
  grind
 have zx:∀ j,j<k+1->w k*v j-v k*w j=0:=fun j hj=>by
  by_cases e:j=k
  ·subst e;grind
  ·rw[zv j (by lia),zw j (by lia)];lia
 have h1:∀ j,w k*v j-v k*w j=lm A k*md A (k+1) i j:=fun j=>by
  have e:=CI (a:=(q*q')*(w k*lm A k)) hx zx j;rw[<-ew]at e;have e2:(w k*(q*q'))*(w k*v j-v k*w j)=(w k*(q*q'))*(lm A k*md A (k+1) i j):=by grind
  exact Int.eq_of_mul_eq_mul_left (Int.mul_ne_zero hl (Int.mul_ne_zero q0 Xa)) e2
 refine⟨h1,fun j hj=>?_,?_⟩
 ·show(w k*v j-v k*w j)/lm A k=0;rw[zx j hj];exact Int.zero_ediv _
 ·have hd:∀ j,lm A k*((w k*v j-v k*w j)/lm A k)=w k*v j-v k*w j:=fun j=>by
   rw[h1 j,Int.mul_ediv_cancel_left _ hp]
  refine⟨(q*q')*lm A k,fun l=>if l=k then-(v k*q*q'*lm A k) else w k*q'*c l-v k*q*c' l,Int.mul_ne_zero (Int.mul_ne_zero q0 Xa) hp,fun j=>?_⟩
  rw[<-ew];have e:=hx j;rw[<-hd j]at e;have e3:(q*q')*lm A k*((w k*v j-v k*w j)/lm A k)=(q*q')*(lm A k*((w k*v j-v k*w j)/lm A k)):=by grind
  show(q*q')*lm A k*((w k*v j-v k*w j)/lm A k)=_;rw[e3,e]
  congr 1
  grind
theorem Ab:∀{k n:Nat} {M:Mx},k<n->(∀ i c,k<=i->i<n->c<=k->M i c=0)->det n M=0
 | 0,n+1,M,_,h=>dG fun i hi=>by rw[h i 0 (by lia) hi (by lia)];simp
 | k+1,n+1,M,hk,h=>dG fun i hi=>by
   by_cases e:k+1<=i
   ·rw[h i 0 e hi (by lia)];simp
   ·rw[Ab (k:=k) (n:=n) (M:=mn M i) (by lia) fun r c h1 h2 h3=>by
     show M (sk i r) (c+1)=0;unfold sk;rw[if_neg (by lia)]
     exact h _ _ (by lia) (by lia) (by lia)]
    simp
theorem Ac{A A' : Mx}{k:Nat}(h:∀ l,l<k->A' l=A l):lm A' k=lm A k:=aB fun r c hr _=>by rw[h r hr]
theorem Red.congr{A A' : Mx}{k i i' : Nat}{v:Nat->Int}(h:∀ l,l<k->A' l=A l)(e:A' i' = A i)(r:Red A k i v):Red A' k i' v:=by
 obtain⟨z,q,c,q0,hq⟩:=r;refine⟨z,q,c,q0,fun j=>?_⟩
 rw[hq j,Ac h,e]
 congr 1
 exact aC fun l hl=>by rw[h l hl]
theorem Ad{n k:Nat}{A:Mx}{v:Mx}(hv:∀ i,k<=i->i<n->Red A k i (v i))(hp:lm A k≠0):∀ m,k<=m->m<=n->∃ B:Mx,∃ z:Int,z≠0/\det n B=z*det n A/\(∀ l,l<k->B l=A l)/\(∀ l,m<=l->B l=A l)/\∀ i,k<=i->i<m->∃ q:Int,∀ j,B i j=q*v i j
 | 0,h,_=>⟨A,1,by decide,by lia,fun _ _=>rfl,fun _ _=>rfl,fun i h1 h2=>by lia⟩
 | m+1,h,hm=>by
   by_cases e:m+1=k
   ·exact⟨A,1,by decide,by lia,fun _ _=>rfl,fun _ _=>rfl,fun i h1 h2=>by lia⟩
   ·obtain⟨B,z,z0,hd,hB,hr,hi⟩:=Ad hv hp m (by lia) (by lia)
    obtain⟨_,q,c,q0,hq⟩:=hv m (by lia) (by lia)
    refine⟨put B m fun j=>(q*lm A k)*B m j+su k fun l=>c l*B l j,(q*lm A k)*z,Int.mul_ne_zero (Int.mul_ne_zero q0 hp) z0,?_,fun l hl=>?_,fun l hl=>?_,fun i h1 h2=>?_⟩
    ·rw[uy (n:=n) (M:=B) (r:=m) (q*lm A k) c (by lia) k (by lia),hd];grind
    ·funext j
     rw[aO _ _ _ (by lia),hB l hl]
    ·funext j
     rw[aO _ _ _ (by lia),hr l (by lia)]
    ·by_cases e2:i=m
     ·subst e2;refine⟨q,fun j=>?_⟩
      rw[aG,hq j,hr i (Nat.le_refl _)]
      congr 1
      exact aC fun l hl=>by rw[hB l hl]
     ·obtain⟨q2,h⟩:=hi i h1 (by lia)
      exact⟨q2,fun j=>by rw[aO _ _ _ e2];exact h j⟩
def Bs(n:Nat)(A:Mx)(k:Nat)(sgn d:Int)(R:Mx):Prop:=k<=n/\(sgn=1\/sgn = -1)/\d≠0/\∃ A' : Mx,det n A' = sgn*det n A/\(∀ r,∃ r',A' r=A r')/\lm A' k=d/\∀ i,k<=i->i<n->Red A' k i (R i)
theorem Bs.zero(n:Nat)(A:Mx):Bs n A 0 1 1 A:=⟨Nat.zero_le _,.inl rfl,by decide,A,by lia,fun r=>⟨r,rfl⟩,rfl,fun i _ _=>Red.zero A i⟩
theorem Bs.none{n k:Nat}{A R:Mx}{sgn d:Int}(h:Bs n A k sgn d R)(hk:k<n)(hz:∀ i,k<=i->i<n->R i k=0):det n A=0:=by
 obtain⟨_,hs,d0,A',hd,_,hl,hr⟩:=h;have hp:lm A' k≠0:=by rw[hl];exact d0
 obtain⟨B,z,z0,hB,_,_,hi⟩:=Ad hr hp n (by lia) (Nat.le_refl _)
 have e:det n B=0:=Ab (k:=k) hk fun i c h1 h2 h3=>by
  obtain⟨q,hq⟩:=hi i h1 h2;rw[hq c]
  by_cases e:c=k
  ·rw[e,hz i h1 h2,Int.mul_zero]
  ·rw[(hr i h1 h2).1 c (by lia),Int.mul_zero]
 rw[e]at hB;have e2:det n A' = 0:=by
  rcases Int.mul_eq_zero.mp hB.symm with h|h
  ·exact absurd h z0
  ·exact h
 rw[e2]at hd;rcases hs with rfl|rfl<;>lia
theorem Bs.sw{n k s:Nat}{A R:Mx}{sgn d:Int}(h:Bs n A k sgn d R)(hk:k<s)(hs:s<n):Bs n A k (-sgn) d (sw R k s):=by
 obtain⟨h1,hg,d0,A',hd,hrw,hl,hr⟩:=h;have low:∀ l,l<k->Dt.sw A' k s l=A' l:=fun l hl=>by
  funext j
  unfold Dt.sw;rw[aO _ _ _ (by lia),aO _ _ _ (by lia)]
 have rows:∀(M:Mx) i,Dt.sw M k s i=if i=s then M k else if i=k then M s else M i:=fun M i=>by
  funext j
  unfold Dt.sw put
  by_cases e1:i=s
  ·rw[if_pos e1,if_pos e1]
  ·rw[if_neg e1,if_neg e1]
   by_cases e2:i=k
   ·rw[if_pos e2,if_pos e2]
   ·rw[if_neg e2,if_neg e2]
 refine⟨h1,by rcases hg with rfl | rfl<;>simp,d0,Dt.sw A' k s,by rw[Gn (by lia) hs (by lia),hd];grind,fun r=>by
  rw[rows]
  split
  ·exact hrw k
  ·split
   ·exact hrw s
   ·exact hrw r,by rw[Ac low,hl],fun i h2 h3=>?_⟩
 rw[rows R i]
 by_cases e1:i=s
 ·rw[if_pos e1];exact Red.congr low (by rw[rows,if_pos e1]) (hr k (Nat.le_refl _) (by lia))
 ·rw[if_neg e1]
  by_cases e2:i=k
  ·rw[if_pos e2];exact Red.congr low (by rw[rows,if_neg e1,if_pos e2]) (hr s (by lia) hs)
  ·rw[if_neg e2];exact Red.congr low (by rw[rows,if_neg e1,if_neg e2]) (hr i h2 h3)
theorem Bs.out{n k i:Nat}{A R:Mx}{sgn d:Int}(h:Bs n A k sgn d R)(h0:R k k≠0)(hk:k<i)(hi:i<n)(j:Nat):∃ y,R k k*R i j-R i k*R k j=d*y:=by
 obtain⟨_,_,d0,A',_,_,hl,hr⟩:=h;have h2:=(Red.step (hr i (by lia) hi) (hr k (Nat.le_refl _) (by lia)) (by rw[hl];exact d0) h0).1 j
 rw[hl]at h2;exact⟨_,h2⟩
theorem Bs.step{n k:Nat}{A R R' : Mx}{sgn d:Int}(h:Bs n A k sgn d R)(hk:k<n)(h0:R k k≠0)(hR:∀ i j,k<i->i<n->d*R' i j=R k k*R i j-R i k*R k j):Bs n A (k+1) sgn (R k k) R':=by
 obtain⟨_,hg,d0,A',hd,hrw,hl,hr⟩:=h;have hp:lm A' k≠0:=by rw[hl];exact d0
 have hkk:=hr k (Nat.le_refl _) hk;refine⟨hk,hg,h0,A',hd,hrw,by rw[hkk.eq hp,CH],fun i h1 h2=>?_⟩
 have e:=(Red.step (hr i (by lia) h2) hkk hp h0).2
 have e2:R' i=fun j=>(R k k*R i j-R i k*R k j)/lm A' k:=by
  funext j
  rw[<-hR i j (by lia) h2,hl,Int.mul_ediv_cancel_left _ d0]
 rw[e2];exact e
theorem Bs.done{n:Nat}{A R:Mx}{sgn d:Int}(h:Bs n A n sgn d R):sgn*d=det n A:=by
 obtain⟨_,hg,_,A',hd,_,hl,_⟩:=h;have e:d=sgn*det n A:=by rw[<-hl];exact hd
 rw[e];rcases hg with rfl|rfl<;>lia
theorem BB{E:Nat}:∀{n:Nat} {f:Nat->Int},(∀ i,i<n->(f i).natAbs<=E)->(su n f).natAbs<=n*E
 | 0,_,_=>Nat.zero_le _
 | n+1,f,h=>by
   show(su n f+f n).natAbs<=(n+1)*E;have h1:=BB (n:=n) fun i hi=>h i (by lia)
   have h2:=h n (by lia)
   have h3:=Int.natAbs_add_le (su n f) (f n);rw[Nat.add_mul,Nat.one_mul]
   lia
def fc:Nat->Nat->Nat
 | _,0=>1
 | E,n+1=>(n+1)*(E*fc E n)
theorem qt{E:Nat}(h:1<=E):∀{m n:Nat},m<=n->fc E m<=fc E n
 | m,0,e=>by rw[show m=0 by lia];exact Nat.le_refl _
 | m,n+1,e=>by
   by_cases z:m=n+1
   ·rw[z];exact Nat.le_refl _
   ·refine Nat.le_trans (qt h (n:=n) (by lia)) ?_
    show fc E n<=(n+1)*(E*fc E n);refine Nat.le_trans (Nat.le_mul_of_pos_left _ h) (Nat.le_mul_of_pos_left _ (by lia))
theorem qu{E:Nat}:∀{n:Nat} {M:Mx},(∀ r c,(M r c).natAbs<=E)->(det n M).natAbs<=fc E n
 | 0,_,_=>Nat.le_refl _
 | n+1,M,h=>BB fun i _=>by
   have h1:=qu (n:=n) (M:=mn M i) fun r c=>h _ _
   have h2:=h i 0;have h3:(sg i*M i 0).natAbs=(M i 0).natAbs:=by
    unfold sg
    split
    ·rw[Int.one_mul]
    ·rw[Int.neg_mul,Int.one_mul,Int.natAbs_neg]
   rw[Int.natAbs_mul,h3];exact Nat.mul_le_mul h2 h1
theorem Bs.bnd{n k E:Nat}{A R:Mx}{sgn d:Int}(h:Bs n A k sgn d R)(hE:1<=E)(hA:∀ r c,(A r c).natAbs<=E):d.natAbs<=fc E n/\∀ i j,k<=i->i<n->(R i j).natAbs<=fc E n:=by
 obtain⟨hk,_,d0,A',_,hrw,hl,hr⟩:=h;have Xb:∀ r c,(A' r c).natAbs<=E:=fun r c=>by
  obtain⟨r',e⟩:=hrw r;rw[e];exact hA r' c
 refine⟨by rw[<-hl];exact Nat.le_trans (qu Xb) (qt hE hk),fun i j h1 h2=>?_⟩
 rw[(hr i h1 h2).eq (by rw[hl];exact d0) j]
 exact Nat.le_trans (qu (n:=k+1) fun r c=>Xb _ _) (qt hE (by lia))
theorem yz{n:Nat}{M:Mx}{r:Nat}(hr:r<n)(a:Nat->Int)(E:Nat->Nat->Int):∀ m,det n (put M r fun c=>su m fun l=>a l*E l c)=su m fun l=>a l*det n (put M r (E l))
 | 0=>by
   have h:=eJ (n:=n) (M:=put M r fun c=>su 0 fun l=>a l*E l c) (A:=M) (B:=M) (r:=r) 0 0 hr (fun i c h=>aO _ _ _ h) (fun i c h=>aO _ _ _ h) (fun c=>by rw[aG];simp[su])
   rw[h];show 0*det n M+0*det n M=0
   lia
 | m+1=>by
   have h:=eJ (n:=n) (M:=put M r fun c=>su (m+1) fun l=>a l*E l c) (A:=put M r fun c=>su m fun l=>a l*E l c) (B:=put M r (E m)) (r:=r) 1 (a m) hr (fun i c h=>by rw[aO _ _ _ h,aO _ _ _ h]) (fun i c h=>by rw[aO _ _ _ h,aO _ _ _ h]) (fun c=>by
    rw[aG,aG,aG];show su m (fun l=>a l*E l c)+a m*E m c=1*su m (fun l=>a l*E l c)+a m*E m c
    lia)
   rw[h,yz hr a E m];show 1*su m _+a m*_=su m _+a m*_
   lia
def un(l c:Nat):Int:=if c=l then 1 else 0
def mul(n:Nat)(A B:Mx):Mx:=fun r c=>su n fun l=>A r l*B l c
theorem lX{n l:Nat}(hl:l<n)(f:Nat->Int):su n (fun c=>un l c*f c)=f l:=by
 rw[mY (r:=l) hl fun i _ hn=>by unfold un;rw[if_neg hn,Int.zero_mul]]
 unfold un;rw[if_pos rfl,Int.one_mul]
theorem lK{n c:Nat}(hc:c<n)(f:Nat->Int):su n (fun l=>f l*un l c)=f c:=by
 rw[mY (r:=c) hc fun i _ hn=>by unfold un;rw[if_neg (Ne.symm hn),Int.mul_zero]]
 unfold un;rw[if_pos rfl,Int.mul_one]
theorem Gp:∀ n,pr n un=1
 | 0=>rfl
 | n+1=>by
   show un 0 0*pr n (fun r c=>un (r+1) (c+1))=1
   have e:(fun r c=>un (r+1) (c+1))=un:=by
    funext r c
    unfold un
    by_cases h:c=r
    ·rw[if_pos h,if_pos (by lia)]
    ·rw[if_neg h,if_neg (by lia)]
   rw[e,Gp n];rfl
theorem iN(n:Nat):det n un=1:=by
 rw[CG fun r c _ hc=>by unfold un;rw[if_neg (by lia)],Gp]
def off(f:Nat->Nat):Nat->Nat
 | 0=>0
 | n+1=>off f n+if f n=n then 0 else 1
theorem Ae{f:Nat->Nat}:∀{n:Nat},off f n=0->∀ i,i<n->f i=i
 | 0,_,i,h=>by lia
 | n+1,h,i,hi=>by
   have h' : off f n+(if f n=n then 0 else 1)=0:=h
   by_cases e:f n=n
   ·by_cases e2:i=n
    ·rw[e2,e]
    ·exact Ae (n:=n) (by lia) i (by lia)
   ·rw[if_neg e]at h';lia
theorem K8{f g:Nat->Nat}{n k:Nat}(hk:k<n)(h1:f k≠k)(h2:g k=k)(h:∀ i,i<n->f i=i->g i=i):off g n<off f n:=by
 have le:∀ m,m<=n->off g m<=off f m:=fun m=>by
  induction m with
  | zero=>exact fun _=>Nat.le_refl _
  | succ m ih =>
    intro hm;show off g m+_<=off f m+_;have:=ih (by lia)
    by_cases e:f m=m
    ·rw[if_pos e,if_pos (h m (by lia) e)];lia
    ·rw[if_neg e];split<;>lia
 have lt:∀ m,m<=n->k<m->off g m<off f m:=fun m=>by
  induction m with
  | zero=>lia
  | succ m ih =>
    intro hm hkm;show off g m+_<off f m+_
    by_cases e:k=m
    ·subst e;rw[if_pos h2,if_neg h1];have:=le k (by lia)
     lia
    ·have:=ih (by lia) (by lia)
     by_cases e3:f m=m
     ·rw[if_pos e3,if_pos (h m (by lia) e3)];lia
     ·rw[if_neg e3];split<;>lia
 exact lt n (Nat.le_refl _) hk
theorem kA{n:Nat}(B:Mx):∀(d:Nat) (f:Nat->Nat),off f n<=d->(∀ i,i<n->f i<n)->det n (fun r c=>B (f r) c)=det n (fun r c=>un (f r) c)*det n B
 | 0,f,h,hf=>by
   have e:=Ae (n:=n) (f:=f) (by lia)
   rw[aB (M':=B) fun r c hr _=>by rw[e r hr],aB (M:=fun r c=>un (f r) c) (M':=un) fun r c hr _=>by rw[e r hr],iN]
   lia
 | d+1,f,h,hf=>by
   by_cases e0:off f n=0
   ·exact kA B 0 f (by lia) hf |>.trans rfl
   by_cases inj:∃ i j,i<n/\j<n/\i≠j/\f i=f j
   ·obtain⟨i,j,hi,hj,hn,e⟩:=inj;rw[gG (M:=fun r c=>B (f r) c) hi hj hn fun c=>by rw[e],gG (M:=fun r c=>un (f r) c) hi hj hn fun c=>by rw[e]]
    lia
   ·have ex:∃ k,k<n/\f k≠k:=Classical.byContradiction fun z=>e0 (by
     have al:∀ i,i<n->f i=i:=fun i hi=>Classical.byContradiction fun y=>z ⟨i,hi,y⟩
     have go:∀ m,m<=n->off f m=0:=fun m=>by
      induction m with
      | zero=>exact fun _=>rfl
      | succ m ih=>exact fun hm=>by show off f m+_=0;rw[ih (by lia),if_pos (al m (by lia))]
     exact go n (Nat.le_refl _))
    obtain⟨k,hk,QS⟩:=ex;have hv:=hf k hk;have nf:f (f k)≠f k:=fun z=>inj ⟨f k,k,hv,hk,QS,z⟩
    let g:Nat->Nat:=fun i=>if i=f k then f k else if i=k then f (f k) else f i
    have gv:g (f k)=f k:=if_pos rfl;have dec:off g n<off f n:=K8 hv nf gv fun i hi e=>by
     show(if i=f k then f k else if i=k then f (f k) else f i)=i
     by_cases h1:i=f k
     ·rw[if_pos h1,h1]
     ·rw[if_neg h1]
      by_cases h2:i=k
      ·rw[h2]at e;exact absurd e QS
      ·rw[if_neg h2,e]
    have hg:∀ i,i<n->g i<n:=fun i hi=>by
     show(if i=f k then f k else if i=k then f (f k) else f i)<n
     split
     ·exact hv
     ·split
      ·exact hf _ hv
      ·exact hf i hi
    have ih:=kA B d g (by lia) hg
    have Xc:∀ X:Mx,det n (fun r c=>X (g r) c) = - det n (fun r c=>X (f r) c):=fun X=>by
     rw[<-Gn (M:=fun r c=>X (f r) c) hk hv (Ne.symm QS)]
     refine aB fun r c _ _=>?_
     show X (if r=f k then f k else if r=k then f (f k) else f r) c=_
     unfold sw put
     by_cases h1:r=f k
     ·rw[if_pos h1,if_pos h1]
     ·rw[if_neg h1,if_neg h1]
      by_cases h2:r=k
      ·rw[if_pos h2,if_pos h2]
      ·rw[if_neg h2,if_neg h2]
    rw[Xc B,Xc un]at ih
    grind
theorem Af{n:Nat}(B:Mx):∀(k:Nat) (A:Mx) (f:Nat->Nat),k<=n->(∀ i,i<n->f i<n)->(∀ i,k<=i->i<n->A i=un (f i))->det n (mul n A B)=det n A*det n B
 | 0,A,f,_,hf,hA=>by
   have e:=kA B (off f n) f (Nat.le_refl _) hf;rw[aB (M:=A) (M':=fun r c=>un (f r) c) fun r c hr _=>by rw[hA r (by lia) hr],<-e]
   refine aB fun r c hr _=>?_
   show su n (fun l=>A r l*B l c)=B (f r) c
   rw[hA r (by lia) hr]
   exact lX (hf r hr) fun l=>B l c
 | k+1,A,f,hk,hf,hA=>by
   have e1:det n A=su n fun l=>A k l*det n (put A k (un l)):=by
    rw[<-yz (n:=n) (M:=A) (r:=k) (by lia) (A k) un n]
    refine aB fun r c _ hc=>?_
    by_cases h:r=k
    ·subst h;rw[aG,lK hc]
    ·rw[aO _ _ _ h]
   have e2:det n (mul n A B)=su n fun l=>A k l*det n (put (mul n A B) k (B l)):=by
    rw[<-yz (n:=n) (M:=mul n A B) (r:=k) (by lia) (A k) B n]
    refine aB fun r c _ hc=>?_
    by_cases h:r=k
    ·subst h;rw[aG];rfl
    ·rw[aO _ _ _ h]
   have e3:su n (fun l=>A k l*det n (put (mul n A B) k (B l)))=su n (fun l=>det n B*(A k l*det n (put A k (un l)))+0*0):=aC fun l hl=>by
    have hkn:k<=n:=by lia
    have ih:=Af B k (put A k (un l)) (fun i=>if i=k then l else f i) hkn (fun i hi=>by show(if i=k then l else f i)<n;split;exact hl;exact hf i hi) (fun i h1 h2=>by
     funext c
     by_cases h:i=k
     ·subst h;rw[aG,if_pos rfl]
     ·rw[aO _ _ _ h,if_neg h,hA i (Nat.lt_of_le_of_ne h1 (Ne.symm h)) h2])
    have e4:det n (put (mul n A B) k (B l))=det n (mul n (put A k (un l)) B):=aB fun r c _ _=>by
     by_cases h:r=k
     ·subst h;rw[aG];show _=su n fun x=>put A r (un l) r x*B x c
      rw[show(fun x=>put A r (un l) r x*B x c)=fun x=>un l x*B x c from by funext x;rw[aG]]
      exact(lX hl fun x=>B x c).symm
     ·rw[aO _ _ _ h];show su n (fun x=>A r x*B x c)=su n fun x=>put A k (un l) r x*B x c
      exact aC fun x _=>by rw[aO _ _ _ h]
    rw[e4,ih]
    grind
   rw[e2,e3,fW (det n B) 0 _ (fun _=>0),e1]
   grind
theorem iO(n:Nat)(A B:Mx):det n (mul n A B)=det n A*det n B:=Af B n A id (Nat.le_refl _) (fun _ h=>h) (fun i h1 h2=>by lia)
theorem xg{n:Nat}{M:Mx}(s:Nat->Int)(hs:∀ i,i<n->s i=1\/s i = -1):∀ m,m<=n->(det n fun r c=>if r<m then s r*M r c else M r c).natAbs=(det n M).natAbs
 | 0,_=>by rw[aB (M':=M) fun r c _ _=>if_neg (by lia)]
 | m+1,hm=>by
   have ih:=xg (M:=M) s hs m (by lia)
   have e:=eJ (n:=n) (M:=fun r c=>if r<m+1 then s r*M r c else M r c) (A:=fun r c=>if r<m then s r*M r c else M r c) (B:=fun r c=>if r<m then s r*M r c else M r c) (r:=m) (s m) 0 (by lia) (fun i c h=>by
    by_cases h1:i<m
    ·rw[if_pos (by lia),if_pos h1]
    ·rw[if_neg (by lia),if_neg h1]) (fun i c h=>by
    by_cases h1:i<m
    ·rw[if_pos (by lia),if_pos h1]
    ·rw[if_neg (by lia),if_neg h1]) (fun c=>by rw[if_pos (by lia),if_neg (by lia)];lia)
   rw[e,<-ih];rcases hs m (by lia) with h|h<;>rw[h]
   ·congr 1;lia
   ·rw[show ∀ x:Int,-1*x+0*x = -x from fun x=>by lia,Int.natAbs_neg]
theorem iG(a:Int)(f:Nat->Int)(n:Nat):su n (fun i=>a*f i)=a*su n f:=by
 have h:=fW a 0 f (fun _=>0) n
 rw[aC (g:=fun i=>a*f i+0*0) fun i _=>by lia,h]
 lia
theorem lM(f:Nat->Nat->Int)(n:Nat):∀ p,su p (fun v=>su n fun j=>f j v)=su n fun j=>su p fun v=>f j v
 | 0=>(dG fun _ _=>rfl).symm
 | p+1=>by
   show su p (fun v=>su n fun j=>f j v)+su n (fun j=>f j p)=su n fun j=>su p (fun v=>f j v)+f j p
   rw[lM f n p];have h:=fW 1 1 (fun j=>su p fun v=>f j v) (fun j=>f j p) n
   have e:su n (fun j=>su p (fun v=>f j v)+f j p)=su n (fun i=>1*su p (fun v=>f i v)+1*f i p):=aC fun i _=>by lia
   rw[e,h]
   lia
theorem CJ{p c:Nat}(hc:c<p)(g:Nat->Int):su p (fun v=>g v*un c v)=g c:=by
 rw[mY (r:=c) hc fun i _ hn=>by unfold un;rw[if_neg hn,Int.mul_zero]]
 unfold un;rw[if_pos rfl,Int.mul_one]
def fl(a b:Nat->Nat)(n:Nat)(x:Nat->Int)(v:Nat):Int:=su n fun k=>x k*(un (b k) v-un (a k) v)
theorem K9{a b:Nat->Nat}{n p:Nat}(ha:∀ k,k<n->a k<p)(hb:∀ k,k<n->b k<p)(x g:Nat->Int):su p (fun v=>g v*fl a b n x v)=su n fun k=>x k*(g (b k)-g (a k)):=by
 have e1:su p (fun v=>g v*fl a b n x v)=su p (fun v=>su n fun k=>g v*(x k*(un (b k) v-un (a k) v))):=aC fun v _=>(iG (g v) _ n).symm
 rw[e1,lM];refine aC fun k hk=>?_
 have e2:su p (fun v=>g v*(x k*(un (b k) v-un (a k) v)))=su p (fun v=>x k*(g v*un (b k) v)+(- x k)*(g v*un (a k) v)):=aC fun v _=>by grind
 rw[e2,fW,CJ (hb k hk),CJ (ha k hk)]
 grind
theorem IP{a b:Nat->Nat}{n p:Nat}(ha:∀ k,k<n->a k<p)(hb:∀ k,k<n->b k<p){L:Nat->Nat->Nat}(hL:∀ k j,k<n->j<k->L k (a j)=L k (b j)){x:Nat->Int}(hx:∀ v,v<p->fl a b n x v=0)(hf:∀ k,k<n->x k≠0->L k (a k)≠L k (b k)):∀ d k,k+d+1=n->x k=0:=by
 intro d
 induction d using Nat.strongRecOn with
 | _ d ih =>
   intro k hk;refine Classical.byContradiction fun hn=>?_
   have hkn:k<n:=by lia
   have e:=K9 ha hb x (fun v=>if L k v=L k (a k) then 1 else 0)
   rw[dG fun v hv=>by rw[hx v hv,Int.mul_zero]]at e
   rw[mY (r:=k) hkn fun j hj hne=>?_]at e
   ·rw[if_neg (Ne.symm (hf k hkn hn)),if_pos rfl]at e
    lia
   ·by_cases h:j<k
    ·rw[hL k j hkn h,Int.sub_self,Int.mul_zero]
    ·rw[ih (n-1-j) (by lia) j (by lia),Int.zero_mul]
theorem uz(a b:Nat->Nat)(n:Nat)(s t:Int)(x y:Nat->Int)(v:Nat):fl a b n (fun k=>s*x k+t*y k) v=s*fl a b n x v+t*fl a b n y v:=by
 unfold fl;rw[<-fW];exact aC fun k _=>by grind
theorem JL(a b:Nat->Nat)(n:Nat)(c:Nat->Int)(f:Nat->Nat->Int)(v:Nat):∀ m,fl a b n (fun k=>su m fun i=>c i*f i k) v=su m fun i=>c i*fl a b n (f i) v
 | 0=>dG fun _ _=>by show 0*_=(0:Int);rw[Int.zero_mul]
 | m+1=>by
   have h:=uz a b n 1 (c m) (fun k=>su m fun i=>c i*f i k) (f m) v
   rw[JL a b n c f v m]at h;have e:(fun k=>su (m+1) fun i=>c i*f i k)=fun k=>1*su m (fun i=>c i*f i k)+c m*f m k:=by
    funext k
    show su m (fun i=>c i*f i k)+c m*f m k=_
    lia
   rw[e,h];show _=su m (fun i=>c i*fl a b n (f i) v)+c m*fl a b n (f m) v
   lia
theorem IQ{a b:Nat->Nat}{n p m:Nat}(ha:∀ k,k<n->a k<p)(hb:∀ k,k<n->b k<p){L:Nat->Nat->Nat}(hL:∀ k j,k<n->j<k->L k (a j)=L k (b j)){C:Nat->Nat}{f:Nat->Nat->Int}(hC:∀ j,j<m->C j<n)
 (hf:∀ i v,i<m->v<p->fl a b n (f i) v=0) (hu:∀ i j,i<m->j<m->f i (C j)=un i j) (hF:∀ k,k<n->(∀ j,j<m->C j≠k)->L k (a k)≠L k (b k)) {x:Nat->Int} (hx:∀ v,v<p->fl a b n x v=0) (k:Nat) (hk:k<n):x k=su m fun i=>x (C i)*f i k:=by
 have h:=IP (x:=fun k=>1*x k+(-1)*su m (fun i=>x (C i)*f i k)) ha hb hL (fun v hv=>by
  rw[uz,hx v hv,JL,dG fun i hi=>by rw[hf i v hi hv,Int.mul_zero]]
  rfl) (fun k hk hn=>hF k hk fun j hj e=>hn (by
   subst e;show 1*x (C j)+(-1)*su m (fun i=>x (C i)*f i (C j))=0
   rw[aC (g:=fun i=>x (C i)*un i j) fun i hi=>by rw[hu i j hi hj],lK hj fun i=>x (C i)]
   lia)) (n-1-k) k (by lia)
 have h2:1*x k+(-1)*su m (fun i=>x (C i)*f i k)=0:=h
 lia
theorem CK{f:Nat->Int}:∀{m k:Nat},k<=m->(∀ i,k<=i->i<m->f i=0)->su m f=su k f
 | 0,k,h,_=>by rw[show k=0 by lia]
 | m+1,k,h,hz=>by
   by_cases e:k=m+1
   ·rw[e]
   ·show su m f+f m=su k f;rw[CK (m:=m) (k:=k) (by lia) fun i h1 h2=>hz i h1 (by lia),hz m (by lia) (by lia)]
    lia
theorem tI(f:Nat->Int):∀ n,su n f=((List.range n).map f).sum
 | 0=>rfl
 | n+1=>by
   show su n f+f n=_;rw[tI f n,List.range_succ,List.map_append,List.sum_append];simp
theorem DQ{a b:List Int}(h:a.Perm b):a.sum=b.sum:=by
 induction h with
 | nil=>rfl
 | cons x _ ih=>rw[List.sum_cons,List.sum_cons,ih]
 | swap x y l=>rw[List.sum_cons,List.sum_cons,List.sum_cons,List.sum_cons];lia
 | trans _ _ h1 h2=>exact h1.trans h2
end Dt
namespace RM
open Dt
variable {N:Net}
structure IS(N:Net)(m:Nat)(x:Nat->Int):Prop where
 on:∀ k,k<N.n->m.testBit k=true->x k=1\/x k = -1
 off:∀ k,k<N.n->m.testBit k=false->x k=0
 fl:∀ v,v<N.p->fl N.a N.b N.n x v=0
def wx(acc:List (Nat×Int))(k:Nat):Int:=acc.foldl (fun z q=>if q.1=k then q.2 else z) 0
theorem tJ(acc:List (Nat×Int))(q:Nat×Int)(k:Nat):wx (acc++[q]) k=if q.1=k then q.2 else wx acc k:=by
 unfold wx;rw[List.foldl_append];rfl
theorem Gq{a b:Nat->Nat}{n t:Nat}{x y:Nat->Int}{d:Int}(ht:t<n)(h0:x t=0)(h1:y t=d)(h:∀ k,k≠t->y k=x k)(v:Nat):fl a b n y v=fl a b n x v+d*(Dt.un (b t) v-Dt.un (a t) v):=by
 have e:=uz a b n 1 d x (fun k=>Dt.un t k) v
 have e1:fl a b n y v=fl a b n (fun k=>1*x k+d*Dt.un t k) v:=by
  congr 1
  funext k
  unfold Dt.un
  by_cases hk:k=t
  ·subst hk;rw[if_pos rfl,h0,h1];lia
  ·rw[if_neg hk,h k hk];lia
 have e2:fl a b n (fun k=>Dt.un t k) v=Dt.un (b t) v-Dt.un (a t) v:=by
  unfold fl;rw[mY (r:=t) ht fun i _ hn=>by unfold Dt.un;dsimp only;rw[if_neg hn,Int.zero_mul]]
  show Dt.un t t*_=_;rw[show Dt.un t t=1 from if_pos rfl,Int.one_mul]
 rw[e1,e,e2]
 lia
theorem CL{m t0:Nat}(hb:m.testBit t0=true){acc:List (Nat×Int)}{v left:Nat}(h:Wk N m t0 acc v left):∀ k,k∉acc.map (·.1)->wx acc k=0:=by
 induction h with
 | start =>
   intro k hk;show(if t0=k then(1:Int) else 0)=0
   rw[if_neg fun z=>hk (by rw[<-z];exact List.mem_cons_self)]
 | next h h0 ht ih =>
   intro k hk;rw[List.map_append,List.mem_append]at hk;rw[tJ,if_neg fun z=>hk (.inr (by rw[<-z];exact List.mem_cons_self))]
   exact ih k fun z=>hk (.inl z)
theorem IT{m t0:Nat}{acc:List (Nat×Int)}{v left:Nat}(h:Wk N m t0 acc v left):∀ k,k∈acc.map (·.1)->wx acc k=1\/wx acc k = -1:=by
 induction h with
 | start =>
   intro k hk;have:k=t0:=List.mem_singleton.mp hk;subst this;exact .inl (if_pos rfl)
 | @next acc v left t h h0 ht ih =>
   intro k hk;rw[List.map_append,List.mem_append]at hk;rw[tJ]
   by_cases hn:t=k
   ·rw[if_pos hn];dsimp only
    split
    ·exact .inl rfl
    ·exact .inr rfl
   ·rw[if_neg hn];exact ih k (hk.resolve_right fun z=>hn (List.mem_singleton.mp z).symm)
theorem MW{m t0:Nat}(hm:m<2^N.n)(hb:m.testBit t0=true){acc:List (Nat×Int)}{v left:Nat}(h:Wk N m t0 acc v left)(u:Nat):fl N.a N.b N.n (wx acc) u=Dt.un v u-Dt.un (N.a t0) u:=by
 induction h with
 | start =>
   have LF:=cD hm hb;rw[Gq (y:=wx [(t0,1)]) (x:=fun _=>0) (t:=t0) (d:=1) LF rfl (if_pos rfl) (fun k hk=>if_neg (Ne.symm hk)) u]
   have:fl N.a N.b N.n (fun _=>0) u=0:=dG fun _ _=>Int.zero_mul _
   rw[this]
   lia
 | @next acc v left t h h0 ht ih =>
   have JM:=eg.mp (nJ ht);have hk:t∉acc.map (·.1):=fun z=>by
    have:=qq hb h t;rw[JM.2.1,eG z,Bool.not_true,Bool.and_false]at this;cases this
   rw[Gq (x:=wx acc) (t:=t) (d:=if N.a t=v then 1 else -1) JM.1 (CL hb h t hk) (by rw[tJ,if_pos rfl]) (fun k hk=>by rw[tJ,if_neg (Ne.symm hk)]) u,ih]
   unfold Net.IB
   by_cases e:N.a t=v
   ·rw[if_pos e,if_pos e,e];lia
   ·have e2:=JM.2.2.resolve_left e;rw[if_neg e,if_neg e,e2];lia
theorem Gr{m t0 v:Nat}(hm:m<2^N.n)(r:N.Ring m)(hb:m.testBit t0=true){acc:List (Nat×Int)}(h:Wk N m t0 acc v 0):IS N m (wx acc):=by
 have key:∀ k,k∈acc.map (·.1)↔m.testBit k=true:=fun k=>by
  have e:=qq hb h k;rw[Nat.zero_testBit]at e
  constructor
  ·intro z;have hp:=(IJ hm r hb h).mem_iff.mp z;exact(List.mem_filter.mp hp).2
  ·intro z;rw[z,Bool.true_and]at e;exact mG (by simpa using e.symm)
 refine⟨fun k _ hk=>IT h k ((key k).mpr hk),fun k _ hk=>CL hb h k (fun z=>by rw[(key k).mp z]at hk;cases hk),fun u _=>?_⟩
 rw[MW hm hb h u,(FZ hm r hb h).mp rfl]
 lia
theorem Gs{m:Nat}(hm:m<2^N.n)(r:N.Ring m):∃ x,IS N m x:=by
 have hb:=Nat.testBit_log2 r.1;generalize m.log2=t0 at hb;obtain⟨acc,v,wk⟩:=DO hm r hb;exact⟨_,Gr hm r hb wk⟩
theorem IS.turn{m:Nat}{x:Nat->Int}(h:IS N m x):IS N m (fun k=>- x k):=⟨fun k h1 h2=>by have:=h.on k h1 h2;lia,fun k h1 h2=>by have:=h.off k h1 h2;lia,fun v hv=>by
 have e:=uz N.a N.b N.n (-1) 0 x x v;rw[h.fl v hv]at e;rw[show(fun k=>- x k)=fun k=>-1*x k+0*x k from funext fun k=>by lia,e]
 rfl⟩
theorem IU(N:Net):∃ f:Nat->Nat->Int,(∀ i v,i<N.ak.length->v<N.p->fl N.a N.b N.n (f i) v=0)/\(∀ i j,i<N.ak.length->j<N.ak.length->f i (N.ak.getD j 0)=Dt.un i j)/\(∀ i,i<N.ak.length->IS N (N.ring (N.ak.getD i 0)) (f i))/\
 ∀ x:Nat->Int,(∀ v,v<N.p->fl N.a N.b N.n x v=0)->∀ k,k<N.n->x k=su N.ak.length fun i=>x (N.ak.getD i 0)*f i k:=by
 have hC:∀ i,i<N.ak.length->N.ak.getD i 0<N.n/\N.gz (N.ak.getD i 0)=false:=fun i hi=>by
  rw[List.getD_eq_getElem?_getD,List.getElem?_eq_getElem hi];exact cW.mp (List.getElem_mem hi)
 have ex:∀ i,∃ x:Nat->Int,i<N.ak.length->IS N (N.ring (N.ak.getD i 0)) x/\x (N.ak.getD i 0)=1:=fun i=>by
  by_cases hi:i<N.ak.length
  ·obtain⟨h1,h2⟩:=hC i hi;obtain⟨x,hx⟩:=Gs (nS h1) (rJ h1 h2);rcases hx.on _ h1 (qf h2) with e|e
   ·exact⟨x,fun _=>⟨hx,e⟩⟩
   ·exact⟨_,fun _=>⟨hx.turn,by show-x _=1;rw[e];rfl⟩⟩
  ·exact⟨fun _=>0,fun z=>absurd z hi⟩
 obtain⟨f,hf⟩:=Classical.axiomOfChoice ex;have hu:∀ i j,i<N.ak.length->j<N.ak.length->f i (N.ak.getD j 0)=Dt.un i j:=fun i j hi hj=>by
  unfold Dt.un
  by_cases e:j=i
  ·subst e;rw[if_pos rfl];exact(hf j hj).2
  ·rw[if_neg e];refine(hf i hi).1.off _ (hC j hj).1 ?_;rw[ji (hC i hi).2 (hC j hj).2];refine ia fun z=>e (Eq.symm ?_)
   rw[List.getD_eq_getElem?_getD,List.getD_eq_getElem?_getD,List.getElem?_eq_getElem hi,List.getElem?_eq_getElem hj]at z;exact(List.getElem_inj rH).mp z
 refine⟨f,fun i v hi hv=>(hf i hi).1.fl v hv,hu,fun i hi=>(hf i hi).1,fun x hx k hk=>?_⟩
 refine IQ (L:=fun k v=>N.cG k v) N.al N.bl (fun k j _ hj=>fT (S:=fun _=>true) hj rfl) (C:=fun i=>N.ak.getD i 0) (fun j hj=>(hC j hj).1) (fun i v hi hv=>(hf i hi).1.fl v hv) hu (fun k hk hn=>?_) hx k hk
 cases hF:N.gz k with
 | true =>
   unfold Net.gz at hF;exact of_decide_eq_false (by simpa using hF)
 | false =>
   obtain⟨j,hj⟩:=Gf hk hF;have OO:=(zj.mp hj).1;exact absurd (by rw[List.getD_eq_getElem?_getD,hj];rfl) (hn j OO)
def wM(N:Net)(X:Nat->Nat->Int):Mx:=fun r c=>X r (N.ak.getD c 0)
theorem jn{i:Nat}(hi:i<N.ak.length):N.ak.getD i 0<N.n/\N.gz (N.ak.getD i 0)=false:=by
 rw[List.getD_eq_getElem?_getD,List.getElem?_eq_getElem hi];exact cW.mp (List.getElem_mem hi)
theorem DR:MV (N.ak.map N.ring):=fun z hz e=>by
 rw[List.length_map]at hz;refine Nat.eq_of_testBit_eq fun j=>?_
 rw[Nat.zero_testBit]
 by_cases hj:j<N.ak.length
 ·have e1:=wZ (N.ak.map N.ring) (k:=N.ak.getD j 0) (z:=z) (f:=fun i=>decide (i=j)) fun i r hi=>by
   rw[List.getElem?_map]at hi;obtain⟨c,hc,rfl⟩:=J7.mp hi;have MO:=(zj.mp hc).1;have ec:c=N.ak.getD i 0:=by rw[List.getD_eq_getElem?_getD,hc];rfl
   rw[ec,ji (jn MO).2 (jn hj).2];refine decide_eq_decide.mpr ⟨fun y=>?_,fun y=>by rw[y]⟩
   rw[List.getD_eq_getElem?_getD,List.getD_eq_getElem?_getD,List.getElem?_eq_getElem MO,List.getElem?_eq_getElem hj]at y;exact(List.getElem_inj rH).mp y
  rw[e,Nat.zero_testBit,List.length_map,p7 (a:=j) hj fun k _ hk=>by rw[ia hk,Bool.and_false],eG rfl,Bool.and_true]at e1
  exact e1.symm
 ·exact Nat.testBit_lt_two_pow (Nat.lt_of_lt_of_le hz (Nat.pow_le_pow_right (by decide) (by lia)))
theorem AU.xh{N' : Net}{f g:Nat->Nat}(h:AU N N' f g):N.ak.length<=N'.ak.length:=by
 have:=K6 (N:=N') (h.ind (fun b hb=>by
  obtain⟨c,hc,rfl⟩:=List.mem_map.mp hb;exact nS (cW.mp hc).1) DR) fun b hb=>by
   obtain⟨r,hr,rfl⟩:=List.mem_map.mp hb;obtain⟨c,hc,rfl⟩:=List.mem_map.mp hr;exact⟨h.jk (nQ (cW.mp hc).1),by rw[h.n];exact IL _ _ _⟩
 rw[List.length_map,List.length_map]at this;exact this
theorem AU.ak{N' : Net}{f g:Nat->Nat}(h:AU N N' f g):N'.ak.length=N.ak.length:=Nat.le_antisymm h.symm.xh h.xh
end RM
namespace Dt
theorem mZ(f:Nat->Int)(m:Nat):∀ k,su (m+k) f=su m f+su k (fun t=>f (m+t))
 | 0=>by show su m f=su m f+0;lia
 | k+1=>by
   show su (m+k) f+f (m+k)=su m f+(su k (fun t=>f (m+t))+f (m+k))
   rw[mZ f m k]
   lia
theorem Ag(f:Nat->Int)(n:Nat):su (n+1) f=f 0+su n (fun i=>f (i+1)):=by
 have h:=mZ f 1 n;rw[Nat.add_comm 1 n]at h;rw[h];show 0+f 0+su n (fun t=>f (1+t))=_
 rw[aC (g:=fun i=>f (i+1)) fun i _=>by rw[Nat.add_comm]]
 lia
theorem CM(i r:Nat):sk (i+1) (r+1)=sk i r+1:=by
 unfold sk
 by_cases h:r<i
 ·rw[if_pos h,if_pos (by lia)]
 ·rw[if_neg h,if_neg (by lia)]
theorem nW:∀{m k:Nat} {M:Mx},(∀ r c,m<=r->r<m+k->c<m->M r c=0)->det (m+k) M=det m M*det k (fun r c=>M (m+r) (m+c))
 | 0,k,M,_=>by
   show det (0+k) M=1*_;rw[Nat.zero_add,Int.one_mul];exact aB fun r c _ _=>by rw[Nat.zero_add,Nat.zero_add]
 | m+1,k,M,h=>by
   rw[show m+1+k=(m+k)+1 by lia]
   show su (m+k+1) (fun i=>sg i*M i 0*det (m+k) (mn M i))=su (m+1) (fun i=>sg i*M i 0*det m (mn M i))*_
   rw[CK (k:=m+1) (by lia) fun i h1 h2=>by rw[h i 0 h1 (by lia) (by lia),Int.mul_zero,Int.zero_mul],Int.mul_comm,<-iG]
   refine aC fun i hi=>?_
   rw[nW (m:=m) (k:=k) (M:=mn M i) fun r c h1 h2 h3=>by
    show M (sk i r) (c+1)=0;unfold sk;rw[if_neg (by lia)]
    exact h _ _ (by lia) (by lia) (by lia)]
   have e:det k (fun r c=>mn M i (m+r) (m+c))=det k (fun r c=>M (m+1+r) (m+1+c)):=aB fun r c _ _=>by
    show M (sk i (m+r)) (m+c+1)=_;unfold sk;rw[if_neg (by lia),show m+r+1=m+1+r by lia,show m+c+1=m+1+c by lia]
   rw[e]
   grind
def mr(M:Mx)(j:Nat):Mx:=fun r c=>M (r+1) (sk j c)
theorem CN:∀(n:Nat) (M:Mx),det (n+1) M=su (n+1) fun j=>sg j*M 0 j*det n (mr M j)
 | 0,M=>rfl
 | n+1,M=>by
   show su (n+2) (fun i=>sg i*M i 0*det (n+1) (mn M i))=_
   rw[Ag,Ag (fun j=>sg j*M 0 j*det (n+1) (mr M j))]
   have e0:det (n+1) (mn M 0)=det (n+1) (mr M 0):=aB fun r c _ _=>rfl
   rw[e0]
   congr 1
   have e1:su (n+1) (fun i=>sg (i+1)*M (i+1) 0*det (n+1) (mn M (i+1)))=su (n+1) fun i=>su (n+1) fun j=>- (sg i*sg j*M (i+1) 0*M 0 (j+1)*det n (fun r c=>M (sk i r+1) (sk j c+1))):=aC fun i _=>by
    rw[CN n (mn M (i+1)),<-iG];refine aC fun j _=>?_
    have e2:det n (mr (mn M (i+1)) j)=det n (fun r c=>M (sk i r+1) (sk j c+1)):=aB fun r c _ _=>by
     show M (sk (i+1) (r+1)) (sk j c+1)=_;rw[CM]
    have e3:mn M (i+1) 0 j=M 0 (j+1):=rfl;rw[e2,e3,yw]
    grind
   have e4:su (n+1) (fun j=>sg (j+1)*M 0 (j+1)*det (n+1) (mr M (j+1)))=su (n+1) fun j=>su (n+1) fun i=>- (sg i*sg j*M (i+1) 0*M 0 (j+1)*det n (fun r c=>M (sk i r+1) (sk j c+1))):=aC fun j _=>by
    show sg (j+1)*M 0 (j+1)*su (n+1) (fun i=>sg i*mr M (j+1) i 0*det n (mn (mr M (j+1)) i))=_
    rw[<-iG];refine aC fun i _=>?_
    have e2:det n (mn (mr M (j+1)) i)=det n (fun r c=>M (sk i r+1) (sk j c+1)):=aB fun r c _ _=>by
     show M (sk i r+1) (sk (j+1) (c+1))=_;rw[CM]
    have e3:mr M (j+1) i 0=M (i+1) 0:=rfl;rw[e2,e3,yw]
    grind
   rw[e1,e4];exact lM (fun j i=>- (sg i*sg j*M (i+1) 0*M 0 (j+1)*det n (fun r c=>M (sk i r+1) (sk j c+1)))) (n+1) (n+1)
def tr(M:Mx):Mx:=fun r c=>M c r
theorem pD:∀(n:Nat) (M:Mx),det n (tr M)=det n M
 | 0,_=>rfl
 | n+1,M=>by
   rw[CN n M];exact aC fun i _=>by
    show sg i*M 0 i*det n (tr (mr M i))=_;rw[pD n]
theorem BC(i j:Nat):un i j=un j i:=by
 unfold un
 by_cases h:i=j
 ·rw[if_pos h,if_pos h.symm]
 ·rw[if_neg h,if_neg (Ne.symm h)]
theorem IV{n:Nat}(M:Mx){f:Nat->Nat}(hf:∀ i,i<n->f i<n)(inj:∀ i j,i<n->j<n->f i=f j->i=j):det n (fun r c=>M (f r) (f c))=det n M:=by
 have e1:=kA (n:=n) (fun r c=>M r (f c)) (off f n) f (Nat.le_refl _) hf
 have e2:=kA (n:=n) (tr M) (off f n) f (Nat.le_refl _) hf;have e3:det n (fun r c=>M r (f c))=det n (fun r c=>tr M (f r) c):=pD n (fun r c=>tr M (f r) c)
 have e4:det n (mul n (fun r c=>un (f r) c) (tr fun r c=>un (f r) c))=det n un:=aB fun r c hr hc=>by
  show su n (fun l=>un (f r) l*un (f c) l)=un r c
  rw[lX (hf r hr) fun l=>un (f c) l]
  unfold un
  by_cases h:c=r
  ·rw[if_pos h,if_pos (by rw[h])]
  ·rw[if_neg h,if_neg fun z=>h (inj c r hc hr z.symm)]
 rw[iO,pD,iN]at e4;rw[e1,e3,e2,pD,<-Int.mul_assoc,e4,Int.one_mul]
theorem IW(m k:Nat)(C:Mx):det m (fun i j=>un i j+su k fun t=>C i t*C j t)=det k (fun s t=>un s t+su m fun i=>C i s*C i t):=by
 have hZ:∃ Z:Mx,(∀ r c,r<m->c<m->Z r c=un r c)/\(∀ r t,r<m->Z r (m+t)=C r t)/\(∀ s c,c<m->Z (m+s) c = - C c s)/\∀ s t,Z (m+s) (m+t)=un s t :=
  ⟨fun r c=>if r<m then(if c<m then un r c else C r (c-m)) else if c<m then-C c (r-m) else un (r-m) (c-m),fun r c hr hc=>by dsimp only;rw[if_pos hr,if_pos hc],fun r t hr=>by dsimp only;rw[if_pos hr,if_neg (by lia),Nat.add_sub_cancel_left],fun s c hc=>by dsimp only;rw[if_neg (by lia),if_pos hc,Nat.add_sub_cancel_left],fun s t=>by dsimp only;rw[if_neg (by lia),if_neg (by lia),Nat.add_sub_cancel_left,Nat.add_sub_cancel_left]⟩
 have hP:∃ P:Mx,(∀ r c,r<m->c<m->P r c=un r c)/\(∀ r t,r<m->P r (m+t)=0)/\(∀ s c,c<m->P (m+s) c=C c s)/\∀ s t,P (m+s) (m+t)=un s t :=
  ⟨fun r c=>if r<m then(if c<m then un r c else 0) else if c<m then C c (r-m) else un (r-m) (c-m),fun r c hr hc=>by dsimp only;rw[if_pos hr,if_pos hc],fun r t hr=>by dsimp only;rw[if_pos hr,if_neg (by lia)],fun s c hc=>by dsimp only;rw[if_neg (by lia),if_pos hc,Nat.add_sub_cancel_left],fun s t=>by dsimp only;rw[if_neg (by lia),if_neg (by lia),Nat.add_sub_cancel_left,Nat.add_sub_cancel_left]⟩
 obtain⟨Z,z1,z2,z3,z4⟩:=hZ;obtain⟨P,p1,p2,p3,p4⟩:=hP;have low:∀ r,m<=r->r<m+k->∃ s,s<k/\r=m+s:=fun r h1 h2=>⟨r-m,by lia,by lia⟩
 have a1:det (m+k) (mul (m+k) P Z)=det k (fun s t=>un s t+su m fun i=>C i s*C i t):=by
  rw[nW fun r c h1 h2 h3=>by
   obtain⟨s,hs,rfl⟩:=low r h1 h2;show su (m+k) (fun l=>P (m+s) l*Z l c)=0
   rw[mZ,aC (g:=fun l=>C l s*un l c) fun l hl=>by rw[p3 s l hl,z1 l c hl h3],lK h3 fun l=>C l s,aC (g:=fun t=>un s t*(- C c t)) fun t _=>by rw[p4,z3 t c h3],lX hs fun t=>- C c t]
   lia]
  have e1:det m (mul (m+k) P Z)=1:=by
   rw[<-iN m];refine aB fun r c hr hc=>?_
   show su (m+k) (fun l=>P r l*Z l c)=un r c
   rw[mZ,aC (g:=fun l=>un r l*un l c) fun l hl=>by rw[p1 r l hr hl,z1 l c hl hc],lX hr fun l=>un l c,dG (n:=k) fun t _=>by rw[p2 r t hr,Int.zero_mul]]
   lia
  rw[e1,Int.one_mul];refine aB fun s t hs ht=>?_
  show su (m+k) (fun l=>P (m+s) l*Z l (m+t))=_
  rw[mZ,aC (g:=fun i=>C i s*C i t) fun l hl=>by rw[p3 s l hl,z2 l t hl],aC (n:=k) (g:=fun l=>un s l*un l t) fun l _=>by rw[p4,z4],lX hs fun l=>un l t]
  lia
 have a2:det (m+k) (mul (m+k) Z P)=det m (fun i j=>un i j+su k fun t=>C i t*C j t):=by
  rw[nW fun r c h1 h2 h3=>by
   obtain⟨s,hs,rfl⟩:=low r h1 h2;show su (m+k) (fun l=>Z (m+s) l*P l c)=0
   rw[mZ,aC (g:=fun l=>(- C l s)*un l c) fun l hl=>by rw[z3 s l hl,p1 l c hl h3],lK h3 fun l=>- C l s,aC (g:=fun t=>un s t*C c t) fun t _=>by rw[z4,p3 t c h3],lX hs fun t=>C c t]
   lia]
  have e1:det k (fun r c=>mul (m+k) Z P (m+r) (m+c))=1:=by
   rw[<-iN k];refine aB fun s t hs ht=>?_
   show su (m+k) (fun l=>Z (m+s) l*P l (m+t))=un s t
   rw[mZ,dG (n:=m) fun l hl=>by rw[p2 l t hl,Int.mul_zero],aC (n:=k) (g:=fun l=>un s l*un l t) fun l _=>by rw[z4,p4],lX hs fun l=>un l t]
   lia
  rw[e1,Int.mul_one];refine aB fun i j hi hj=>?_
  show su (m+k) (fun l=>Z i l*P l j)=_
  rw[mZ,aC (g:=fun l=>un i l*un l j) fun l hl=>by rw[z1 i l hi hl,p1 l j hl hj],lX hi fun l=>un l j,aC (n:=k) (g:=fun t=>C i t*C j t) fun t _=>by rw[z2 i t hi,p3 t j hj]]
 rw[<-a2,<-a1,iO,iO,Int.mul_comm]
theorem IY{n r:Nat}{M:Mx}(hr:r<n)(a:Nat->Int)(ha:a r=1)(h:∀ c,c<n->su n (fun l=>a l*M l c)=0):det n M=0:=by
 have e:=yz (n:=n) (M:=M) hr a M n;rw[mY (r:=r) hr fun l hl hn=>by
  rw[gG (M:=put M r (M l)) hr hl (Ne.symm hn) fun c=>by rw[aG,aO _ _ _ hn],Int.mul_zero],ha,Int.one_mul]at e
 have e2:det n (put M r (M r))=det n M:=aB fun i c _ _=>by
  by_cases hi:i=r
  ·subst hi;rw[aG]
  ·rw[aO _ _ _ hi]
 have e3:det n (put M r fun c=>su n fun l=>a l*M l c)=det n (put M r fun _=>0):=aB fun i c _ hc=>by
  by_cases hi:i=r
  ·subst hi;rw[aG,aG];exact h c hc
  ·rw[aO _ _ _ hi,aO _ _ _ hi]
 have e4:=eJ (n:=n) (M:=put M r fun _=>0) (A:=M) (B:=M) (r:=r) 0 0 hr (fun i c hi=>aO _ _ _ hi) (fun i c hi=>aO _ _ _ hi) (fun c=>by rw[aG];lia)
 rw[<-e2,<-e,e3,e4]
 lia
theorem Ah{n u:Nat}{M:Mx}(hu:u<n)(h:∀ c,c<n->M u c=un u c):det n (fun w c=>if c=u/\w≠u then 0 else M w c)=det n M:=by
 have key:∀ j,j<=n->det n (fun w c=>if w<j/\c=u/\w≠u then 0 else M w c)=det n M:=fun j=>by
  induction j with
  | zero=>exact fun _=>aB fun w c _ _=>if_neg (by lia)
  | succ j ih =>
    intro hj;rw[<-ih (by lia)]
    by_cases e:j=u
    ·subst e;refine aB fun w c _ _=>?_
     by_cases hw:w<j/\c=j/\w≠j
     ·rw[if_pos hw,if_pos (by lia)]
     ·rw[if_neg hw,if_neg (by lia)]
    ·have e1:=tH (n:=n) (M:=fun w c=>if w<j/\c=u/\w≠u then 0 else M w c) (r:=j) (s:=u) 1 (- M j u) (by lia) hu e
     rw[Int.one_mul]at e1;rw[<-e1];refine aB fun w c hw hc=>?_
     by_cases Xd:w=j
     ·subst Xd;rw[aG];rw[if_neg (show ¬(w<w/\c=u/\w≠u) by lia),if_neg (show ¬(u<w/\c=u/\u≠u) by lia),h c hc]
      unfold un
      by_cases hcu:c=u
      ·subst hcu;rw[if_pos (by lia),if_pos rfl]
       lia
      ·rw[if_neg (by lia),if_neg hcu]
       lia
     ·rw[aO _ _ _ Xd]
      by_cases mJ:w<j/\c=u/\w≠u
      ·rw[if_pos mJ,if_pos (by lia)]
      ·rw[if_neg mJ,if_neg (by lia)]
 rw[<-key n (Nat.le_refl _)];refine aB fun w c hw _=>?_
 by_cases hc:c=u/\w≠u
 ·rw[if_pos hc,if_pos ⟨hw,hc⟩]
 ·rw[if_neg hc,if_neg fun z=>hc z.2]
def dl(e:Nat×Nat)(w:Nat):Int:=un e.1 w-un e.2 w
def bX:List (Nat×Nat)->Mx
 | [],_,_=>0
 | e::l,w,c=>dl e w*dl e c+bX l w c
def mv(u v x:Nat):Nat:=if x=v then u else x
def bZ(u v:Nat)(l:List (Nat×Nat)):List (Nat×Nat):=(l.map fun e=>(mv u v e.1,mv u v e.2)).filter fun e=>decide (e.1≠e.2)
theorem uA(u v:Nat)(e:Nat×Nat)(l:List (Nat×Nat)):bZ u v (e::l)=if mv u v e.1=mv u v e.2 then bZ u v l else(mv u v e.1,mv u v e.2)::bZ u v l:=by
 unfold bZ;rw[List.map_cons,List.filter_cons]
 by_cases h:mv u v e.1=mv u v e.2
 ·rw[if_pos h,if_neg (by rw[decide_eq_true_eq];exact fun z=>z h)]
 ·rw[if_neg h,if_pos (eG h)]
theorem DS(u v:Nat)(l:List (Nat×Nat)):(bZ u v l).length<=l.length:=by
 unfold bZ;exact Nat.le_trans (List.length_filter_le _ _) (by rw[List.length_map];exact Nat.le_refl _)
theorem JN{u v w:Nat}(hw:w≠v)(x:Nat):un (mv u v x) w=un x w+un u w*un x v:=by
 unfold mv un
 by_cases hx:x=v
 ·subst hx;rw[if_pos rfl,if_neg hw,if_pos rfl]
  lia
 ·rw[if_neg hx,if_neg (Ne.symm hx),Int.mul_zero]
  lia
theorem pF{u v w c:Nat}(hw:w≠v)(hc:c≠v):∀ l,bX (bZ u v l) w c=bX l w c+un u c*bX l w v+un u w*bX l v c+un u w*un u c*bX l v v
 | []=>by
   show(0:Int)=0+un u c*0+un u w*0+un u w*un u c*0;rw[Int.mul_zero,Int.mul_zero,Int.mul_zero];rfl
 | e::l=>by
   have ih:=pF (u:=u) hw hc l;have d1:∀ x,x≠v->dl (mv u v e.1,mv u v e.2) x=dl e x+un u x*dl e v:=fun x hx=>by
    show un (mv u v e.1) x-un (mv u v e.2) x=(un e.1 x-un e.2 x)+un u x*(un e.1 v-un e.2 v);rw[JN hx,JN hx]
    grind
   have d2:bX (bZ u v (e::l)) w c=dl (mv u v e.1,mv u v e.2) w*dl (mv u v e.1,mv u v e.2) c+bX (bZ u v l) w c:=by
    rw[uA]
    by_cases h:mv u v e.1=mv u v e.2
    ·rw[if_pos h];have:dl (mv u v e.1,mv u v e.2) w=0:=by show un (mv u v e.1) w-un (mv u v e.2) w=0;rw[h];lia
     rw[this]
     lia
    ·rw[if_neg h];rfl
   rw[d2,d1 w hw,d1 c hc,ih];show _=(dl e w*dl e c+bX l w c)+un u c*(dl e w*dl e v+bX l w v)+un u w*(dl e v*dl e c+bX l v c)+un u w*un u c*(dl e v*dl e v+bX l v v)
   grind
def gM(L:Mx)(R:Nat->Bool):Mx:=fun w c=>if(R w || R c)=true then un w c else L w c
theorem cP{L:Mx}{R:Nat->Bool}{w c:Nat}(h:R w=true\/R c=true):gM L R w c=un w c:=if_pos (by rcases h with h | h<;>rw[h];exact Bool.true_or _;exact Bool.or_true _)
theorem ej{L:Mx}{R:Nat->Bool}{w c:Nat}(h1:R w=false)(h2:R c=false):gM L R w c=L w c:=if_neg (by rw[h1,h2];decide)
def Dd(p:Nat)(l:List (Nat×Nat))(R:Nat->Bool):Int:=det p (gM (bX l) R)
theorem cA{a b:Nat}(h:a≠b):un a b=0:=if_neg (Ne.symm h)
theorem sC(a:Nat):un a a=1:=if_pos rfl
theorem CO{n u:Nat}(hu:u<n)(M:Mx)(x y:Nat->Int):det n (put M u fun c=>x c+y c)=det n (put M u x)+det n (put M u y):=by
 have:=eJ (n:=n) (M:=put M u fun c=>x c+y c) (A:=put M u x) (B:=put M u y) (r:=u) 1 1 hu (fun i c hi=>by rw[aO _ _ _ hi,aO _ _ _ hi]) (fun i c hi=>by rw[aO _ _ _ hi,aO _ _ _ hi]) (fun c=>by rw[aG,aG,aG];lia)
 rw[this]
 lia
theorem Gu{n:Nat}(M:Mx)(u:Nat):det n (put M u (M u))=det n M:=aB fun i c _ _=>by
 by_cases hi:i=u
 ·subst hi;rw[aG]
 ·rw[aO _ _ _ hi]
theorem Gv{p u v x y:Nat}{l:List (Nat×Nat)}{R R' : Nat->Bool}(hx:(x=u/\y=v)\/(x=v/\y=u))(hne:u≠v)(Xe:x<p)(h1:R x=false)(h2:R y=true)(hR:∀ w,R' w=(R w || decide (w=x))):Dd p ((u,v)::l) R=Dd p l R+Dd p (bZ u v l) R':=by
 have hxy:x≠y:=by rcases hx with⟨rfl,rfl⟩ | ⟨rfl,rfl⟩;exact hne;exact Ne.symm hne
 have hd:∀ w c,w≠y->c≠y->dl (u,v) w*dl (u,v) c=un x w*un x c:=fun w c hw hc=>by
  show(un u w-un v w)*(un u c-un v c)=_;rcases hx with⟨rfl,rfl⟩|⟨rfl,rfl⟩
  ·rw[cA (Ne.symm hw),cA (Ne.symm hc)]
   grind
  ·rw[cA (Ne.symm hw),cA (Ne.symm hc)]
   grind
 have e1:Dd p ((u,v)::l) R=det p (put (gM (bX l) R) x fun c=>gM (bX l) R x c+un x c):=aB fun w c _ _=>by
  by_cases hw:w=x
  ·subst hw;rw[aG];cases hc:R c with
   | true =>
     rw[cP (.inr hc),cP (.inr hc),cA (fun z=>by rw[z,hc]at h1;cases h1)]
     rfl
   | false =>
     rw[ej h1 hc,ej h1 hc];show dl (u,v) w*dl (u,v) c+bX l w c=_;rw[hd w c hxy (fun z=>by rw[z,h2]at hc;cases hc),sC,Int.one_mul]
     lia
  ·rw[aO _ _ _ hw];cases mJ:R w with
   | true=>rw[cP (.inl mJ),cP (.inl mJ)]
   | false =>
     cases hc:R c with
     | true=>rw[cP (.inr hc),cP (.inr hc)]
     | false =>
       rw[ej mJ hc,ej mJ hc];show dl (u,v) w*dl (u,v) c+bX l w c=_;rw[hd w c (fun z=>by rw[z,h2]at mJ;cases mJ) (fun z=>by rw[z,h2]at hc;cases hc),cA (Ne.symm hw),Int.zero_mul]
       lia
 rw[e1,CO Xe,Gu]
 congr 1
 rw[<-Ah Xe (M:=put (gM (bX l) R) x (un x)) fun c _=>aG _ _ _ _]
 refine aB fun w c _ _=>?_
 by_cases hw:w=x
 ·subst hw;rw[if_neg (by lia),aG,cP (.inl (by rw[hR,eG rfl,Bool.or_true]))]
 ·rw[aO _ _ _ hw]
  by_cases hc:c=x
  ·subst hc;rw[if_pos ⟨rfl,hw⟩,cP (.inr (by rw[hR,eG rfl,Bool.or_true])),cA hw]
  ·rw[if_neg (by lia)]
   have eR:∀ z,z≠x->R' z=R z:=fun z hz=>by rw[hR,ia hz,Bool.or_false]
   cases mJ:R w with
   | true=>rw[cP (.inl mJ),cP (.inl (by rw[eR w hw];exact mJ))]
   | false =>
     cases hc2:R c with
     | true=>rw[cP (.inr hc2),cP (.inr (by rw[eR c hc];exact hc2))]
     | false =>
       rw[ej mJ hc2,ej (by rw[eR w hw];exact mJ) (by rw[eR c hc];exact hc2)]
       have hwy:w≠y:=fun z=>by rw[z,h2]at mJ;cases mJ
       have LC:c≠y:=fun z=>by rw[z,h2]at hc2;cases hc2
       have f:w≠v/\c≠v/\w≠u/\c≠u:=by rcases hx with⟨rfl,rfl⟩ | ⟨rfl,rfl⟩<;>exact⟨by assumption,by assumption,by assumption,by assumption⟩
       rw[pF f.1 f.2.1,cA (Ne.symm f.2.2.1),cA (Ne.symm f.2.2.2)]
       lia
theorem La{p u v:Nat}{l:List (Nat×Nat)}{R R' : Nat->Bool}(hne:u≠v)(hu:u<p)(hv:v<p)(h1:R u=false)(h2:R v=false)(hR:∀ w,R' w=(R w || decide (w=v))):Dd p ((u,v)::l) R=Dd p l R+Dd p (bZ u v l) R':=by
 have big:∀ w c,gM (bX ((u,v)::l)) R w c=gM (bX l) R w c+dl (u,v) w*dl (u,v) c:=fun w c=>by
  have z:∀ x,R x=true->dl (u,v) x=0:=fun x hx=>by
   show un u x-un v x=0;rw[cA (fun z=>by rw[z,hx]at h1;cases h1),cA (fun z=>by rw[z,hx]at h2;cases h2)]
   rfl
  cases hw:R w with
  | true=>rw[cP (.inl hw),cP (.inl hw),z w hw];lia
  | false =>
    cases hc:R c with
    | true=>rw[cP (.inr hc),cP (.inr hc),z c hc];lia
    | false =>
      rw[ej hw hc,ej hw hc];show dl (u,v) w*dl (u,v) c+bX l w c=_
      lia
 have du:dl (u,v) u=1:=by show un u u-un v u=1;rw[sC,cA (Ne.symm hne)];rfl
 have dv:dl (u,v) v = -1:=by show un u v-un v v = -1;rw[sC,cA hne];rfl
 have dz:∀ w,w≠u->w≠v->dl (u,v) w=0:=fun w a b=>by show un u w-un v w=0;rw[cA (Ne.symm a),cA (Ne.symm b)];rfl
 generalize hA:gM (bX l) R=A at big;have hM:Dd p ((u,v)::l) R=det p (gM (bX ((u,v)::l)) R):=rfl;generalize gM (bX ((u,v)::l)) R=M at big hM;rw[hM];have e1:=tH (n:=p) (M:=M) (r:=u) (s:=v) 1 1 hu hv hne;rw[Int.one_mul]at e1;rw[<-e1];have e2:det p (put M u fun c=>1*M u c+1*M v c)=det p (put (put A u fun c=>A u c+A v c) v fun c=>A v c+(un v c-un u c)):=aB fun w c _ _=>by
  by_cases hw:w=u
  ·subst hw;rw[aG,aO _ _ _ hne,aG,big,big,du,dv]
   lia
  ·rw[aO _ _ _ hw]
   by_cases mJ:w=v
   ·subst mJ;rw[aG,big,dv];show _ + -1*(un u c-un w c)=_
    lia
   ·rw[aO _ _ _ mJ,aO _ _ _ hw,big,dz w hw mJ]
    lia
 rw[e2,CO hv];have e3:det p (put (put A u fun c=>A u c+A v c) v (A v))=det p A:=by
  have e4:=tH (n:=p) (M:=A) (r:=u) (s:=v) 1 1 hu hv hne;rw[Int.one_mul]at e4;rw[<-e4];refine aB fun w c _ _=>?_
  by_cases mJ:w=v
  ·subst mJ;rw[aG,aO _ _ _ (Ne.symm hne)]
  ·rw[aO _ _ _ mJ]
   by_cases hw:w=u
   ·subst hw;rw[aG,aG]
    lia
   ·rw[aO _ _ _ hw,aO _ _ _ hw]
 have e5:det p (put (put A u fun c=>A u c+A v c) v (fun c=>A v c))=det p A:=e3
 rw[e5];have e6:Dd p l R=det p A:=by show det p (gM (bX l) R)=_;rw[hA]
 rw[e6]
 congr 1
 generalize hB:put (put A u fun c=>A u c+A v c) v (fun c=>un v c-un u c)=B
 have e7:=iO p B (put un v fun c=>1*un v c+1*un u c)
 rw[tH (n:=p) (M:=un) (r:=v) (s:=u) 1 1 hv hu (Ne.symm hne),iN,Int.one_mul,Int.mul_one]at e7;have e8:∀ r c,c<p->mul p B (put un v fun c=>1*un v c+1*un u c) r c=B r c+B r v*un u c:=fun r c hc=>by
  show su p (fun l=>B r l*put un v (fun c=>1*un v c+1*un u c) l c)=_
  have e9:su p (fun l=>B r l*put un v (fun c=>1*un v c+1*un u c) l c)=su p (fun l=>1*(B r l*un l c)+un u c*(B r l*un l v)):=aC fun l _=>by
   by_cases hl:l=v
   ·subst hl;rw[aG,sC]
    grind
   ·rw[aO _ _ _ hl,cA hl]
    grind
  rw[e9,fW,lK hc fun l=>B r l,lK hv fun l=>B r l]
  grind
 rw[<-e7];have IZ:∀ c,B v c=un v c-un u c:=fun c=>by rw[<-hB,aG]
 rw[<-Ah hv (M:=mul p B (put un v fun c=>1*un v c+1*un u c)) fun c hc=>by
  rw[e8 v c hc,IZ,IZ,sC,cA hne]
  lia]
 refine aB fun w c _ hc=>?_
 have eR:∀ z,z≠v->R' z=R z:=fun z hz=>by rw[hR,ia hz,Bool.or_false]
 have Rv:R' v=true:=by rw[hR,eG rfl,Bool.or_true]
 by_cases hw:w=v
 ·subst hw;rw[if_neg (by lia),e8 _ _ hc,IZ,IZ,sC,cA hne,cP (.inl Rv)]
  lia
 ·by_cases MX:c=v
  ·subst MX;rw[if_pos ⟨rfl,hw⟩,cP (.inr Rv),cA hw]
  ·rw[if_neg (by lia),e8 _ _ hc]
   have Lb:∀ x,B u x=A u x+A v x:=fun x=>by rw[<-hB,aO _ _ _ hne,aG]
   have Gw:∀ x,w≠u->B w x=A w x:=fun x h=>by rw[<-hB,aO _ _ _ hw,aO _ _ _ h]
   cases mJ:R w with
   | true =>
     have CP:w≠u:=fun z=>by rw[z,h1]at mJ;cases mJ
     rw[Gw c CP,Gw v CP,<-hA,cP (.inl mJ),cP (.inl mJ),cA hw,cP (.inl (by rw[eR w hw];exact mJ))]
     lia
   | false =>
     cases hc2:R c with
     | true =>
       have hcu:c≠u:=fun z=>by rw[z,h1]at hc2;cases hc2
       have QT:w≠c:=fun z=>by rw[z,hc2]at mJ;cases mJ
       rw[cP (.inr (by rw[eR c MX];exact hc2)),cA (Ne.symm hcu),Int.mul_zero,cA QT]
       by_cases CP:w=u
       ·subst CP;rw[Lb,<-hA,cP (.inr hc2),cP (.inr hc2),cA QT,cA (Ne.symm MX)];rfl
       ·rw[Gw c CP,<-hA,cP (.inr hc2),cA QT];rfl
     | false =>
       rw[ej (by rw[eR w hw];exact mJ) (by rw[eR c MX];exact hc2),pF hw MX]
       by_cases CP:w=u
       ·subst CP;rw[Lb,Lb,<-hA,ej mJ hc2,ej h2 hc2,ej mJ h2,ej h2 h2,sC]
        grind
       ·rw[Gw c CP,Gw v CP,<-hA,ej mJ hc2,ej mJ h2,cA (Ne.symm CP)]
        grind
inductive Cn(l:List (Nat×Nat))(x:Nat):Nat->Prop
 | refl:Cn l x x
 | step {y z:Nat} (h:Cn l x y) (e:(y,z)∈l\/(z,y)∈l):Cn l x z
section
variable {l l' : List (Nat×Nat)}{x y z u v:Nat}
theorem Cn.trans(h:Cn l x y)(h' : Cn l y z):Cn l x z:=by
 induction h' with
 | refl=>exact h
 | step _ e ih=>exact .step ih e
theorem Cn.symm(h:Cn l x y):Cn l y x:=by
 induction h with
 | refl=>exact .refl
 | step _ e ih=>exact Cn.trans (.step .refl e.symm) ih
theorem Cn.mono(h:Cn l x y)(hs:∀ e∈l,e∈l'):Cn l' x y:=by
 induction h with
 | refl=>exact .refl
 | step _ e ih=>exact .step ih (e.imp (hs _) (hs _))
theorem Cn.zT{e:Nat×Nat}(h:e∈l):Cn l e.1 e.2:=.step .refl (.inl h)
theorem Cn.more{e:Nat×Nat}(h:Cn l x y):Cn (e::l) x y:=h.mono fun _ z=>vz _ z
theorem Lc(h:Cn [] x y):x=y:=by
 induction h with
 | refl=>rfl
 | step _ e _=>rcases e with e | e<;>cases e
theorem JO(hne:u≠v)(x:Nat):mv u v x≠v:=by
 unfold mv
 split
 ·exact hne
 ·next h=>exact h
theorem JP(h:x≠v):mv u v x=x:=if_neg h
theorem kB{e:Nat×Nat}:e∈bZ u v l↔∃ d∈l,e=(mv u v d.1,mv u v d.2)/\e.1≠e.2:=by
 unfold bZ;rw[List.mem_filter,List.mem_map,decide_eq_true_eq]
 constructor
 ·rintro⟨⟨d,hd,rfl⟩,h⟩;exact⟨d,hd,rfl,h⟩
 ·rintro⟨d,hd,rfl,h⟩;exact⟨⟨d,hd,rfl⟩,h⟩
theorem Gx(hne:u≠v)(h:Cn ((u,v)::l) x y):Cn (bZ u v l) (mv u v x) (mv u v y):=by
 induction h with
 | refl=>exact .refl
 | @step y z _ e ih =>
   have two:∀ a b,(a,b)∈(u,v)::l->Cn (bZ u v l) (mv u v a) (mv u v b):=fun a b h=>by
    rcases List.mem_cons.mp h with h|h
    ·cases h;rw[JP hne,show mv u v v=u from if_pos rfl]
     exact .refl
    ·by_cases hq:mv u v a=mv u v b
     ·rw[hq];exact .refl
     ·exact .step .refl (.inl (kB.mpr ⟨(a,b),h,rfl,hq⟩))
   rcases e with e|e
   ·exact ih.trans (two _ _ e)
   ·exact ih.trans (two _ _ e).symm
theorem JQ(x:Nat):Cn ((u,v)::l) (mv u v x) x:=by
 unfold mv
 split
 ·next h=>subst h;exact .step .refl (.inl List.mem_cons_self)
 ·exact .refl
theorem Gy(h:Cn (bZ u v l) x y):Cn ((u,v)::l) x y:=by
 induction h with
 | refl=>exact .refl
 | @step y z _ e ih =>
   have two:∀ a b,(a,b)∈bZ u v l->Cn ((u,v)::l) a b:=fun a b h=>by
    obtain⟨d,hd,e,_⟩:=kB.mp h;cases e;exact(JQ d.1).trans ((Cn.zT (vz _ hd)).trans (JQ d.2).symm)
   rcases e with e|e
   ·exact ih.trans (two _ _ e)
   ·exact ih.trans (two _ _ e).symm
theorem CQ(hne:u≠v)(h:Cn (bZ u v l) v y):y=v:=by
 induction h with
 | refl=>rfl
 | @step y z _ e ih =>
   subst ih;rcases e with e|e
   ·obtain⟨d,_,e,_⟩:=kB.mp e;exact absurd (congrArg Prod.fst e).symm (JO hne _)
   ·obtain⟨d,_,e,_⟩:=kB.mp e;exact absurd (congrArg Prod.snd e).symm (JO hne _)
theorem Ai(h:Cn ((u,v)::l) x y):Cn l x y\/(Cn l x u/\Cn l v y)\/(Cn l x v/\Cn l u y):=by
 induction h with
 | refl=>exact .inl .refl
 | @step y z _ e ih =>
   have two:(y,z)=(u,v)\/(z,y)=(u,v)\/Cn l y z:=by
    rcases e with e|e<;>rcases List.mem_cons.mp e with e|e
    ·exact .inl e
    ·exact .inr (.inr (Cn.zT e))
    ·exact .inr (.inl e)
    ·exact .inr (.inr (Cn.zT e).symm)
   rcases two with e|e|e
   ·cases e;rcases ih with h|⟨h,_⟩|⟨h,_⟩
    ·exact .inr (.inl ⟨h,.refl⟩)
    ·exact .inr (.inl ⟨h,.refl⟩)
    ·exact .inl h
   ·cases e;rcases ih with h|⟨h,_⟩|⟨h,_⟩
    ·exact .inr (.inr ⟨h,.refl⟩)
    ·exact .inl h
    ·exact .inr (.inr ⟨h,.refl⟩)
   ·rcases ih with h|⟨h,g⟩|⟨h,g⟩
    ·exact .inl (h.trans e)
    ·exact .inr (.inl ⟨h,g.trans e⟩)
    ·exact .inr (.inr ⟨h,g.trans e⟩)
end
def Gd(p:Nat)(l:List (Nat×Nat)):Prop:=∀ e∈l,e.1<p/\e.2<p/\e.1≠e.2
theorem Gd.tail{p:Nat}{e:Nat×Nat}{l:List (Nat×Nat)}(h:Gd p (e::l)):Gd p l:=fun d hd=>h d (vz _ hd)
theorem Gd.bZ{p u v:Nat}{l:List (Nat×Nat)}(h:Gd p l)(hu:u<p):Gd p (bZ u v l):=fun e he=>by
 obtain⟨d,hd,rfl,hn⟩:=kB.mp he;obtain⟨h1,h2,_⟩:=h d hd;refine⟨?_,?_,hn⟩
 ·show mv u v d.1<p;unfold mv
  split<;>assumption
 ·show mv u v d.2<p;unfold mv
  split<;>assumption
structure Tr(p:Nat)(l:List (Nat×Nat))(R:Nat->Bool):Prop where
 ex:∀ x,x<p->∃ r,r<p/\R r=true/\Cn l x r
 one:∀ r r',r<p->r'<p->R r=true->R r' = true->Cn l r r'->r=r'
theorem Tr.bZ{p u v:Nat}{l:List (Nat×Nat)}{R R' : Nat->Bool}(hne:u≠v)(hu:u<p)(hv:v<p)(h:Tr p ((u,v)::l) R)(h1:R' v=true)(h2:R' u=(R u || R v))(h3:∀ w,w≠u->w≠v->R' w=R w):Tr p (bZ u v l) R':=by
 refine⟨fun x hx=>?_,fun r r' hr hr' e e' c=>?_⟩
 ·by_cases hxv:x=v
  ·subst hxv;exact⟨x,hx,h1,.refl⟩
  ·obtain⟨r,hr,e,c⟩:=h.ex x hx;have c:=Gx hne c;rw[JP hxv]at c;refine⟨mv u v r,?_,?_,c⟩
   ·unfold mv
    split<;>assumption
   ·unfold mv
    split
    ·next z=>subst z;rw[h2,e,Bool.or_true]
    ·next z =>
     by_cases Xf:r=u
     ·subst Xf;rw[h2,e,Bool.true_or]
     ·rw[h3 r Xf z];exact e
 ·by_cases Xg:r=v
  ·subst Xg;exact(CQ hne c).symm
  by_cases MY:r' = v
  ·subst MY;exact CQ hne c.symm
  have back:∀ w,w<p->w≠v->R' w=true->∃ o,o<p/\R o=true/\Cn ((u,v)::l) w o/\(w≠u->o=w)/\(w=u->o=u\/o=v):=fun w hw Y5 ew=>by
   by_cases CP:w=u
   ·subst CP;rw[h2,Bool.or_eq_true]at ew;rcases ew with ew|ew
    ·exact⟨w,hw,ew,.refl,fun z=>absurd rfl z,fun _=>.inl rfl⟩
    ·exact⟨v,hv,ew,Cn.zT (e:=(w,v)) List.mem_cons_self,fun z=>absurd rfl z,fun _=>.inr rfl⟩
   ·exact⟨w,hw,by rw[<-h3 w CP Y5];exact ew,.refl,fun _=>rfl,fun z=>absurd z CP⟩
  obtain⟨o,ho,eo,co,o1,o2⟩:=back r hr Xg e;obtain⟨o',ho',Y6,Y7,Xh,Y8⟩:=back r' hr' MY e';have q:=h.one o o' ho ho' eo Y6 (co.symm.trans ((Gy c).trans Y7))
  by_cases a:r=u<;>by_cases b:r' = u
  ·rw[a,b]
  ·have:=Xh b;rcases o2 a with z|z
   ·lia
   ·lia
  ·have:=o1 a;rcases Y8 b with z|z
   ·lia
   ·lia
  ·rw[<-o1 a,<-Xh b,q]
open Classical in
noncomputable def tk:Nat->List (Nat×Nat)->Nat
 | 0,_=>1
 | _+1,[]=>1
 | n+1,e::l=>tk n (bZ e.1 e.2 l)+(if Cn l e.1 e.2 then tk n l else 0)
theorem Gz:∀(n:Nat) (l:List (Nat×Nat)),1<=tk n l
 | 0,_=>Nat.le_refl _
 | _+1,[]=>Nat.le_refl _
 | n+1,e::l=>Nat.le_trans (Gz n _) (Nat.le_add_right _ _)
theorem xj{p c:Nat}{f:Nat->Int}:∀{l:List (Nat×Nat)},(∀ e∈l,e.1<p/\e.2<p/\f e.1=f e.2)->su p (fun w=>f w*bX l w c)=0
 | [],_=>dG fun _ _=>Int.mul_zero _
 | e::l,h=>by
   obtain⟨h1,h2,h3⟩:=h e List.mem_cons_self;have ih:=xj (p:=p) (c:=c) (f:=f) (l:=l) fun d hd=>h d (vz _ hd)
   have e1:su p (fun w=>f w*bX (e::l) w c)=su p (fun w=>dl e c*(f w*dl e w)+1*(f w*bX l w c)):=aC fun w _=>by
    show f w*(dl e w*dl e c+bX l w c)=_
    grind
   have e2:su p (fun w=>f w*dl e w)=0:=by
    have e3:su p (fun w=>f w*dl e w)=su p (fun w=>1*(f w*un w e.1)+(-1)*(f w*un w e.2)):=aC fun w _=>by
     show f w*(un e.1 w-un e.2 w)=_;rw[BC e.1,BC e.2]
     grind
    rw[e3,fW,lK h1 f,lK h2 f,h3]
    lia
   rw[e1,fW,ih,e2]
   lia
open Classical in
theorem I0{p s:Nat}{l:List (Nat×Nat)}{R:Nat->Bool}(g:Gd p l)(hs:s<p)(h:∀ r,r<p->R r=true->¬ Cn l s r):Dd p l R=0:=by
 refine IY hs (fun w=>if Cn l s w then 1 else 0) (if_pos .refl) fun c hc=>?_
 have hw:∀ w,w<p->Cn l s w->R w=false:=fun w hw hc=>by
  cases e:R w with
  | false=>rfl
  | true=>exact absurd hc (h w hw e)
 cases hR:R c with
 | true =>
   refine dG fun w hwp=>?_
   by_cases hq:Cn l s w
   ·rw[cP (.inr hR),cA (fun z=>by rw[<-z,hw w hwp hq]at hR;cases hR),Int.mul_zero]
   ·(try dsimp only)
    rw[if_neg hq,Int.zero_mul]
 | false =>
   refine Eq.trans ?_ (xj (p:=p) (c:=c) (f:=fun w=>if Cn l s w then 1 else 0) (l:=l) fun e he=>?_)
   ·refine aC fun w hwp=>?_
    by_cases hq:Cn l s w
    ·rw[ej (hw w hwp hq) hR]
    ·(try dsimp only)
     rw[if_neg hq,Int.zero_mul,Int.zero_mul]
   ·obtain⟨h1,h2,_⟩:=g e he;refine⟨h1,h2,?_⟩
    by_cases hq:Cn l s e.1
    ·rw[if_pos hq,if_pos (hq.trans (Cn.zT he))]
    ·rw[if_neg hq,if_neg fun z=>hq (z.trans (Cn.zT he).symm)]
open Classical in
theorem MZ{p:Nat}:∀(n:Nat) (l:List (Nat×Nat)),l.length<=n->Gd p l->∀ R,Tr p l R->Dd p l R=(tk n l:Int):=by
 have nil:∀ R,Tr p [] R->Dd p [] R=1:=fun R t=>by
  rw[<-iN p];refine aB fun w c hw hc=>cP (.inl ?_)
  obtain⟨r,_,e,c⟩:=t.ex w hw;rw[Lc c];exact e
 intro n
 induction n with
 | zero =>
   intro l hl g R t;have:l=[]:=List.length_eq_zero_iff.mp (by lia)
   subst this;exact nil R t
 | succ n ih =>
   intro l hl g R t
   match l,hl,g,t with
   | [],_,_,t=>exact nil R t
   | (u,v)::l,hl,g,t =>
     have hl:l.length<=n:=by rw[List.length_cons]at hl;lia
     obtain⟨hu,hv,hne⟩:=g _ List.mem_cons_self;have hu:u<p:=hu;have hv:v<p:=hv;have hne:u≠v:=hne;have g1:=g.tail;have both:R u=true->R v=true->False:=fun a b=>hne (t.one u v hu hv a b (Cn.zT (e:=(u,v)) List.mem_cons_self))
     have hC:∃ R' : Nat->Bool,Dd p ((u,v)::l) R=Dd p l R+Dd p (bZ u v l) R'/\R' v=true/\R' u=(R u || R v)/\∀ w,w≠u->w≠v->R' w=R w:=by
      cases hv2:R v with
      | true =>
        have Lz:R u=false:=by
         cases e:R u with
         | false=>rfl
         | true=>exact(both e hv2).elim
        refine⟨fun w=>R w || decide (w=u),Gv (.inl ⟨rfl,rfl⟩) hne hu Lz hv2 fun _=>rfl,?_,?_,fun w h1 _=>?_⟩
        ·show(R v || _)=true;rw[hv2,Bool.true_or]
        ·show(R u || decide (u=u))=_;rw[eG rfl,Bool.or_true]
        ·show(R w || decide (w=u))=_;rw[ia h1,Bool.or_false]
      | false =>
        refine⟨fun w=>R w || decide (w=v),?_,?_,?_,fun w _ h1=>?_⟩
        ·cases Lz:R u with
         | true=>exact Gv (.inr ⟨rfl,rfl⟩) hne hv hv2 Lz fun _=>rfl
         | false=>exact La hne hu hv Lz hv2 fun _=>rfl
        ·show(R v || decide (v=v))=true;rw[eG rfl,Bool.or_true]
        ·show(R u || decide (u=v))=_;rw[ia hne]
        ·show(R w || decide (w=v))=_;rw[ia h1,Bool.or_false]
     obtain⟨R',e,r1,r2,r3⟩:=hC;rw[e,ih (bZ u v l) (Nat.le_trans (DS _ _ _) hl) (g1.bZ hu) R' (t.bZ hne hu hv r1 r2 r3)];rw[show tk (n+1) ((u,v)::l)=tk n (bZ u v l)+(if Cn l u v then tk n l else 0) from rfl]
     by_cases hq:Cn l u v
     ·rw[if_pos hq,ih l hl g1 R ⟨fun x hx=>?_,fun r r' a b c d cn=>t.one r r' a b c d cn.more⟩]
      ·lia
      ·obtain⟨r,hr,er,c⟩:=t.ex x hx;refine⟨r,hr,er,?_⟩;rcases Ai c with h|⟨h,h'⟩|⟨h,h'⟩
       ·exact h
       ·exact h.trans (hq.trans h')
       ·exact h.trans (hq.symm.trans h')
     ·rw[if_neg hq];obtain⟨r0,hr0,Xi,c0⟩:=t.ex u hu;have hs:∃ s,s<p/\∀ r,r<p->R r=true->¬ Cn l s r:=by
       rcases Ai c0 with h|⟨_,h⟩|⟨h,_⟩
       ·refine⟨v,hv,fun r hr er c=>hq ?_⟩
        have:=t.one r r0 hr hr0 er Xi (c.symm.more.trans ((Cn.zT (e:=(u,v)) List.mem_cons_self).symm.trans c0));subst this;exact h.trans c.symm
       ·refine⟨u,hu,fun r hr er c=>hq ?_⟩
        have:=t.one r r0 hr hr0 er Xi (c.symm.more.trans c0);subst this;exact c.trans h.symm
       ·exact absurd h hq
      obtain⟨s,hs,hn⟩:=hs;rw[I0 g1 hs hn]
      lia
end Dt
namespace RM
open Dt
def ps(N:Net):List (Nat×Nat):=(List.range N.n).map fun k=>(N.a k,N.b k)
theorem uB{N:Net}{e:Nat×Nat}:e∈ps N↔∃ k,k<N.n/\e=(N.a k,N.b k):=by
 unfold ps;rw[List.mem_map];exact⟨fun⟨k,h,z⟩=>⟨k,List.mem_range.mp h,z.symm⟩,fun⟨k,h,z⟩=>⟨k,List.mem_range.mpr h,z.symm⟩⟩
theorem Ld(N:Net):(ps N).length=N.n:=by unfold ps;rw[List.length_map,List.length_range]
theorem M0(N:Net):Gd N.p (ps N):=fun e he=>by
 obtain⟨k,hk,rfl⟩:=uB.mp he;exact⟨N.al k hk,N.bl k hk,N.ne k hk⟩
theorem Ja{N:Net}{x y:Nat}:N.jO (fun _=>true) N.n x y↔Cn (ps N) x y:=by
 constructor
 ·intro h
  induction h with
  | refl=>exact .refl
  | fwd _ hj _ ih=>exact .step ih (.inl (uB.mpr ⟨_,hj,rfl⟩))
  | bwd _ hj _ ih=>exact .step ih (.inr (uB.mpr ⟨_,hj,rfl⟩))
 ·intro h
  induction h with
  | refl=>exact .refl
  | step _ e ih =>
    rcases e with e|e
    ·obtain⟨k,hk,z⟩:=uB.mp e;cases z;exact .fwd ih hk rfl
    ·obtain⟨k,hk,z⟩:=uB.mp e;cases z;exact .bwd ih hk rfl
theorem yC{N:Net}{x y:Nat}:N.cG N.n x=N.cG N.n y↔Cn (ps N) x y:=by
 rw[<-Ja];exact Fv
open Classical in
theorem BD{N N1:Net}(hn:N.n=N1.n+1)(hp:N1.p=N.p)(ha:∀ k,k<N1.n->N1.a k=N.a (k+1))(hb:∀ k,k<N1.n->N1.b k=N.b (k+1)):N.ak.length=N1.ak.length+if Cn (ps N1) (N.a 0) (N.b 0) then 1 else 0:=by
 have N' : ∃ N' : Net,N'.n=N1.n+1/\N'.p=N1.p/\(∀ k,k<N1.n->N'.a k=N1.a k)/\(∀ k,k<N1.n->N'.b k=N1.b k)/\N'.a N1.n=N.a 0/\N'.b N1.n=N.b 0:=by
  refine⟨⟨N1.p,N1.n+1,fun k=>if k<N1.n then N1.a k else N.a 0,fun k=>if k<N1.n then N1.b k else N.b 0,fun k _=>?_,fun k _=>?_,fun k _=>?_⟩,rfl,rfl,fun k hk=>if_pos hk,fun k hk=>if_pos hk,if_neg (Nat.lt_irrefl _),if_neg (Nat.lt_irrefl _)⟩
  ·by_cases h:k<N1.n
   ·rw[if_pos h];exact N1.al k h
   ·rw[if_neg h,hp];exact N.al 0 (by lia)
  ·by_cases h:k<N1.n
   ·rw[if_pos h];exact N1.bl k h
   ·rw[if_neg h,hp];exact N.bl 0 (by lia)
  ·by_cases h:k<N1.n
   ·rw[if_pos h,if_pos h];exact N1.ne k h
   ·rw[if_neg h,if_neg h];exact N.ne 0 (by lia)
 obtain⟨N',n1,p1,a1,b1,a2,b2⟩:=N';have ext:Ext N1 N':=⟨n1,p1,a1,b1⟩;have iso:AU N N' (fun i=>if i<N1.n then i+1 else 0) (fun k=>if k=0 then N1.n else k-1):=by
  refine⟨by lia,by rw[p1,hp],fun i hi=>?_,fun i hi=>?_,fun i hi=>?_,fun i hi=>?_,fun i x hi=>?_⟩
  ·(try dsimp only);split<;>lia
  ·(try dsimp only);split<;>lia
  ·(try dsimp only)
   by_cases h:i=0
   ·rw[if_pos h,if_neg (by lia)];lia
   ·rw[if_neg h,if_pos (by lia)];lia
  ·(try dsimp only)
   by_cases h:i<N1.n
   ·rw[if_pos h,if_neg (by lia)];lia
   ·rw[if_neg h,if_pos rfl];lia
  ·unfold Net.inc
   (try dsimp only)
   by_cases h:i<N1.n
   ·rw[if_pos h,a1 i h,b1 i h,ha i h,hb i h]
   ·rw[if_neg h,show i=N1.n by lia,a2,b2]
 rw[<-iso.ak,ext.ak]
 congr 1
 unfold Net.gz;rw[ext.cG _ (Nat.le_refl _),a2,b2]
 by_cases h:Cn (ps N1) (N.a 0) (N.b 0)
 ·rw[if_pos h,eG (yC.mpr h)];rfl
 ·rw[if_neg h,ia fun z=>h (yC.mp z)]
  rfl
end RM
namespace Dt
theorem CS{l:List Nat}(F:Nat->Int):su l.length (fun i=>F (l.getD i 0))=(l.map F).sum:=by
 rw[tI]
 congr 1
 refine List.ext_getElem (by rw[List.length_map,List.length_map,List.length_range]) fun i h1 h2=>?_
 rw[List.length_map]at h2;rw[List.getElem_map,List.getElem_map,List.getElem_range,List.getD_eq_getElem?_getD,List.getElem?_eq_getElem h2];rfl
theorem m3(P:Nat->Bool):∀ l:List Nat,(l.filter (fun x=>!P x)++l.filter P).Perm l
 | []=>List.Perm.refl _
 | x::l=>by
   have ih:=m3 P l;cases h:P x with
   | false =>
     rw[List.filter_cons,if_pos (by rw[h];rfl),List.filter_cons,if_neg (by rw[h];decide)]
     exact ih.cons x
   | true =>
     rw[List.filter_cons,if_neg (by rw[h];decide),List.filter_cons,if_pos h]
     exact List.perm_middle.trans (ih.cons x)
theorem CT(P:Nat->Bool)(n:Nat)(F:Nat->Int):su n F=su ((List.range n).filter fun x=>!P x).length (fun i=>F (((List.range n).filter fun x=>!P x).getD i 0))+su ((List.range n).filter P).length (fun i=>F (((List.range n).filter P).getD i 0)):=by
 rw[CS,CS,<-List.sum_append,<-List.map_append,tI];exact DQ ((m3 P (List.range n)).map F).symm
theorem CU(p:Nat)(l:List (Nat×Nat))(R:Nat->Bool):Dd p l R=det ((List.range p).filter fun x=>!R x).length (fun i j=>bX l (((List.range p).filter fun x=>!R x).getD i 0) (((List.range p).filter fun x=>!R x).getD j 0)):=by
 have pm:=m3 R (List.range p);have hk:∀ x∈(List.range p).filter (fun x=>!R x),R x=false:=fun x hx=>by simpa using(List.mem_filter.mp hx).2
 have hr:∀ x∈(List.range p).filter R,R x=true:=fun x hx=>(List.mem_filter.mp hx).2
 have Xj:((List.range p).filter R).Nodup:=List.Pairwise.filter _ List.nodup_range;generalize (List.range p).filter (fun x=>!R x)=ks at pm hk ⊢
 generalize (List.range p).filter R=rs at pm hr Xj;have len:p=ks.length+rs.length:=by
  have:=pm.length_eq;rw[List.length_append,List.length_range]at this;exact this.symm
 have nd:(ks++rs).Nodup:=pm.nodup_iff.mpr List.nodup_range;have get:∀ i,i<p->∃ h:i<(ks++rs).length,(ks++rs).getD i 0=(ks++rs)[i]:=fun i hi=>by
  have h:i<(ks++rs).length:=by rw[List.length_append];lia
  exact⟨h,by rw[List.getD_eq_getElem?_getD,List.getElem?_eq_getElem h];rfl⟩
 have lt:∀ i,i<p->(ks++rs).getD i 0<p:=fun i hi=>by
  obtain⟨h,e⟩:=get i hi;rw[e];exact List.mem_range.mp (pm.mem_iff.mp (List.getElem_mem h))
 have inj:∀ i j,i<p->j<p->(ks++rs).getD i 0=(ks++rs).getD j 0->i=j:=fun i j hi hj e=>by
  obtain⟨h1,e1⟩:=get i hi;obtain⟨h2,e2⟩:=get j hj;rw[e1,e2]at e;exact(List.getElem_inj nd).mp e
 unfold Dd;rw[<-IV (gM (bX l) R) lt inj];have fk:∀ i,i<ks.length->(ks++rs).getD i 0=ks.getD i 0/\R (ks.getD i 0)=false:=fun i hi=>by
  constructor
  ·rw[List.getD_eq_getElem?_getD,List.getD_eq_getElem?_getD,List.getElem?_append_left hi]
  ·rw[List.getD_eq_getElem?_getD,List.getElem?_eq_getElem hi];exact hk _ (List.getElem_mem hi)
 have fr:∀ i,i<rs.length->(ks++rs).getD (ks.length+i) 0=rs.getD i 0/\R (rs.getD i 0)=true:=fun i hi=>by
  constructor
  ·rw[List.getD_eq_getElem?_getD,List.getD_eq_getElem?_getD,List.getElem?_append_right (by lia),Nat.add_sub_cancel_left]
  ·rw[List.getD_eq_getElem?_getD,List.getElem?_eq_getElem hi];exact hr _ (List.getElem_mem hi)
 generalize hf:(fun i=>(ks++rs).getD i 0)=f
 have QU:∀ i,i<ks.length->f i=ks.getD i 0/\R (ks.getD i 0)=false:=fun i hi=>by rw[<-hf];exact fk i hi
 have QV:∀ i,i<rs.length->f (ks.length+i)=rs.getD i 0/\R (rs.getD i 0)=true:=fun i hi=>by rw[<-hf];exact fr i hi
 have goal:det p (fun r c=>gM (bX l) R (f r) (f c))=det ks.length (fun i j=>bX l (ks.getD i 0) (ks.getD j 0)):=by
  rw[len,nW fun r c h1 h2 h3=>by
   obtain⟨s,hs,rfl⟩:∃ s,s<rs.length/\r=ks.length+s:=⟨r-ks.length,by lia,by lia⟩
   obtain⟨e1,q1⟩:=QV s hs;obtain⟨e2,q2⟩:=QU c h3
   (try dsimp only)
   rw[e1,e2,cP (.inl q1),cA fun z=>by rw[z,q2]at q1;cases q1]]
  have e1:det rs.length (fun r c=>gM (bX l) R (f (ks.length+r)) (f (ks.length+c)))=1:=by
   rw[<-iN rs.length];refine aB fun r c hr hc=>?_
   obtain⟨e1,q1⟩:=QV r hr;obtain⟨e2,q2⟩:=QV c hc;rw[e1,e2,cP (.inl q1)];unfold un
   by_cases h:c=r
   ·rw[if_pos h,if_pos (by rw[h])]
   ·rw[if_neg h,if_neg fun z=>h ?_]
    rw[List.getD_eq_getElem?_getD,List.getD_eq_getElem?_getD,List.getElem?_eq_getElem hr,List.getElem?_eq_getElem hc]at z;exact(List.getElem_inj Xj).mp z
  rw[e1,Int.mul_one];refine aB fun i j hi hj=>?_
  obtain⟨e1,q1⟩:=QU i hi;obtain⟨e2,q2⟩:=QU j hj;rw[e1,e2,ej q1 q2]
 rw[<-goal,<-hf]
theorem Aj(w c:Nat):∀ l l',bX (l++l') w c=bX l w c+bX l' w c
 | [],l'=>by show bX l' w c=0+bX l' w c;lia
 | e::l,l'=>by
   show dl e w*dl e c+bX (l++l') w c=dl e w*dl e c+bX l w c+bX l' w c;rw[Aj w c l l']
   lia
theorem Ak(a b:Nat->Nat)(w c:Nat):∀ n,bX ((List.range n).map fun k=>(a k,b k)) w c=su n fun k=>(un (b k) w-un (a k) w)*(un (b k) c-un (a k) c)
 | 0=>rfl
 | n+1=>by
   rw[List.range_succ,List.map_append,Aj,Ak a b w c n];show _+((un (a n) w-un (b n) w)*(un (a n) c-un (b n) c)+0)=su n _+(un (b n) w-un (a n) w)*(un (b n) c-un (a n) c)
   grind
theorem CV{a b:Nat->Nat}{n t:Nat}(ht:t<n)(v:Nat):fl a b n (un t) v=un (b t) v-un (a t) v:=by
 unfold fl;rw[lX ht fun k=>un (b k) v-un (a k) v]
theorem nX(a b:Nat->Nat)(n:Nat)(x y:Nat->Int)(s:Int)(v:Nat):fl a b n (fun k=>x k+s*y k) v=fl a b n x v+s*fl a b n y v:=by
 have:=uz a b n 1 s x y v;rw[show(fun k=>x k+s*y k)=fun k=>1*x k+s*y k from funext fun k=>by lia,this]
 lia
theorem Jb(k m:Nat)(C:Mx)(b d:Nat->Int):su k (fun s=>su k (fun t=>b t*(un t s+su m fun i=>C i t*C i s))*d s)=su k (fun t=>b t*d t)+su m fun i=>su k (fun t=>C i t*b t)*su k (fun s=>C i s*d s):=by
 have e1:∀ s,s<k->su k (fun t=>b t*(un t s+su m fun i=>C i t*C i s))=b s+su m fun i=>su k (fun t=>C i t*b t)*C i s:=fun s hs=>by
  have e2:su k (fun t=>b t*(un t s+su m fun i=>C i t*C i s))=su k (fun t=>1*(b t*un t s)+1*su m fun i=>C i s*(C i t*b t)):=aC fun t _=>by
   rw[show(su m fun i=>C i s*(C i t*b t))=b t*su m fun i=>C i t*C i s from by rw[<-iG];exact aC fun i _=>by grind]
   grind
  rw[e2,fW,lK hs b,lM (fun i t=>C i s*(C i t*b t)) m k]
  have e3:su m (fun i=>su k fun t=>C i s*(C i t*b t))=su m fun i=>su k (fun t=>C i t*b t)*C i s:=aC fun i _=>by rw[iG,Int.mul_comm]
  rw[e3]
  lia
 have e4:su k (fun s=>su k (fun t=>b t*(un t s+su m fun i=>C i t*C i s))*d s)=su k (fun s=>1*(b s*d s)+1*su m fun i=>su k (fun t=>C i t*b t)*(C i s*d s)):=aC fun s hs=>by
  rw[e1 s hs,show(su m fun i=>su k (fun t=>C i t*b t)*(C i s*d s))=d s*su m fun i=>su k (fun t=>C i t*b t)*C i s from by rw[<-iG];exact aC fun i _=>by grind]
  grind
 rw[e4,fW,lM (fun i s=>su k (fun t=>C i t*b t)*(C i s*d s)) m k]
 have e5:su m (fun i=>su k fun s=>su k (fun t=>C i t*b t)*(C i s*d s))=su m fun i=>su k (fun t=>C i t*b t)*su k fun s=>C i s*d s:=aC fun i _=>iG _ _ _
 rw[e5]
 lia
end Dt
namespace RM
open Dt
variable {N:Net}
def fo(N:Net):Int:=Dd N.p (ps N) fun x=>decide (N.cG N.n x=x)
theorem Le(N:Net):Tr N.p (ps N) fun x=>decide (N.cG N.n x=x):=by
 refine⟨fun x hx=>⟨N.cG N.n x,nR hx,eG (cj _ _),yC.mp (cj (S:=fun _=>true) N.n x).symm⟩,fun r r' _ _ e e' c=>?_⟩
 have:=yC.mpr c;rw[mG e,mG e']at this;exact this
theorem JR{n:Nat}(h:N.n<=n):fo N=(tk n (ps N):Int):=MZ n (ps N) (by rw[Ld];exact h) (M0 N) _ (Le N)
theorem QW(N:Net):∀ k,k<=N.n->∀ x,∃ y:Nat->Int,(∀ q,y q≠0->q<N.n/\N.gz q=true)/\∀ v,fl N.a N.b N.n y v=Dt.un x v-Dt.un (N.cG k x) v:=by
 intro k
 induction k with
 | zero =>
   intro _ x;refine⟨fun _=>0,fun q h=>absurd rfl h,fun v=>?_⟩
   rw[show N.cG 0 x=x from rfl]
   have:fl N.a N.b N.n (fun _=>0) v=0:=dG fun _ _=>Int.zero_mul _
   lia
 | succ k ih =>
   intro hk x;have ih:=ih (by lia)
   rw[mW]
   by_cases hF:N.gz k=true
   ·rw[if_pos hF];unfold join
    by_cases hx:N.cG k x=max (N.cG k (N.a k)) (N.cG k (N.b k))
    ·rw[if_pos hx];obtain⟨yx,x1,x2⟩:=ih x;obtain⟨ya,a1,a2⟩:=ih (N.a k);obtain⟨yb,b1,b2⟩:=ih (N.b k);have fit:∀ s:Int,∀ q,(fun q=>(fun q=>(fun q=>yx q+s*ya q) q+(-s)*yb q) q+s*Dt.un k q) q≠0->q<N.n/\N.gz q=true:=fun s q hq=>by
      refine Classical.byContradiction fun hn=>hq ?_
      have z1:yx q=0:=Classical.byContradiction fun z=>hn (x1 q z)
      have z2:ya q=0:=Classical.byContradiction fun z=>hn (a1 q z)
      have z3:yb q=0:=Classical.byContradiction fun z=>hn (b1 q z)
      have z4:Dt.un k q=0:=by
       refine cA fun z=>hn ?_
       rw[<-z];exact⟨by lia,hF⟩
      dsimp only;rw[z1,z2,z3,z4];simp
     by_cases hc:N.cG k (N.a k)<=N.cG k (N.b k)
     ·refine⟨_,fit 1,fun v=>?_⟩
      rw[nX,nX,nX,x2,a2,b2,CV (by lia),Nat.min_eq_left hc]
      rw[Nat.max_eq_right hc]at hx;rw[hx]
      lia
     ·refine⟨_,fit (-1),fun v=>?_⟩
      rw[nX,nX,nX,x2,a2,b2,CV (by lia),Nat.min_eq_right (by lia)]
      rw[Nat.max_eq_left (by lia)]at hx
      rw[hx]
      lia
    ·rw[if_neg hx];exact ih x
   ·rw[if_neg hF];exact ih x
def kp(N:Net):List Nat:=(List.range N.p).filter fun x=>!decide (N.cG N.n x=x)
def fr(N:Net):List Nat:=(List.range N.n).filter N.gz
theorem GA(N:Net):(kp N).length=(fr N).length:=by
 unfold kp fr;rw[gF,gF];have h1:=lE (N:=N) N.n (Nat.le_refl _);have h2:=qg (fun x=>decide (N.cG N.n x=x)) N.p
 have h3:cnt (N.root (fun _=>true) N.n) N.p=cnt (fun x=>decide (N.cG N.n x=x)) N.p:=rfl
 lia
def Bm(N:Net)(w q:Nat):Int:=Dt.un (N.b q) w-Dt.un (N.a q) w
theorem yD{i:Nat}(hi:i<(kp N).length):(kp N).getD i 0<N.p/\N.cG N.n ((kp N).getD i 0)≠(kp N).getD i 0:=by
 rw[List.getD_eq_getElem?_getD,List.getElem?_eq_getElem hi];obtain⟨h1,h2⟩:=List.mem_filter.mp (List.getElem_mem hi);exact⟨List.mem_range.mp h1,of_decide_eq_false (by simpa using h2)⟩
theorem Lf(N:Net):det (fr N).length (fun r t=>Bm N ((kp N).getD r 0) ((fr N).getD t 0))*det (fr N).length (fun r t=>Bm N ((kp N).getD r 0) ((fr N).getD t 0))=1:=by
 obtain⟨Y,hY⟩:=Classical.axiomOfChoice (QW N N.n (Nat.le_refl _));have e:det (fr N).length (mul (fr N).length (fun r t=>Y ((kp N).getD r 0) ((fr N).getD t 0)) (tr fun r t=>Bm N ((kp N).getD r 0) ((fr N).getD t 0)))=det (fr N).length Dt.un:=aB fun r c hr hc=>by
  rw[<-GA]at hr hc;obtain⟨w1,w2⟩:=yD hr;obtain⟨c1,c2⟩:=yD hc;obtain⟨y1,y2⟩:=hY ((kp N).getD r 0);have e1:=y2 ((kp N).getD c 0);have e2:fl N.a N.b N.n (Y ((kp N).getD r 0)) ((kp N).getD c 0)=su (fr N).length (fun t=>Y ((kp N).getD r 0) ((fr N).getD t 0)*Bm N ((kp N).getD c 0) ((fr N).getD t 0)):=by
   show su N.n (fun q=>Y ((kp N).getD r 0) q*Bm N ((kp N).getD c 0) q)=_
   rw[CT N.gz N.n fun q=>Y ((kp N).getD r 0) q*Bm N ((kp N).getD c 0) q,dG fun i hi=>?_]
   ·show 0+su (fr N).length _=_;exact Int.zero_add _
   ·have hm:((List.range N.n).filter fun x=>!N.gz x).getD i 0∈(List.range N.n).filter fun x=>!N.gz x:=by
     rw[List.getD_eq_getElem?_getD,List.getElem?_eq_getElem hi];exact List.getElem_mem hi
    have hF:=(List.mem_filter.mp hm).2;have z:Y ((kp N).getD r 0) (((List.range N.n).filter fun x=>!N.gz x).getD i 0)=0:=Classical.byContradiction fun z=>by
     rw[(y1 _ z).2]at hF;cases hF
    rw[z,Int.zero_mul]
  show su (fr N).length (fun t=>Y ((kp N).getD r 0) ((fr N).getD t 0)*Bm N ((kp N).getD c 0) ((fr N).getD t 0))=Dt.un r c
  rw[<-e2,e1,cA (a:=N.cG N.n ((kp N).getD r 0)) (b:=(kp N).getD c 0) fun z=>c2 (by rw[<-z];exact cj _ _)]
  unfold Dt.un
  by_cases h:c=r
  ·rw[if_pos h,if_pos (by rw[h])];rfl
  ·rw[if_neg h,if_neg fun z=>h ?_]
   ·rfl
   ·rw[List.getD_eq_getElem?_getD,List.getD_eq_getElem?_getD,List.getElem?_eq_getElem hr,List.getElem?_eq_getElem hc]at z;exact(List.getElem_inj (List.Pairwise.filter _ List.nodup_range)).mp z
 rw[iO,pD,iN]at e;generalize det (fr N).length (fun r t=>Bm N ((kp N).getD r 0) ((fr N).getD t 0))=d at e ⊢
 have:d.natAbs=1:=by
  have:=congrArg Int.natAbs e;rw[Int.natAbs_mul]at this;exact Nat.eq_one_of_mul_eq_one_left this
 have:d=1\/d = -1:=by lia
 rcases this with rfl|rfl<;>rfl
theorem DT{f:Nat->Nat->Int}(hf:∀ i v,i<N.ak.length->v<N.p->fl N.a N.b N.n (f i) v=0)(hu:∀ i j,i<N.ak.length->j<N.ak.length->f i (N.ak.getD j 0)=Dt.un i j):det N.ak.length (fun i j=>su N.n fun q=>f i q*f j q)=fo N:=by
 have sp:∀ F:Nat->Int,su N.n F=su N.ak.length (fun i=>F (N.ak.getD i 0))+su (fr N).length (fun t=>F ((fr N).getD t 0)):=fun F=>CT N.gz N.n F
 have e1:det N.ak.length (fun i j=>su N.n fun q=>f i q*f j q)=det N.ak.length (fun i j=>Dt.un i j+su (fr N).length fun t=>f i ((fr N).getD t 0)*f j ((fr N).getD t 0)):=aB fun i j hi hj=>by
  rw[sp,aC (n:=N.ak.length) (g:=fun l=>Dt.un i l*Dt.un j l) fun l hl=>by rw[hu i l hi hl,hu j l hj hl],lX hi fun l=>Dt.un j l,BC]
 rw[e1,IW N.ak.length (fr N).length fun i t=>f i ((fr N).getD t 0)]
 have hB:∀ i w,i<N.ak.length->w<N.p->Bm N w (N.ak.getD i 0) = - su (fr N).length (fun t=>f i ((fr N).getD t 0)*Bm N w ((fr N).getD t 0)):=fun i w hi hw=>by
  have e2:su N.n (fun q=>f i q*Bm N w q)=0:=hf i w hi hw
  rw[sp,aC (n:=N.ak.length) (g:=fun l=>Dt.un i l*Bm N w (N.ak.getD l 0)) fun l hl=>by rw[hu i l hi hl],lX hi fun l=>Bm N w (N.ak.getD l 0)]at e2
  lia
 unfold fo;rw[CU];show _=det (kp N).length (fun i j=>bX (ps N) ((kp N).getD i 0) ((kp N).getD j 0))
 have e3:det (kp N).length (fun i j=>bX (ps N) ((kp N).getD i 0) ((kp N).getD j 0))=det (fr N).length (mul (fr N).length (mul (fr N).length (fun r t=>Bm N ((kp N).getD r 0) ((fr N).getD t 0)) (fun s t=>Dt.un s t+su N.ak.length fun i=>f i ((fr N).getD s 0)*f i ((fr N).getD t 0))) (tr fun r t=>Bm N ((kp N).getD r 0) ((fr N).getD t 0))):=by
  rw[GA];refine aB fun r c hr hc=>?_
  rw[<-GA]at hr hc;obtain⟨w1,_⟩:=yD hr;obtain⟨c1,_⟩:=yD hc;have e4:=Jb (fr N).length N.ak.length (fun i t=>f i ((fr N).getD t 0)) (fun t=>Bm N ((kp N).getD r 0) ((fr N).getD t 0)) (fun t=>Bm N ((kp N).getD c 0) ((fr N).getD t 0))
  show bX (ps N) _ _=su (fr N).length (fun s=>su (fr N).length (fun t=>Bm N ((kp N).getD r 0) ((fr N).getD t 0)*(Dt.un t s+su N.ak.length fun i=>f i ((fr N).getD t 0)*f i ((fr N).getD s 0)))*Bm N ((kp N).getD c 0) ((fr N).getD s 0))
  rw[e4];unfold ps;rw[Ak];show su N.n (fun q=>Bm N ((kp N).getD r 0) q*Bm N ((kp N).getD c 0) q)=_
  rw[sp,Int.add_comm]
  congr 1
  refine aC fun i hi=>?_
  rw[hB i _ hi w1,hB i _ hi c1]
  grind
 rw[e3,iO,iO,pD,Int.mul_comm,<-Int.mul_assoc,Lf,Int.one_mul]
theorem GB{X:Nat->Nat->Int}(hX:∀ i v,i<N.ak.length->v<N.p->fl N.a N.b N.n (X i) v=0):det N.ak.length (fun i j=>su N.n fun q=>X i q*X j q)=fo N*det N.ak.length (wM N X)*det N.ak.length (wM N X):=by
 obtain⟨f,hf,hu,_,sp⟩:=IU N;have e:det N.ak.length (fun i j=>su N.n fun q=>X i q*X j q)=det N.ak.length (mul N.ak.length (mul N.ak.length (wM N X) (fun i j=>su N.n fun q=>f i q*f j q)) (tr (wM N X))):=aB fun i j hi hj=>by
  show _=su N.ak.length (fun s=>su N.ak.length (fun t=>X i (N.ak.getD t 0)*su N.n fun q=>f t q*f s q)*X j (N.ak.getD s 0))
  have e1:su N.n (fun q=>X i q*X j q)=su N.n fun q=>su N.ak.length fun s=>(X i q*f s q)*X j (N.ak.getD s 0):=aC fun q hq=>by
   have:=sp (X j) (fun v hv=>hX j v hj hv) q hq
   rw[this,<-iG];exact aC fun s _=>by grind
  rw[e1,lM (fun s q=>(X i q*f s q)*X j (N.ak.getD s 0)) N.ak.length N.n]
  refine aC fun s _=>?_
  have e2:su N.n (fun q=>X i q*f s q*X j (N.ak.getD s 0))=X j (N.ak.getD s 0)*su N.n fun q=>X i q*f s q:=by
   rw[<-iG];exact aC fun q _=>by grind
  have e3:su N.n (fun q=>X i q*f s q)=su N.n fun q=>su N.ak.length fun t=>X i (N.ak.getD t 0)*(f t q*f s q):=aC fun q hq=>by
   have:=sp (X i) (fun v hv=>hX i v hi hv) q hq
   rw[this,Int.mul_comm,<-iG];exact aC fun t _=>by grind
  rw[e2,e3,lM (fun t q=>X i (N.ak.getD t 0)*(f t q*f s q)) N.ak.length N.n,Int.mul_comm]
  congr 1
  exact aC fun t _=>iG _ _ _
 rw[e,iO,iO,pD,DT hf hu]
 grind
end RM
namespace L2
open PySem
theorem pG{lo:Int}{n:Nat}{g:TG}{tb:TS}{D:Ends}{σ:St}{H:Hp}(Pv:Nat->St->Hp->Prop)(h0:Pv 0 σ H)
 (hs:∀ i,let D' : Ends:={ D with nx:=Pv (i+1),ct:=Pv (i+1),bk:=D.nx};∀ σ H,i<n->Pv i σ H->g (.int (lo+i)) σ H fun σ2 H2=>tb D' σ2 H2) (hd:∀ σ H,Pv n σ H->D.nx σ H) :
 ∃ W:Nat->Nat->St->Hp->Prop,(∃ m,W 0 m σ H)/\∀ i m σ H,W i m σ H->
   ((ES lo n).stop i H/\D.nx σ H)\/((ES lo n).go i H/\∃ N:St->Hp->Prop,(∀ σ' H',N σ' H'->∃ m',m'<m/\W (i+1) m' σ' H')/\∀ x H',(ES lo n).HG i H x H'->g x σ H' fun σ2 H2=>tb { D with nx:=N,ct:=N,bk:=D.nx} σ2 H2) :=
 iY Pv h0 (fun i σ H hi p=>hs i σ H hi p) hd
theorem i3{K:bY}{a:Addr}{xs:List V}{g:TG}{tb:TS}{D:Ends}{σ:St}{H:Hp}(Pv:Nat->St->Hp->Prop)(h0:Pv 0 σ H)(hl:∀ i σ H,i<=xs.length->Pv i σ H->aW K H a xs)
 (hs:∀ i x,let D' : Ends:={ D with nx:=Pv (i+1),ct:=Pv (i+1),bk:=D.nx};∀ σ H,xs[i]?=some x->Pv i σ H->g x σ H fun σ2 H2=>tb D' σ2 H2) (hd:∀ σ H,Pv xs.length σ H->D.nx σ H) :
 ∃ W:Nat->Nat->St->Hp->Prop,(∃ m,W 0 m σ H)/\∀ i m σ H,W i m σ H->
   ((HJ K a).stop i H/\D.nx σ H)\/((HJ K a).go i H/\∃ N:St->Hp->Prop,(∀ σ' H',N σ' H'->∃ m',m'<m/\W (i+1) m' σ' H')/\∀ x H',(HJ K a).HG i H x H'->g x σ H' fun σ2 H2=>tb { D with nx:=N,ct:=N,bk:=D.nx} σ2 H2) :=
 tS Pv h0 hl (fun i x σ H hi p=>hs i x σ H hi p) hd
theorem Lg{X:Cx}{e:Expr}{T:String}{r:V->List V->Hp->VK->Prop}{to:TE}{t:TA}(K:bY)(p:PE X e (P8 X.K T r to t))(h:X.K=K:=by rfl):PE X e (P8 K T r to t):=by subst h;exact p
theorem fN{K:bY}{H:Hp}{a:Addr}{xs:List V}{k:Int}{v:V}{R:V->Prop}(hs:bI K H a xs)(ha:E2 xs k=some v)(q:R v):∃ p ys k' w,V.ref a = .ref p/\V.int k = .int k'/\bI K H p ys/\E2 ys k' = some w/\R w:=⟨a,xs,k,v,rfl,rfl,hs,ha,q⟩
theorem nY{K:bY}{H:Hp}{a:Addr}{xs:List V}{k:Int}{v:V}{R:V->Prop}(hs:aW K H a xs)(ha:E2 xs k=some v)(q:R v):∃ p ys k' w,V.ref a = .ref p/\V.int k = .int k'/\aW K H p ys/\E2 ys k' = some w/\R w:=⟨a,xs,k,v,rfl,rfl,hs,ha,q⟩
theorem cE{i j:Int}{R:Int->Int->Prop}(h:R i j):∃ i' j',V.int i = .int i'/\V.int j = .int j'/\R i' j':=⟨i,j,rfl,rfl,h⟩
theorem tK{K:bY}{H:Hp}{a:Addr}{xs:List V}{E:Addr->Prop}{R:List V->Prop}(e:E a)(h:aW K H a xs\/bI K H a xs)(q:R xs):∃ p ys,E p/\(aW K H p ys\/bI K H p ys)/\R ys:=⟨a,xs,e,h,q⟩
theorem ao{α:Type}{A R:α->Prop}{x:α}(h:A x)(r:R x):∃ x,A x/\R x:=⟨x,h,r⟩
open PySem PySem.Spec PyProof.Rows
end L2
set_option maxHeartbeats 4000000
namespace K50
open PySem L2 Ring
def top(i:Nat):Stmt:=PySem.Challenge.pw_ringbase_k50_whole_rings_count_forests.main.body.getD i (.Pass ⟨0,0,0,0⟩)
abbrev i4:Stmt:=top 8
theorem BE:aI ["tie_set","tie"] ["tie_set","tie"] (ae i4):=⟨rfl,rfl,rfl,by decide +kernel,rfl,by decide +kernel,by decide +kernel⟩
abbrev gH:Stmt:=top 9
theorem BF:aI ["tie_set"] ["tie_set"] (ae gH):=⟨rfl,rfl,rfl,by decide +kernel,rfl,by decide +kernel,by decide +kernel⟩
abbrev gI:Stmt:=top 10
theorem Am:aI ["web"] ["web"] (ae gI):=⟨rfl,rfl,rfl,by decide +kernel,rfl,by decide +kernel,by decide +kernel⟩
abbrev kC:Stmt:=top 11
theorem DU:aI ["web","number"] ["web","number"] (ae kC):=⟨rfl,rfl,rfl,by decide +kernel,rfl,by decide +kernel,by decide +kernel⟩
abbrev fD:Stmt:=top 12
theorem yE:aI ["web","tie_set"] ["web","tie_set"] (ae fD):=⟨rfl,rfl,rfl,by decide +kernel,rfl,by decide +kernel,by decide +kernel⟩
theorem yF{cQ:TS}{jH:TT}{D:Ends}{σ:St}{H:Hp}(h:let cR:TS:=cQ;(dB jH cR bG) D σ H):(dB jH cQ bG) D σ H:=h
abbrev dH:Stmt:=top 13
theorem vG:aI ["web","tie_set"] ["web","tie_set"] (ae dH):=⟨rfl,rfl,rfl,by decide +kernel,rfl,by decide +kernel,by decide +kernel⟩
theorem vH{cQ dw:TS}{D:Ends}{σ:St}{H:Hp}(h:let cR:TS:=cQ;(ay dw cR) D σ H):(ay dw cQ) D σ H:=h
abbrev dI:Stmt:=top 14
theorem eV:aI ["web","tie_set","ends","one","other","length"] ["web","tie_set"] (ae dI):=⟨rfl,rfl,rfl,by decide +kernel,rfl,by decide +kernel,by decide +kernel⟩
theorem vI{cQ dw ir m4:TS}{lY:TI}{lZ:TG}{D:Ends}{σ:St}{H:Hp}(h:let cR:TS:=cQ;let fE:TS:=dw;let iI:TS:=(ay ir fE);let mh:TS:=(ay (d9 lY lZ iI) cR);(ay m4 mh) D σ H):(ay m4 (ay (d9 lY lZ (ay ir dw)) cQ)) D σ H:=h
abbrev bL:Stmt:=top 15
theorem fX:aI ["leasts","one","other","low","high"] ["leasts","one","other"] (ae bL):=⟨rfl,rfl,rfl,by decide +kernel,rfl,by decide +kernel,by decide +kernel⟩
theorem qv{cQ dw ir:TS}{D:Ends}{σ:St}{H:Hp}(h:let cR:TS:=cQ;let fE:TS:=(ay dw cR);(ay ir fE) D σ H):(ay ir (ay dw cQ)) D σ H:=h
abbrev jo:Stmt:=top 16
theorem fF:aI ["web","tie_set","leasts","one","other","length","found","start"] ["web","tie_set"] (ae jo):=⟨rfl,rfl,rfl,by decide +kernel,rfl,by decide +kernel,by decide +kernel⟩
theorem DV{cQ dw ir m4 qw:TS}{jH:TT}{lY GC:TI}{lZ GD:TG}{D:Ends}{σ:St}{H:Hp}(h:let cR:TS:=cQ;let fE:TS:=dw;let iI:TS:=(dB jH fE bG);let mh:TS:=(ay (d9 lY lZ iI) cR);let sD:TS:=(ay ir mh);let sE:TS:=m4;let uC:TS:=(ay (d9 GC GD sE) sD);(ay qw uC) D σ H):(ay qw (ay (d9 GC GD m4) (ay ir (ay (d9 lY lZ (dB jH dw bG)) cQ)))) D σ H:=h
abbrev rM:Stmt:=top 17
theorem Jc:aI ["web"] ["web"] (ae rM):=⟨rfl,rfl,rfl,by decide +kernel,rfl,by decide +kernel,by decide +kernel⟩
abbrev i5:Stmt:=top 19
theorem BG:aI ["web","tie_set"] ["web","tie_set"] (ae i5):=⟨rfl,rfl,rfl,by decide +kernel,rfl,by decide +kernel,by decide +kernel⟩
abbrev bT:Stmt:=top 20
theorem bu:aI ["web","leasts","trails","tie","one","other","bridge","moved"] ["web"] (ae bT):=⟨rfl,rfl,rfl,by decide +kernel,rfl,by decide +kernel,by decide +kernel⟩
theorem rN{cQ dw ir m4 qw uD CW CY CZ:TS}{jH:TT}{lY:TI}{lZ:TG}{D:Ends}{σ:St}{H:Hp}(h:let cR:TS:=cQ;let fE:TS:=dw;let iI:TS:=(ay ir fE);let mh:TS:=(ay m4 iI);let sD:TS:=(ay qw mh);let sE:TS:=(dB jH sD bG);let uC:TS:=(ay uD sE);let C1:TS:=(ay CW uC);let C2:TS:=(ay (d9 lY lZ C1) cR);let C3:TS:=(ay CY C2);(ay CZ C3) D σ H):(ay CZ (ay CY (ay (d9 lY lZ (ay CW (ay uD (dB jH (ay qw (ay m4 (ay ir dw))) bG)))) cQ))) D σ H:=h
abbrev kD:Stmt:=top 21
theorem nZ:aI ["web","found","trail"] ["web"] (ae kD):=⟨rfl,rfl,rfl,by decide +kernel,rfl,by decide +kernel,by decide +kernel⟩
theorem DW{cQ dw ir:TS}{lY:TI}{lZ:TG}{D:Ends}{σ:St}{H:Hp}(h:let cR:TS:=cQ;let fE:TS:=dw;let iI:TS:=(ay (d9 lY lZ fE) cR);(ay ir iI) D σ H):(ay ir (ay (d9 lY lZ dw) cQ)) D σ H:=h
abbrev kE:Stmt:=top 22
theorem DX:aI ["web"] ["web"] (ae kE):=⟨rfl,rfl,rfl,by decide +kernel,rfl,by decide +kernel,by decide +kernel⟩
abbrev dR:Stmt:=top 23
theorem m5:aI ["web","trails","chord","tie"] ["web","trails","chord"] (ae dR):=⟨rfl,rfl,rfl,by decide +kernel,rfl,by decide +kernel,by decide +kernel⟩
theorem uE{cQ dw:TS}{D:Ends}{σ:St}{H:Hp}(h:let cR:TS:=cQ;(ay dw cR) D σ H):(ay dw cQ) D σ H:=h
abbrev eK:Stmt:=top 24
theorem vJ:aI ["web","tie"] ["web","tie"] (ae eK):=⟨rfl,rfl,rfl,by decide +kernel,rfl,by decide +kernel,by decide +kernel⟩
theorem vK{cQ dw:TS}{jH:TT}{D:Ends}{σ:St}{H:Hp}(h:let cR:TS:=cQ;let fE:TS:=dw;(ay (dB jH fE bG) cR) D σ H):(ay (dB jH dw bG) cQ) D σ H:=h
abbrev gJ:Stmt:=top 26
theorem uF:aI ["web","tie_set","touched"] ["web","tie_set"] (ae gJ):=⟨rfl,rfl,rfl,by decide +kernel,rfl,by decide +kernel,by decide +kernel⟩
theorem BH{cQ dw ir:TS}{jH:TT}{D:Ends}{σ:St}{H:Hp}(h:let cR:TS:=cQ;let fE:TS:=(ay dw cR);let iI:TS:=ir;(ay (dB jH iI bG) fE) D σ H):(ay (dB jH ir bG) (ay dw cQ)) D σ H:=h
abbrev eM:Stmt:=top 27
theorem vL:aI ["web","ring"] ["web","ring"] (ae eM):=⟨rfl,rfl,rfl,by decide +kernel,rfl,by decide +kernel,by decide +kernel⟩
theorem vM{cQ:TS}{jH:TT}{D:Ends}{σ:St}{H:Hp}(h:let cR:TS:=cQ;(dB jH cR bG) D σ H):(dB jH cQ bG) D σ H:=h
abbrev jq:Stmt:=top 28
theorem DY:aI ["web","tie_set","point"] ["web","tie_set","point"] (ae jq):=⟨rfl,rfl,rfl,by decide +kernel,rfl,by decide +kernel,by decide +kernel⟩
abbrev i6:Stmt:=top 29
theorem uG:aI ["web","tie","point","ends"] ["web","tie","point"] (ae i6):=⟨rfl,rfl,rfl,by decide +kernel,rfl,by decide +kernel,by decide +kernel⟩
theorem BI{cQ dw:TS}{D:Ends}{σ:St}{H:Hp}(h:let cR:TS:=cQ;(ay dw cR) D σ H):(ay dw cQ) D σ H:=h
abbrev kF:Stmt:=top 30
theorem fG:aI ["web","ring","first","walk","point","left","tie"] ["web","ring"] (ae kF):=⟨rfl,rfl,rfl,by decide +kernel,rfl,by decide +kernel,by decide +kernel⟩
theorem DZ{cQ dw ir m4 qw uD CW CY CZ JS:TS}{jH:TT}{D:Ends}{σ:St}{H:Hp}(h:let cR:TS:=cQ;let fE:TS:=dw;let iI:TS:=(ay ir fE);let mh:TS:=(ay m4 iI);let sD:TS:=(ay qw mh);let sE:TS:=(ay (A4 jH sD) cR);let uC:TS:=(ay uD sE);let C1:TS:=(ay CW uC);let C2:TS:=(ay CY C1);let C3:TS:=(ay CZ C2);(ay JS C3) D σ H):(ay JS (ay CZ (ay CY (ay CW (ay uD (ay (A4 jH (ay qw (ay m4 (ay ir dw)))) cQ)))))) D σ H:=h
abbrev dS:Stmt:=top 32
theorem m6:aI ["rows","step","place"] ["rows","step"] (ae dS):=⟨rfl,rfl,rfl,by decide +kernel,rfl,by decide +kernel,by decide +kernel⟩
theorem uH{cQ dw:TS}{jH:TT}{lY:TI}{lZ:TG}{D:Ends}{σ:St}{H:Hp}(h:let cR:TS:=cQ;let fE:TS:=dw;let iI:TS:=(dB jH fE bG);(ay (d9 lY lZ iI) cR) D σ H):(ay (d9 lY lZ (dB jH dw bG)) cQ) D σ H:=h
abbrev cX:Stmt:=top 33
theorem uI:aI ["row","lead_row","step","divisor"] ["row","lead_row","step","divisor"] (ae cX):=⟨rfl,rfl,rfl,by decide +kernel,rfl,by decide +kernel,by decide +kernel⟩
abbrev dU:Stmt:=top 34
theorem bz:aI ["table","rows","sign","divisor","step","place","lead_row","below"] ["table"] (ae dU):=⟨rfl,rfl,rfl,by decide +kernel,rfl,by decide +kernel,by decide +kernel⟩
theorem uJ{cQ dw ir m4 qw uD CW CY CZ JS M1 M3:TS}{jH GF:TT}{lY GC:TI}{lZ GD:TG}{D:Ends}{σ:St}{H:Hp}(h:let cR:TS:=cQ;let fE:TS:=dw;let iI:TS:=ir;let mh:TS:=(ay (d9 GC GD iI) fE);let sD:TS:=m4;let sE:TS:=(ay qw sD);let uC:TS:=(ay uD sE);let C1:TS:=(ay CW uC);let C2:TS:=(ay (dB jH C1 bG) mh);let C3:TS:=CY;let An:TS:=(ay (dB GF C3 bG) C2);let Ao:TS:=(ay CZ An);let GG:TS:=(ay (d9 lY lZ Ao) cR);let M4:TS:=(ay JS GG);let M5:TS:=(ay M1 M4);(ay M3 M5) D σ H):(ay M3 (ay M1 (ay JS (ay (d9 lY lZ (ay CZ (ay (dB GF CY bG) (ay (dB jH (ay CW (ay uD (ay qw m4))) bG) (ay (d9 GC GD ir) dw))))) cQ)))) D σ H:=h
abbrev i7:Stmt:=top 35
theorem lN:aI ["web","ring","ways","tie","way"] ["web","ring"] (ae i7):=⟨rfl,rfl,rfl,by decide +kernel,rfl,by decide +kernel,by decide +kernel⟩
theorem BJ{cQ dw ir:TS}{lY:TI}{lZ:TG}{D:Ends}{σ:St}{H:Hp}(h:let cR:TS:=cQ;let fE:TS:=dw;let iI:TS:=(ay (d9 lY lZ fE) cR);(ay ir iI) D σ H):(ay ir (ay (d9 lY lZ dw) cQ)) D σ H:=h
abbrev dJ:Stmt:=top 36
theorem vN:aI ["one","other"] ["one","other"] (ae dJ):=⟨rfl,rfl,rfl,by decide +kernel,rfl,by decide +kernel,by decide +kernel⟩
abbrev cS:Stmt:=top 37
theorem gZ:aI ["web","rings","ways","table","one"] ["web","rings"] (ae cS):=⟨rfl,rfl,rfl,by decide +kernel,rfl,by decide +kernel,by decide +kernel⟩
theorem vO{cQ dw ir m4:TS}{lY:TI}{lZ:TG}{D:Ends}{σ:St}{H:Hp}(h:let cR:TS:=cQ;let fE:TS:=dw;let iI:TS:=(ay (d9 lY lZ fE) cR);let mh:TS:=(ay ir iI);(ay m4 mh) D σ H):(ay m4 (ay ir (ay (d9 lY lZ dw) cQ))) D σ H:=h
abbrev dM:Stmt:=top 38
theorem eW:aI ["web","rings","crossed","table","ring","ways"] ["web","rings"] (ae dM):=⟨rfl,rfl,rfl,by decide +kernel,rfl,by decide +kernel,by decide +kernel⟩
theorem vP{cQ dw ir m4 qw uD:TS}{jH:TT}{lY:TI}{lZ:TG}{D:Ends}{σ:St}{H:Hp}(h:let cR:TS:=cQ;let fE:TS:=dw;let iI:TS:=(ay ir fE);let mh:TS:=(ay (d9 lY lZ iI) cR);let sD:TS:=(ay m4 mh);let sE:TS:=(ay qw sD);let uC:TS:=uD;(ay (dB jH uC bG) sE) D σ H):(ay (dB jH uD bG) (ay qw (ay m4 (ay (d9 lY lZ (ay ir dw)) cQ)))) D σ H:=h
abbrev cB:Stmt:=top 41
theorem sU:aI ["web","one","other"] ["web","one","other"] (ae cB):=⟨rfl,rfl,rfl,by decide +kernel,rfl,by decide +kernel,by decide +kernel⟩
abbrev bA:Stmt:=top 42
theorem cI:aI ["web","leasts","kept","table","one","counts"] ["web"] (ae bA):=⟨rfl,rfl,rfl,by decide +kernel,rfl,by decide +kernel,by decide +kernel⟩
theorem sV{cQ dw ir m4 qw uD:TS}{lY:TI}{lZ:TG}{D:Ends}{σ:St}{H:Hp}(h:let cR:TS:=cQ;let fE:TS:=dw;let iI:TS:=(ay ir fE);let mh:TS:=(ay (d9 lY lZ iI) cR);let sD:TS:=(ay m4 mh);let sE:TS:=(ay qw sD);(ay uD sE) D σ H):(ay uD (ay qw (ay m4 (ay (d9 lY lZ (ay ir dw)) cQ)))) D σ H:=h
abbrev dW:Stmt:=top 43
theorem uK:aI ["web"] ["web"] (ae dW):=⟨rfl,rfl,rfl,by decide +kernel,rfl,by decide +kernel,by decide +kernel⟩
abbrev fH:Stmt:=top 44
theorem yG:aI ["web"] ["web"] (ae fH):=⟨rfl,rfl,rfl,by decide +kernel,rfl,by decide +kernel,by decide +kernel⟩
theorem yH{cQ:TS}{jH:TT}{D:Ends}{σ:St}{H:Hp}(h:let cR:TS:=cQ;(dB jH cR bG) D σ H):(dB jH cQ bG) D σ H:=h
abbrev fJ:Stmt:=top 45
theorem yI:aI ["end","one","other"] ["end","one","other"] (ae fJ):=⟨rfl,rfl,rfl,by decide +kernel,rfl,by decide +kernel,by decide +kernel⟩
abbrev bh:Stmt:=top 46
theorem gA:aI ["web","one","other","ties"] ["web","one","other"] (ae bh):=⟨rfl,rfl,rfl,by decide +kernel,rfl,by decide +kernel,by decide +kernel⟩
theorem mE{cQ dw:TS}{D:Ends}{σ:St}{H:Hp}(h:let cR:TS:=cQ;(ay dw cR) D σ H):(ay dw cQ) D σ H:=h
abbrev dX:Stmt:=top 47
theorem ez:aI ["web","first","without","many"] ["web"] (ae dX):=⟨rfl,rfl,rfl,by decide +kernel,rfl,by decide +kernel,by decide +kernel⟩
theorem uL{cQ dw ir m4 qw uD:TS}{jH GF:TT}{D:Ends}{σ:St}{H:Hp}(h:let cR:TS:=cQ;let fE:TS:=dw;let iI:TS:=(ay (dB jH fE bG) cR);let mh:TS:=(ay ir iI);let sD:TS:=(ay m4 mh);let sE:TS:=(ay qw sD);let uC:TS:=uD;(ay (dB GF uC bG) sE) D σ H):(ay (dB GF uD bG) (ay qw (ay m4 (ay ir (ay (dB jH dw bG) cQ))))) D σ H:=h
abbrev bH:Stmt:=top 48
theorem m7:aI ["web"] ["web"] (ae bH):=⟨rfl,rfl,rfl,by decide +kernel,rfl,by decide +kernel,by decide +kernel⟩
theorem m8{cQ dw:TS}{D:Ends}{σ:St}{H:Hp}(h:let cR:TS:=cQ;(ay dw cR) D σ H):(ay dw cQ) D σ H:=h
abbrev gK:Stmt:=top 50
theorem Aq:aI ["script","k"] ["script","k"] (ae gK):=⟨rfl,rfl,rfl,by decide +kernel,rfl,by decide +kernel,by decide +kernel⟩
theorem Ar{cQ dw:TS}{jH:TT}{D:Ends}{σ:St}{H:Hp}(h:let cR:TS:=cQ;let fE:TS:=dw;(ay (dB jH fE bG) cR) D σ H):(ay (dB jH dw bG) cQ) D σ H:=h
abbrev gO:Stmt:=top 51
theorem m9:aI ["cell","k","near"] ["cell","k"] (ae gO):=⟨rfl,rfl,rfl,by decide +kernel,rfl,by decide +kernel,by decide +kernel⟩
theorem As{cQ dw ir:TS}{D:Ends}{σ:St}{H:Hp}(h:let cR:TS:=cQ;let fE:TS:=(ay dw cR);(ay ir fE) D σ H):(ay ir (ay dw cQ)) D σ H:=h
abbrev i8:Stmt:=top 52
theorem jr:aI ["c","points","times","one","other"] ["c","points","times"] (ae i8):=⟨rfl,rfl,rfl,by decide +kernel,rfl,by decide +kernel,by decide +kernel⟩
theorem BK{cQ dw ir m4 qw:TS}{D:Ends}{σ:St}{H:Hp}(h:let cR:TS:=cQ;let fE:TS:=(ay dw cR);let iI:TS:=(ay ir fE);let mh:TS:=(ay m4 iI);(ay qw mh) D σ H):(ay qw (ay m4 (ay ir (ay dw cQ)))) D σ H:=h
abbrev i9:Stmt:=top 53
theorem cY:aI ["script","most","head","points","times","ties","c","k","tie"] ["script","most"] (ae i9):=⟨rfl,rfl,rfl,by decide +kernel,rfl,by decide +kernel,by decide +kernel⟩
theorem BL{cQ dw ir m4 qw uD CW CY CZ:TS}{jH GF:TT}{lY GC:TI}{lZ GD:TG}{D:Ends}{σ:St}{H:Hp}(h:let cR:TS:=cQ;let fE:TS:=dw;let iI:TS:=(d9 lY lZ fE);let mh:TS:=(ay (dB jH iI bG) cR);let sD:TS:=ir;let sE:TS:=(ay m4 sD);let uC:TS:=(d9 GC GD sE);let C1:TS:=(ay qw uC);let C2:TS:=(ay (dB GF C1 bG) mh);let C3:TS:=(ay uD C2);let An:TS:=(ay CW C3);let Ao:TS:=(ay CY An);(ay CZ Ao) D σ H):(ay CZ (ay CY (ay CW (ay uD (ay (dB GF (ay qw (d9 GC GD (ay m4 ir))) bG) (ay (dB jH (d9 lY lZ dw) bG) cQ)))))) D σ H:=h
abbrev fj:Stmt:=top 54
theorem Au:aI ["some"] ["some"] (ae fj):=⟨rfl,rfl,rfl,by decide +kernel,rfl,by decide +kernel,by decide +kernel⟩
abbrev gP:Stmt:=top 55
theorem lO:aI ["web","some","ends","tie","point"] ["web","some"] (ae gP):=⟨rfl,rfl,rfl,by decide +kernel,rfl,by decide +kernel,by decide +kernel⟩
theorem BN{cQ dw ir:TS}{lY GC:TI}{lZ GD:TG}{D:Ends}{σ:St}{H:Hp}(h:let cR:TS:=cQ;let fE:TS:=dw;let iI:TS:=(d9 GC GD fE);let mh:TS:=(ay (d9 lY lZ iI) cR);(ay ir mh) D σ H):(ay ir (ay (d9 lY lZ (d9 GC GD dw)) cQ)) D σ H:=h
abbrev cT:Stmt:=top 56
theorem qx:aI ["web","evens"] ["web"] (ae cT):=⟨rfl,rfl,rfl,by decide +kernel,rfl,by decide +kernel,by decide +kernel⟩
theorem yJ{cQ dw:TS}{D:Ends}{σ:St}{H:Hp}(h:let cR:TS:=cQ;(ay dw cR) D σ H):(ay dw cQ) D σ H:=h
abbrev nc:Stmt:=top 57
theorem ng:aI ["script","web","many","own","all_of","turn","rings","worth"] ["script"] (ae nc):=⟨rfl,rfl,rfl,by decide +kernel,rfl,by decide +kernel,by decide +kernel⟩
theorem Lh{cQ dw ir m4 qw uD CW CY CZ JS:TS}{jH GF OG:TT}{lY:TI}{lZ:TG}{D:Ends}{σ:St}{H:Hp}(h:let cR:TS:=cQ;let fE:TS:=dw;let iI:TS:=(dB jH fE bG);let mh:TS:=(ay ir iI);let sD:TS:=(ay m4 mh);let sE:TS:=(ay (d9 lY lZ sD) cR);let uC:TS:=(ay qw sE);let C1:TS:=uD;let C2:TS:=(ay (dB GF C1 bG) uC);let C3:TS:=(ay CW C2);let An:TS:=CY;let Ao:TS:=(ay (dB OG An bG) C3);let GG:TS:=(ay CZ Ao);(ay JS GG) D σ H):(ay JS (ay CZ (ay (dB OG CY bG) (ay CW (ay (dB GF uD bG) (ay qw (ay (d9 lY lZ (ay m4 (ay ir (dB jH dw bG)))) cQ))))))) D σ H:=h
set_option genInjectivity false
set_option genSizeOf false
structure yK where
 kG:Addr
 n6:FuncData
 eN:Addr
 fK:FuncData
 eA:Addr
 fm:FuncData
 nh:Addr
 qz:FuncData
 iu:Addr
 jI:FuncData
 eO:Addr
 fY:FuncData
 fZ:Addr
 iP:FuncData
 cu:Addr
 dj:FuncData
 jt:Addr
 kH:FuncData
 pH:Addr
 rO:FuncData
 kI:Addr
 n8:FuncData
 cJ:Addr
 dN:FuncData
 ni:Addr
 qA:FuncData
 ju:Addr
 kJ:FuncData
 eX:Addr
 g6:FuncData
 gb:Addr
 iQ:FuncData
 kK:Addr
 oh:FuncData
 gc:Addr
 iR:FuncData
 nj:Addr
 qC:FuncData
 kL:Addr
 oi:FuncData
 nk:Addr
 qD:FuncData
 eY:Addr
 g7:FuncData
 eZ:Addr
 g8:FuncData
 cZ:Addr
 dY:FuncData
 ja:Addr
 kM:FuncData
 gh:Addr
 iS:FuncData
 gi:Addr
 iT:FuncData
 gj:Addr
 iU:FuncData
 eB:Addr
 gk:FuncData
 eE:Addr
 gm:FuncData
 ff:Addr
 g9:FuncData
 iw:Addr
 jJ:FuncData
 iy:Addr
 jK:FuncData
 bO:Addr
 cU:FuncData
 dc:Addr
 dZ:FuncData
 bV:Addr
 di:FuncData
 gQ:Addr
 jv:FuncData
 gR:Addr
 jw:FuncData
 kN:Addr
 oj:FuncData
 kO:Addr
 om:FuncData
 jx:Addr
 lP:FuncData
 kP:Addr
 oq:FuncData
 iz:Addr
 jL:FuncData
 GH:Addr
 GI:FuncData
 bj:Addr
 dm:Addr
 ou:Addr
 Av:Addr
 jb:Addr
structure Txt(K:bY)(mg:jY)(a:yK):Prop where
 xm:iE K "has_tie" "has_tie" i4 a.kG a.n6
 D6:mg "has_tie"=some (.ref a.kG)
 D7:Binds K a.n6 ["tie_set","tie"] []
 xn:iE K "ties_in" "ties_in" gH a.eN a.fK
 kQ:mg "ties_in"=some (.ref a.eN)
 kR:Binds K a.fK ["tie_set"] []
 uM:iE K "all_ties" "all_ties" gI a.eA a.fm
 lQ:mg "all_ties"=some (.ref a.eA)
 lR:Binds K a.fm ["web"] []
 Aw:iE K "is_set" "is_set" kC a.nh a.qz
 GJ:mg "is_set"=some (.ref a.nh)
 GK:Binds K a.qz ["web","number"] []
 sF:iE K "check_set" "check_set" fD a.iu a.jI
 Ax:mg "check_set"=some (.ref a.iu)
 Ay:Binds K a.jI ["web","tie_set"] []
 qF:iE K "triples_in" "triples_in" dH a.eO a.fY
 qG:mg "triples_in"=some (.ref a.eO)
 qH:Binds K a.fY ["web","tie_set"] []
 qI:iE K "odd_points" "odd_points" dI a.fZ a.iP
 yL:mg "odd_points"=some (.ref a.fZ)
 yM:Binds K a.iP ["web","tie_set"] []
 kT:iE K "drawn_together" "drawn_together" bL a.cu a.dj
 kU:mg "drawn_together"=some (.ref a.cu)
 kW:Binds K a.dj ["leasts","one","other"] []
 Az:iE K "pieces" "pieces" jo a.jt a.kH
 uN:mg "pieces"=some (.ref a.jt)
 uO:Binds K a.kH ["web","tie_set"] []
 GL:iE K "rank" "rank" rM a.pH a.rO
 yN:mg "rank"=some (.ref a.pH)
 yO:Binds K a.rO ["web"] []
 xo:iE K "is_even" "is_even" i5 a.kI a.n8
 D8:mg "is_even"=some (.ref a.kI)
 D9:Binds K a.n8 ["web","tie_set"] []
 mj:iE K "forest_trails" "forest_trails" bT a.cJ a.dN
 mq:mg "forest_trails"=some (.ref a.cJ)
 mw:Binds K a.dN ["web"] []
 AA:iE K "forest" "forest" kD a.ni a.qA
 GN:mg "forest"=some (.ref a.ni)
 GO:Binds K a.qA ["web"] []
 AB:iE K "chords" "chords" kE a.ju a.kJ
 uP:mg "chords"=some (.ref a.ju)
 uQ:Binds K a.kJ ["web"] []
 oK:iE K "ring_closed" "ring_closed" dR a.eX a.g6
 vQ:mg "ring_closed"=some (.ref a.eX)
 vR:Binds K a.g6 ["web","trails","chord"] []
 qJ:iE K "chord_ring" "chord_ring" eK a.gb a.iQ
 yP:mg "chord_ring"=some (.ref a.gb)
 yQ:Binds K a.iQ ["web","tie"] []
 xq:iE K "is_ring" "is_ring" gJ a.kK a.oh
 Ea:mg "is_ring"=some (.ref a.kK)
 Eb:Binds K a.oh ["web","tie_set"] []
 qK:iE K "check_ring" "check_ring" eM a.gc a.iR
 yR:mg "check_ring"=some (.ref a.gc)
 yS:Binds K a.iR ["web","ring"] []
 AD:iE K "tie_at" "tie_at" jq a.nj a.qC
 GP:mg "tie_at"=some (.ref a.nj)
 GQ:Binds K a.qC ["web","tie_set","point"] []
 xr:iE K "far_end" "far_end" i6 a.kL a.oi
 Ec:mg "far_end"=some (.ref a.kL)
 Ed:Binds K a.oi ["web","tie","point"] []
 AE:iE K "walked" "walked" kF a.nk a.qD
 GR:mg "walked"=some (.ref a.nk)
 GS:Binds K a.qD ["web","ring"] []
 oM:iE K "row_to_lead" "row_to_lead" dS a.eY a.g7
 vS:mg "row_to_lead"=some (.ref a.eY)
 vU:Binds K a.g7 ["rows","step"] []
 oN:iE K "row_cleared" "row_cleared" cX a.eZ a.g8
 vV:mg "row_cleared"=some (.ref a.eZ)
 vW:Binds K a.g8 ["row","lead_row","step","divisor"] []
 oO:iE K "determinant" "determinant" dU a.cZ a.dY
 hU:mg "determinant"=some (.ref a.cZ)
 h7:Binds K a.dY ["table"] []
 xu:iE K "ways_of" "ways_of" i7 a.ja a.kM
 xw:mg "ways_of"=some (.ref a.ja)
 xx:Binds K a.kM ["web","ring"] []
 qL:iE K "product_of" "product_of" dJ a.gh a.iS
 yT:mg "product_of"=some (.ref a.gh)
 yU:Binds K a.iS ["one","other"] []
 qM:iE K "ring_table" "ring_table" cS a.gi a.iT
 qO:mg "ring_table"=some (.ref a.gi)
 qP:Binds K a.iT ["web","rings"] []
 qQ:iE K "ring_worth" "ring_worth" dM a.gj a.iU
 qR:mg "ring_worth"=some (.ref a.gj)
 qS:Binds K a.iU ["web","rings"] []
 nq:iE K "ties_between" "ties_between" cB a.eB a.gk
 uR:mg "ties_between"=some (.ref a.eB)
 uS:Binds K a.gk ["web","one","other"] []
 nt:iE K "points_table" "points_table" bA a.eE a.gm
 uT:mg "points_table"=some (.ref a.eE)
 uU:Binds K a.gm ["web"] []
 oQ:iE K "forest_many" "forest_many" dW a.ff a.g9
 vX:mg "forest_many"=some (.ref a.ff)
 vY:Binds K a.g9 ["web"] []
 sG:iE K "check_few" "check_few" fH a.iw a.jJ
 AF:mg "check_few"=some (.ref a.iw)
 AG:Binds K a.jJ ["web"] []
 sH:iE K "end_moved" "end_moved" fJ a.iy a.jK
 sI:mg "end_moved"=some (.ref a.iy)
 sJ:Binds K a.jK ["end","one","other"] []
 iA:iE K "web_drawn_together" "web_drawn_together" bh a.bO a.cU
 nu:mg "web_drawn_together"=some (.ref a.bO)
 nv:Binds K a.cU ["web","one","other"] []
 oR:iE K "taken_apart" "taken_apart" dX a.dc a.dZ
 jP:mg "taken_apart"=some (.ref a.dc)
 jQ:Binds K a.dZ ["web"] []
 iJ:iE K "forests_by_taking" "forests_by_taking" bH a.bV a.di
 oF:mg "forests_by_taking"=some (.ref a.bV)
 oG:Binds K a.di ["web"] []
 uV:iE K "_law_cell" "_law_cell" gK a.gQ a.jv
 pI:mg "_law_cell"=some (.ref a.gQ)
 pJ:Binds K a.jv ["script","k"] []
 uW:iE K "_law_stir" "_law_stir" gO a.gR a.jw
 uX:mg "_law_stir"=some (.ref a.gR)
 uY:Binds K a.jw ["cell","k"] []
 xy:iE K "_law_tie" "_law_tie" i8 a.kN a.oj
 xA:mg "_law_tie"=some (.ref a.kN)
 xB:Binds K a.oj ["c","points","times"] []
 xC:iE K "_law_web" "_law_web" i9 a.kO a.om
 Ef:mg "_law_web"=some (.ref a.kO)
 Eg:Binds K a.om ["script","most"] []
 uZ:iE K "_law_ties" "_law_ties" fj a.jx a.lP
 BO:mg "_law_ties"=some (.ref a.jx)
 BP:Binds K a.lP ["some"] []
 xD:iE K "_law_odd" "_law_odd" gP a.kP a.oq
 Eh:mg "_law_odd"=some (.ref a.kP)
 Ei:Binds K a.oq ["web","some"] []
 sL:iE K "_law_rings" "_law_rings" cT a.iz a.jL
 AH:mg "_law_rings"=some (.ref a.iz)
 AI:Binds K a.jL ["web"] []
 M6:iE K "law" "law" nc a.GH a.GI
 Xk:mg "law"=some (.ref a.GH)
 Xl:Binds K a.GI ["script"] []
 Jd:mg "ValueError"=none
 M7:mg "abs"=none
 fL:mg "len"=none
 BQ:mg "list"=none
 JT:mg "max"=none
 JU:mg "min"=none
 cF:mg "range"=none
 M8:mg "sum"=none
 C4:mg "tuple"=none
 C5:mg "zip"=none
 yV:∃ t,mg "MOST_TAKEN"=some (.int 12 t)
 M9:mg "BadSet"=some (.ref a.bj)
 LG:mg "NotRing"=some (.ref a.dm)
 LH:mg "NoChord"=some (.ref a.ou)
 Na:mg "NoBase"=some (.ref a.Av)
 LI:mg "TooMany"=some (.ref a.jb)
 GU:∀ h:Heap,K.In h->h.Ns mainGlobals mg->PyProof.Rows.OwnCls "NoBase" a.Av [.type "ValueError",.type "Exception",.type "BaseException",.type "object"] "ValueError.__new__" mg h
 GV:∀ h:Heap,K.In h->h.Ns mainGlobals mg->PyProof.Rows.OwnCls "BadSet" a.bj [.type "ValueError",.type "Exception",.type "BaseException",.type "object"] "ValueError.__new__" mg h
 Ej:∀ h:Heap,K.In h->h.Ns mainGlobals mg->PyProof.Rows.OwnCls "NotRing" a.dm [.type "ValueError",.type "Exception",.type "BaseException",.type "object"] "ValueError.__new__" mg h
 Ek:∀ h:Heap,K.In h->h.Ns mainGlobals mg->PyProof.Rows.OwnCls "NoChord" a.ou [.type "ValueError",.type "Exception",.type "BaseException",.type "object"] "ValueError.__new__" mg h
 El:∀ h:Heap,K.In h->h.Ns mainGlobals mg->PyProof.Rows.OwnCls "TooMany" a.jb [.type "ValueError",.type "Exception",.type "BaseException",.type "object"] "ValueError.__new__" mg h
section
variable {K:bY}{mg:jY}{a:yK}
theorem Txt.Em(T:Txt K mg a):PySem.W.keepIn K (.ref a.kG)=true:=T.xm.kp
theorem Txt.kX(T:Txt K mg a):PySem.W.keepIn K (.ref a.eN)=true:=T.xn.kp
theorem Txt.lS(T:Txt K mg a):PySem.W.keepIn K (.ref a.eA)=true:=T.uM.kp
theorem Txt.GW(T:Txt K mg a):PySem.W.keepIn K (.ref a.nh)=true:=T.Aw.kp
theorem Txt.AJ(T:Txt K mg a):PySem.W.keepIn K (.ref a.iu)=true:=T.sF.kp
theorem Txt.qT(T:Txt K mg a):PySem.W.keepIn K (.ref a.eO)=true:=T.qF.kp
theorem Txt.yW(T:Txt K mg a):PySem.W.keepIn K (.ref a.fZ)=true:=T.qI.kp
theorem Txt.kY(T:Txt K mg a):PySem.W.keepIn K (.ref a.cu)=true:=T.kT.kp
theorem Txt.u0(T:Txt K mg a):PySem.W.keepIn K (.ref a.jt)=true:=T.Az.kp
theorem Txt.yX(T:Txt K mg a):PySem.W.keepIn K (.ref a.pH)=true:=T.GL.kp
theorem Txt.En(T:Txt K mg a):PySem.W.keepIn K (.ref a.kI)=true:=T.xo.kp
theorem Txt.my(T:Txt K mg a):PySem.W.keepIn K (.ref a.cJ)=true:=T.mj.kp
theorem Txt.GX(T:Txt K mg a):PySem.W.keepIn K (.ref a.ni)=true:=T.AA.kp
theorem Txt.u3(T:Txt K mg a):PySem.W.keepIn K (.ref a.ju)=true:=T.AB.kp
theorem Txt.vZ(T:Txt K mg a):PySem.W.keepIn K (.ref a.eX)=true:=T.oK.kp
theorem Txt.yY(T:Txt K mg a):PySem.W.keepIn K (.ref a.gb)=true:=T.qJ.kp
theorem Txt.Eo(T:Txt K mg a):PySem.W.keepIn K (.ref a.kK)=true:=T.xq.kp
theorem Txt.yZ(T:Txt K mg a):PySem.W.keepIn K (.ref a.gc)=true:=T.qK.kp
theorem Txt.GY(T:Txt K mg a):PySem.W.keepIn K (.ref a.nj)=true:=T.AD.kp
theorem Txt.Ep(T:Txt K mg a):PySem.W.keepIn K (.ref a.kL)=true:=T.xr.kp
theorem Txt.GZ(T:Txt K mg a):PySem.W.keepIn K (.ref a.nk)=true:=T.AE.kp
theorem Txt.v9(T:Txt K mg a):PySem.W.keepIn K (.ref a.eY)=true:=T.oM.kp
theorem Txt.wc(T:Txt K mg a):PySem.W.keepIn K (.ref a.eZ)=true:=T.oN.kp
theorem Txt.h8(T:Txt K mg a):PySem.W.keepIn K (.ref a.cZ)=true:=T.oO.kp
theorem Txt.xE(T:Txt K mg a):PySem.W.keepIn K (.ref a.ja)=true:=T.xu.kp
theorem Txt.y9(T:Txt K mg a):PySem.W.keepIn K (.ref a.gh)=true:=T.qL.kp
theorem Txt.qU(T:Txt K mg a):PySem.W.keepIn K (.ref a.gi)=true:=T.qM.kp
theorem Txt.qV(T:Txt K mg a):PySem.W.keepIn K (.ref a.gj)=true:=T.qQ.kp
theorem Txt.u4(T:Txt K mg a):PySem.W.keepIn K (.ref a.eB)=true:=T.nq.kp
theorem Txt.u5(T:Txt K mg a):PySem.W.keepIn K (.ref a.eE)=true:=T.nt.kp
theorem Txt.wd(T:Txt K mg a):PySem.W.keepIn K (.ref a.ff)=true:=T.oQ.kp
theorem Txt.AK(T:Txt K mg a):PySem.W.keepIn K (.ref a.iw)=true:=T.sG.kp
theorem Txt.sM(T:Txt K mg a):PySem.W.keepIn K (.ref a.iy)=true:=T.sH.kp
theorem Txt.ny(T:Txt K mg a):PySem.W.keepIn K (.ref a.bO)=true:=T.iA.kp
theorem Txt.jR(T:Txt K mg a):PySem.W.keepIn K (.ref a.dc)=true:=T.oR.kp
theorem Txt.oH(T:Txt K mg a):PySem.W.keepIn K (.ref a.bV)=true:=T.iJ.kp
theorem Txt.pK(T:Txt K mg a):PySem.W.keepIn K (.ref a.gQ)=true:=T.uV.kp
theorem Txt.u6(T:Txt K mg a):PySem.W.keepIn K (.ref a.gR)=true:=T.uW.kp
theorem Txt.xF(T:Txt K mg a):PySem.W.keepIn K (.ref a.kN)=true:=T.xy.kp
theorem Txt.Er(T:Txt K mg a):PySem.W.keepIn K (.ref a.kO)=true:=T.xC.kp
theorem Txt.BR(T:Txt K mg a):PySem.W.keepIn K (.ref a.jx)=true:=T.uZ.kp
theorem Txt.Es(T:Txt K mg a):PySem.W.keepIn K (.ref a.kP)=true:=T.xD.kp
theorem Txt.AL(T:Txt K mg a):PySem.W.keepIn K (.ref a.iz)=true:=T.sL.kp
end
def u7:Sp:=fun vs H Q _=>∃(S:Int) (k:Nat),vs=[.int S,.int (k:Int)]/\Q (.bl (bit S k)) H
def gS:Sp:=fun vs H Q _=>∃ m:Nat,vs=[.int (m:Int)]/\Builtin.Int.intBits (m:Int)<=1000/\∀ D H',H D=none->au H H'->H' D=some (.lst (aV (bw (m:Int))))->Q (.ref D) H'
def iB:Sp:=fun vs H Q _=>∃ w p ts,vs=[.ref w]/\bE H w p ts/\JF p ts/\Q (.int (2^ts.length-1)) H
def xG:Sp:=fun vs H Q _=>∃ w p ts S,vs=[.ref w,.int S]/\bE H w p ts/\JF p ts/\Q (.bl (decide (0<=S/\S<2^ts.length))) H
def qW(ts:List cg)(S:Int)(bad:Prop)(R:Nat->Prop):Prop:=(∃ m:Nat,S=(m:Int)/\m<2^ts.length/\R m)\/((S<0\/2^ts.length<=S)/\bad)
def qX(C:Addr):Sp:=fun vs H Q E=>∃ w p ts S,vs=[.ref w,.int S]/\bE H w p ts/\JF p ts/\qW ts S (E (.ref C) none H) fun _=>Q .iC H
def jS(C:Addr):Sp:=fun vs H Q E=>∃ w p ts S,vs=[.ref w,.int S]/\bE H w p ts/\JF p ts/\qW ts S (E (.ref C) none H) fun m =>
 ∀ D ys H',H D=none->au H H'->H' D=some (.lst ys)->Paired (TupAt H') ys ((bw (m:Int)).map (cM ts))->Q (.ref D) H'
def oS(C:Addr):Sp:=fun vs H Q E=>∃ w p ts S,vs=[.ref w,.int S]/\bE H w p ts/\JF p ts/\qW ts S (∀ H',au H H'->E (.ref C) none H') fun m =>
 ∀ D H',au H H'->H' D=some (.lst (aV (kc p ts (m:Int))))->Q (.ref D) H'
def u9(C:Addr):Sp:=fun vs H Q E=>∃ w p ts S,vs=[.ref w,.int S]/\bE H w p ts/\JF p ts/\qW ts S (∀ H',au H H'->E (.ref C) none H') fun m=>∀ H',au H H'->Q (.bl (decide (kc p ts (m:Int)=[]))) H'
section
variable {P:Program}{w:World}{K:bY}{mg:jY}{base:Heap}{a:yK}
theorem rP(T:Txt K mg a):aL P w K mg base dh 1 a.kG a.n6 ["tie_set","tie"] u7:=by
 refine T.xm.ok BE (fun vs H Q E h=>?_) (fun cdv A outer s H vs Q E hr h=>?_)
 ·obtain⟨S,k,rfl,_⟩:=h;rfl
 ·obtain⟨S,k,rfl,q⟩:=h;refine⟨_,(av (aQ (nL gx (aJ EV (aJ EU (pv 0) (pv 1)) ah) ah (aX _)))),?_⟩;refine(ao rfl (ao rfl (cE ⟨(by lia),cE ⟨rfl,?_⟩⟩)))
  rw[Int.toNat_natCast,KR];exact q
theorem bM(T:Txt K mg a):aL P w K mg base dh 2 a.eN a.fK ["tie_set"] gS:=by
 have rP:aL P w K mg base dh 1 a.kG a.n6 ["tie_set","tie"] u7:=rP T;refine T.xn.ok BF (fun vs H Q E h=>?_) (fun cdv A outer s H vs Q E hr h=>?_)
 ·obtain⟨m,rfl,_⟩:=h;rfl
 ·obtain⟨m,rfl,hm,k⟩:=h;refine⟨_,(av (aQ (cC (own:=["tie"]) (fq:=["tie_set"]) (js:=[0]) (aK (ae gH) ["tie_set"]) rfl (cH (by rfl) T.cF (aa (E5 PySem.F.plainAttrs_int PyProof.Rows.slot_int_bit_length PyProof.Rows.type_int_bit_length Ci (pv 0)) af)) (fun _ _ _ _=>(aE (i:=0) (show(["tie","tie_set"]:List Str).Nodup by decide +kernel) rfl (Or.inl rfl))) (fun _ _ _ _=>(eH (xV (aA rP (hr.mono (by decide)) (by rfl) T.D6 T.Em T.D7 .nil bg (aa (pv 1) (aa (pv 0) af)))))) (fun _ _ _ _=>(pv 0))))),?_⟩
  refine(ao rfl ⟨rfl,ao rfl ⟨rfl,ao rfl ⟨(by lia),(by lia),fun D hD=>ee (lo:=0) (m:=Builtin.Int.intBits (m:Int)) (mT (bit (m:Int)) H D) (.start hD) (fun i acc H2 _ p=>p.len) (dl (Nat.ble_eq.mpr hm)) ?_ ?_⟩⟩⟩)
  ·intro i acc H2 hi p;rw[Int.zero_add];refine⟨rfl,ao rfl (ao rfl ⟨(m:Int),i,rfl,ao rfl (?_)⟩)⟩;cases hb:bit (m:Int) i with
   | true=>exact(ao rfl (p.yes hD (au.refl _) hb))
   | false=>exact p.no (au.refl _) hb
  ·intro acc H2 p;exact k D H2 hD p.1 (by rw[p.2.1,p.2.2];rfl)
theorem bU(T:Txt K mg a):aL P w K mg base dh 1 a.eA a.fm ["web"] iB:=by
 refine T.uM.ok Am (fun vs H Q E h=>?_) (fun cdv A outer s H vs Q E hr h=>?_)
 ·obtain⟨w,p,ts,rfl,_⟩:=h;rfl
 ·obtain⟨wb,p,ts,rfl,hw,W,q⟩:=h;refine⟨_,(av (aQ (aJ tT (aJ rA ah (bf (j8 K) (by rfl) T.fL PySem.boot_len (aa (aD (fM K) (pv 0) ah (fun _ _=>rfl)) af))) ah))),?_⟩
  obtain⟨b,xs,h1,h2,h3⟩:=hw.ex;have hl:=h3.length;have wl:=W.len;refine(ao rfl (fN (bI.of h1) (aq (j:=1) rfl) (tK rfl (.inr (bI.of h2)) (cE ⟨⟨by lia,by lia,by decide⟩,cE (?_)⟩))))
  rw[Int.toNat_natCast,hl,Int.one_mul];exact q
theorem vc(T:Txt K mg a):aL P w K mg base dh 2 a.nh a.qz ["web","number"] xG:=by
 have bU:aL P w K mg base dh 1 a.eA a.fm ["web"] iB:=bU T;refine T.Aw.ok DU (fun vs H Q E h=>?_) (fun cdv A outer s H vs Q E hr h=>?_)
 ·obtain⟨w,p,ts,S,rfl,_⟩:=h;rfl
 ·obtain⟨wb,p,ts,S,rfl,hw,W,q⟩:=h;refine⟨_,(av (aQ (EM (nL Mf (pv 1) ah (aX _)) (EL (nL Me (pv 1) (aA bU (hr.mono (by decide)) (by rfl) T.lQ T.lS T.lR .nil bg (aa (pv 0) af)) (aX _)))))),?_⟩
  refine(ao rfl (cE (ao rfl (zy (fun hlt=>?_) (fun hlt=>?_)))))
  ·have hlt:0<=S:=mG hlt;refine(ao rfl (ao rfl ⟨wb,p,ts,rfl,hw,W,_,_,rfl,rfl,?_⟩));have e:decide (S<=2^ts.length-1)=decide (0<=S/\S<2^ts.length):=decide_eq_decide.mpr ⟨fun z=>⟨hlt,by lia⟩,fun z=>by lia⟩
   rw[<-e]at q;exact q
  ·have hlt : ¬ 0<=S:=fun z=>hlt (eG z)
   rw[ia (fun z=>hlt z.1)]at q
   exact q
theorem nA(T:Txt K mg a):aL P w K mg base (jZ P w) 3 a.iu a.jI ["web","tie_set"] (qX a.bj):=by
 have vc:aL P w K mg base dh 2 a.nh a.qz ["web","number"] xG:=vc T;refine T.sF.Cj yE (fun vs H Q E h=>?_) (fun cdv A outer s H vs Q E hr h=>?_)
 ·obtain⟨w,p,ts,S,rfl,_⟩:=h;rfl
 ·obtain⟨wb,p,ts,S,rfl,hw,W,q⟩:=h;refine⟨_,(av (fO (AZ (xV (aA vc (hr.mono (by decide)) (by rfl) T.GJ T.GW T.GK .nil bg (aa (pv 0) (aa (pv 1) af))))) (av (mS ef.MG rfl (by rfl) T.GV PySem.F.excBase_ValueError (aa tN af))) bW)),?_⟩
  refine yF ?_;intro cR;refine(ao rfl (ao rfl ⟨wb,p,ts,S,rfl,hw,W,?_⟩));have h2:((2:Int)^ts.length)=((2^ts.length:Nat):Int):=by simp
  rcases q with⟨m,rfl,hm,q⟩|⟨hS,q⟩
  ·rw[eG ⟨by lia,by lia⟩]
   exact(ao rfl (iL q))
  ·rw[ia (by lia)]
   exact(ao rfl (lu ⟨dl rfl,q⟩))
theorem eS(T:Txt K mg a):aL P w K mg base (jZ P w) 4 a.eO a.fY ["web","tie_set"] (jS a.bj):=by
 have nA:aL P w K mg base (jZ P w) 3 a.iu a.jI ["web","tie_set"] (qX a.bj):=nA T;have bM:aL P w K mg base dh 2 a.eN a.fK ["tie_set"] gS:=bM T;refine T.qF.Cj vG (fun vs H Q E h=>?_) (fun cdv A outer s H vs Q E hr h=>?_)
 ·obtain⟨w,p,ts,S,rfl,_⟩:=h;rfl
 ·obtain⟨wb,p,ts,S,rfl,hw,W,q⟩:=h;refine⟨_,(ai (gW (aA nA (hr.mono (by decide)) (by rfl) T.Ax T.AJ T.Ay .nil ef.passes (aa (pv 0) (aa (pv 1) af))))
   (av (aQ (cC (own:=["tie"]) (fq:=["web"]) (js:=[0]) (aK (ae dH) ["web","tie_set"]) rfl (vD K (aA bM (hr.mono (by decide)) (by rfl) T.kQ T.kX T.kR .nil bg (aa (pv 1) af))) (fun _ _ _ _=>(aE (i:=0) (show(["tie","web"]:List Str).Nodup by decide +kernel) rfl (Or.inl rfl))) (fun _ _ _ _=>d8) (fun _ _ _ _=>(aD (fM K) (aD (fM K) (pv 1) ah (fun _ _=>rfl)) (pv 0) (fun _ _=>rfl))))))),?_⟩
  refine vH ?_;intro cR;refine(ao rfl (ao rfl ⟨wb,p,ts,S,rfl,hw,W,?_⟩));rcases q with⟨m,rfl,hm,q⟩|⟨hS,q⟩
  ·refine .inl ⟨m,rfl,hm,?_⟩;have wl:=W.len;have hb:Builtin.Int.intBits (m:Int)<=ts.length:=bits_le hm;refine(ao rfl ⟨m,rfl,by lia,fun L H1 _ s1 hL=>⟨L,rfl,⟨_,aW.of hL⟩,fun D hD=>?_⟩⟩)
   obtain⟨b,xs,h1,h2,h3⟩:=(hw.same s1).ex;have vA:=h3.length;refine cf (xs:=aV (bw (m:Int))) (fun i acc H2=>au H1 H2/\H2 D=some (.lst acc)/\Paired (TupAt H2) acc (((bw (m:Int)).take i).map (cM ts))/\acc.length=i) ⟨au.new hD,aj,.nil,rfl⟩ ?_ ?_ ?_ ?_
   ·rintro i acc H2 _ ⟨s2,hd,pr,hac⟩;exact⟨aW.of (s2 _ _ hL),hd,Nat.le_of_eq hac⟩
   ·rw[aM];refine dl (Nat.ble_eq.mpr (Nat.le_trans (List.length_filter_le _ _) ?_));rw[List.length_range]
    lia
   ·rintro i x acc H2 hx ⟨s2,hd,pr,hac⟩;obtain⟨k,hk,rfl⟩:=dP hx;have zA:k<ts.length:=nN hm (nJ hk);have hkx:k<xs.length:=by lia
    obtain⟨t,ht,c,hc,hct⟩:=Paired.mD h3 (i:=k) (x:=xs[k]) (by simp[hkx])
    have MU:cM ts k=t:=by
     unfold cM;rw[List.getD_eq_getElem?_getD,ht];rfl
    refine⟨rfl,ao rfl (fN (bI.of (s2 _ _ h1)) (aq (j:=1) rfl) (ao rfl (fN (v:=xs[k]) (bI.of (s2 _ _ h2)) (aq (j:=k) (by simp[hkx])) (?_))))⟩
    rw[hc];refine⟨hd,s2.put hD,aj,?_,by rw[List.length_append,List.length_singleton,hac]⟩
    rw[List.take_add_one,hk,List.map_append];refine Paired.snoc (Paired.imp' (fun _ _ z=>z.tups (rB.put hd)) pr) ?_
    rw[MU];exact⟨c,rfl,rB.put hd _ _ (s2 _ _ hct)⟩
   ·rintro acc H2 ⟨s2,hd,pr,hac⟩;rw[aM,List.take_length]at pr;exact q D acc H2 (s1.free hD) (s1.trans s2) hd pr
  ·exact .inr ⟨hS,q⟩
theorem lT(T:Txt K mg a):aL P w K mg base (jZ P w) 5 a.fZ a.iP ["web","tie_set"] (oS a.bj):=by
 have eS:aL P w K mg base (jZ P w) 4 a.eO a.fY ["web","tie_set"] (jS a.bj):=eS T;refine T.qI.Cj eV (fun vs H Q E h=>?_) (fun cdv A outer s H vs Q E hr h=>?_)
 ·obtain⟨w,p,ts,S,rfl,_⟩:=h;rfl
 ·obtain⟨wb,p,ts,S,rfl,hw,W,q⟩:=h;refine⟨_,(ai (aN (i:=2) eV.nd rfl (Or.inr rfl) (aJ yd (fP (aa ah af)) (aD (fM K) (pv 0) ah (fun _ _=>rfl))))
   (ai (pW rfl (vD K (aA eS (hr.mono (by decide)) (by rfl) T.qG T.qT T.qH .nil ef.passes (aa (pv 0) (aa (pv 1) af)))) (JB K (n:=3) rfl (bJ (aE (i:=3) eV.nd rfl (Or.inl rfl)) (bJ (aE (i:=4) eV.nd rfl (Or.inl rfl)) (bJ (aE (i:=5) eV.nd rfl (Or.inl rfl)) jB))))
   (ai (BZ (pv 2) (pv 3) (getL K) ah xZ set_list)
   (av (BZ (pv 2) (pv 4) (getL K) ah xZ set_list))))
   (av (aQ (cC (own:=["point"]) (fq:=["ends"]) (js:=[2]) (aK (ae dI) ["web","tie_set","ends","one","other","length"]) rfl (cH (by rfl) T.cF (aa (aD (fM K) (pv 0) ah (fun _ _=>rfl)) af)) (fun _ _ _ _=>(aE (i:=0) (show(["point","ends"]:List Str).Nodup by decide +kernel) rfl (Or.inl rfl))) (fun _ _ _ _=>(eH (aP gx (aJ d7 (aD (mH K) (pv 1) (pv 0) (fun _ _=>rfl)) ah) ah (aX _)))) (fun _ _ _ _=>(pv 0))))))),?_⟩
  refine vI ?_;intro cR fE iI mh;obtain⟨b,xs,h1,h2,h3⟩:=id hw.ex;have wp:=W.EC;refine⟨dl rfl,fun l0 Ie=>?_⟩
  have s0:au H (upd H l0 (.lst [.int 0])):=au.new Ie;refine(ao rfl (fN (bI.of (s0 _ _ h1)) (aq (j:=0) rfl) ⟨l0,(p:Int),ao rfl ⟨rfl,aj,by lia,by lia,(by rw[Int.toNat_natCast];show 1*p<=sizeLine;exact dl (Nat.ble_eq.mpr (by lia))),fun e he=>?_⟩⟩))
  have s1:=s0.trans (au.new (o:=.lst (List.replicate (p:Int).toNat [V.int 0]).flatten) he);have JV:upd (upd H l0 (.lst [.int 0])) e (.lst (List.replicate (p:Int).toNat [V.int 0]).flatten) e=some (.lst (aR (List.replicate p 0))):=by
   rw[aj,Int.toNat_natCast,mU]
  generalize upd (upd H l0 (.lst [.int 0])) e (.lst (List.replicate (p:Int).toNat [V.int 0]).flatten)=H1 at s1 JV;have Li:H e=none:=s0.free he;refine(ao rfl (ao rfl ⟨wb,p,ts,S,rfl,hw.same s1,W,?_⟩));rcases q with⟨m,rfl,hm,q⟩|⟨hS,q⟩
  ·refine .inl ⟨m,rfl,hm,fun L ys H2 QX s2 hL pr=>⟨L,rfl,⟨_,aW.of hL⟩,?_⟩⟩
   have s12:=s1.trans s2;have heL:e≠L:=aY JV QX;have JW:ys.length<=24:=by
    rw[pr.length,List.length_map];have hb:Builtin.Int.intBits (m:Int)<=ts.length:=bits_le hm;have wl:=W.len;have:=List.length_filter_le (bit (m:Int)) (List.range (Builtin.Int.intBits (m:Int)));rw[List.length_range]at this;exact Nat.le_trans this (by lia)
   refine i3 (K:=K) (a:=L) (xs:=ys) (fun i σ H3=>∃ v1 v2 v3,σ=[some (.ref wb),some (.int (m:Int)),some (.ref e),v1,v2,v3]/\(∀ x o,H2 x=some o->x≠e->H3 x=some o)/\H3 e=some (.lst (aR ((((bw (m:Int)).map (cM ts)).take i).foldl stepT (List.replicate p 0)))))
    ⟨none,none,none,rfl,fun _ _ z _=>z,s2 _ _ JV⟩ (fun i σ H3 _ ⟨_,_,_,_,z,_⟩=>aW.of (z _ _ hL (Ne.symm heL))) ?_ ?_
   ·rintro i y D' σ H3 hi ⟨v1,v2,v3,rfl,z3,G0⟩;obtain⟨t,ht,c,rfl,hc⟩:=Paired.mD pr hi;have hce:c≠e:=Jp hc (s2 _ _ JV) (by intro z;cases z)
    have hc3:=z3 _ _ hc hce;have JM:t∈ts:=by
     obtain⟨k,hk,rfl⟩:=List.mem_map.mp (nJ ht);unfold cM;have zA:=nN hm hk;rw[List.getD_eq_getElem?_getD];simp[zA]
    obtain⟨a0,a1,b0,b1⟩:=W.QD.ends t JM;obtain⟨t1,t2,t3⟩:=t;dsimp only at a0 a1 b0 b1;obtain⟨j1,rfl⟩:=Int.eq_ofNat_of_zero_le a0;obtain⟨j2,rfl⟩:=Int.eq_ofNat_of_zero_le b0;generalize hE:(((bw (m:Int)).map (cM ts)).take i).foldl stepT (List.replicate p 0)=EE at G0;have Lj:EE.length=p:=by rw[<-hE,nO,List.length_replicate]
    have Xm:j1<EE.length:=by lia
    have Xn:j2<(bump EE (j1:Int)).length:=by rw[jf];lia
    refine⟨c,_,rfl,bI.of hc3,rfl,_,_,rfl,_,_,rfl,_,_,rfl,rfl,?_⟩;refine(ao rfl (ao rfl ⟨e,_,j1,_,rfl,rfl,aW.of G0,eI Xm,_,_,rfl,rfl,e,_,_,j1,rfl,rfl,G0,lD (by rw[aR,List.length_map];exact Xm),?_⟩))
    rw[o6];refine(ao rfl (ao rfl ⟨e,_,j2,_,rfl,rfl,aW.of aj,eI Xn,_,_,rfl,rfl,e,_,_,j2,rfl,rfl,aj,lD (by rw[aR,List.length_map];exact Xn),?_⟩))
    rw[o6];refine⟨_,_,_,rfl,fun x o z hx=>by rw[aT hx,aT hx];exact z3 x o z hx,?_⟩
    rw[aj,List.take_add_one,ht,List.foldl_append,hE];rfl
   ·rintro σ H3 ⟨v1,v2,v3,rfl,z3,G0⟩;have Xo:wb≠e:=aY h1 Li;have sW:au H H3:=fun x o z=>z3 x o (s12 x o z) (aY z Li)
    have hE:H3 e=some (.lst (aR (fR p ts (m:Int)))):=by
     rw[G0,List.take_of_length_le (by rw[<-pr.length];exact Nat.le_refl _),rE hm]
    have Lj:(fR p ts (m:Int)).length=p:=by rw[rE hm,nO,List.length_replicate]
    refine(ao rfl (fN (bI.of (sW _ _ h1)) (aq (j:=0) rfl) (ao rfl ⟨(by lia),(by lia),fun D hD=>ee (lo:=0) (m:=p) (mT (fun i=>decide ((fR p ts (m:Int)).getD i 0%2=1)) H3 D) (.start hD) (fun i acc H4 _ p=>p.len) (dl (Nat.ble_eq.mpr (by lia))) ?_ ?_⟩)))
    ·intro i acc H4 hi pk;rw[Int.zero_add];refine⟨rfl,ao rfl (ao rfl (nY (aW.of (pk.1 _ _ hE)) (aq (j:=i) (eI (by rw[Lj];exact hi))) (cE ⟨(oZ rfl),rfl,ao rfl (?_)⟩)))⟩
     rw[Co];cases hb:decide ((fR p ts (m:Int)).getD i 0%2=1) with
     | true=>exact(ao rfl (pk.yes hD (au.refl _) hb))
     | false=>exact pk.no (au.refl _) hb
    ·intro acc H4 pk;exact q D H4 (sW.trans pk.1) (by rw[pk.2.1,pk.2.2];rfl)
  ·exact .inr ⟨hS,q _ s1⟩
theorem rQ(T:Txt K mg a):aL P w K mg base (jZ P w) 6 a.kI a.n8 ["web","tie_set"] (u9 a.bj):=by
 have lT:aL P w K mg base (jZ P w) 5 a.fZ a.iP ["web","tie_set"] (oS a.bj):=lT T;refine T.xo.Cj BG (fun vs H Q E h=>?_) (fun cdv A outer s H vs Q E hr h=>?_)
 ·obtain⟨w,p,ts,S,rfl,_⟩:=h;rfl
 ·obtain⟨wb,p,ts,S,rfl,hw,W,q⟩:=h;refine⟨_,(av (aQ (nL (Bh K hr.units) (aA lT (hr.mono (by decide)) (by rfl) T.yL T.yW T.yM .nil ef.passes (aa (pv 0) (aa (pv 1) af))) (fP af) (aX _)))),?_⟩
  refine(ao rfl (ao rfl ⟨wb,p,ts,S,rfl,hw,W,?_⟩));rcases q with⟨m,rfl,hm,q⟩|⟨hS,q⟩
  ·refine .inl ⟨m,rfl,hm,fun D H1 s1 hD=>⟨dl rfl,fun l hl=>?_⟩⟩
   have s2:au H1 (upd H1 l (.lst [])):=au.new hl;refine⟨_,_,.lst (aW.of (s2 _ _ hD)) (mV _),.lst (aW.of aj) .nil,jE _,rfl,?_⟩;rw[Cm];exact q _ (s1.trans s2)
  ·exact .inr ⟨hS,q⟩
end
def vd:Sp:=fun vs H Q _=>∃(l:Addr) (L:Nat->Nat) (p u v:Nat),vs=[.ref l,.int (u:Int),.int (v:Int)]/\H l=some (.lst (ik L p))/\p<=10/\u<p/\v<p/\
 ∀ D H',H D=none->au H H'->H' D=some (.lst (ik (RM.join L u v) p))->Q (.ref D) H'
def ow(C:Addr):Sp:=fun vs H Q E=>∃ w p ts,∃ g:az p ts,∃ S,vs=[.ref w,.int S]/\bE H w p ts/\qW ts S (∀ H',au H H'->E (.ref C) none H') fun m =>
 ∀ D ys H',H D=none->au H H'->H' D=some (.lst ys)->Paired (JG D H H') ys ((bR (bx p ts g m) p).map (pieceOf (bx p ts g m) p))->Q (.ref D) H'
def tL:Sp:=fun vs H Q _=>∃ w p ts,∃ g:az p ts,vs=[.ref w]/\bE H w p ts/\∀ H',au H H'->Q (.int (g.N.ak.length:Int)) H'
section
variable {P:Program}{w:World}{K:bY}{mg:jY}{base:Heap}{a:yK}
theorem cy(T:Txt K mg a):aL P w K mg base dh 1 a.cu a.dj ["leasts","one","other"] vd:=by
 refine T.kT.ok fX (fun vs H Q E h=>?_) (fun cdv A outer s H vs Q E hr h=>?_)
 ·obtain⟨l,L,p,u,v,rfl,_⟩:=h;rfl
 ·obtain⟨l,L,p,u,v,rfl,hl,hp,hu,hv,q⟩:=h;refine⟨_,(ai (aN (i:=3) fX.nd rfl (Or.inr rfl) (bf (wm rfl) (by rfl) T.JU PyProof.Rows.boot_min (aa (aD (mH K) (pv 0) (pv 1) (fun _ _=>rfl)) (aa (aD (mH K) (pv 0) (pv 2) (fun _ _=>rfl)) af))))
   (ai (aN (i:=4) fX.nd rfl (Or.inr rfl) (bf (wj rfl) (by rfl) T.JT PyProof.Rows.boot_max (aa (aD (mH K) (pv 0) (pv 1) (fun _ _=>rfl)) (aa (aD (mH K) (pv 0) (pv 2) (fun _ _=>rfl)) af))))
   (av (aQ (cC (own:=["least"]) (fq:=["low","high"]) (js:=[3,4]) (aK (ae bL) ["leasts","one","other","low","high"]) rfl (vD K (pv 0)) (fun _ _ _ _=>(aE (i:=0) (show(["least","low","high"]:List Str).Nodup by decide +kernel) rfl (Or.inl rfl))) (fun _ _ _ _=>d8) (fun _ _ _ _=>(j6 (aP gx (pv 0) (pv 2) (aX _)) (pv 1) (pv 0)))))))),?_⟩
  refine qv ?_;intro cR fE;refine(ao rfl (ao rfl (nY (aW.of hl) (aq (j:=u) (cz hu)) (ao rfl (ao rfl (nY (aW.of hl) (aq (j:=v) (cz hv)) ⟨_,_,rfl,?_⟩))))));refine(ao rfl (ao rfl (nY (aW.of hl) (aq (j:=u) (cz hu)) (ao rfl (ao rfl (nY (aW.of hl) (aq (j:=v) (cz hv)) ⟨_,_,rfl,?_⟩))))));refine(ao rfl ⟨l,rfl,⟨_,aW.of hl⟩,fun D hD=>cf (xs:=ik L p) (yn (RM.join L u v) H D) (.start hD) (fun i acc H2 _ pd=>⟨aW.of (pd.1 _ _ hl),pd.len⟩) (by rw[fU];exact dl (Nat.ble_eq.mpr (by lia))) ?_ ?_⟩)
  ·intro i x acc H2 hx pd;obtain⟨hi,rfl⟩:=tw hx;refine⟨rfl,ao rfl (ao rfl ⟨rfl,ao rfl (?_)⟩)⟩;rw[Cu,gY]
   by_cases hm:L i=max (L u) (L v)
   ·rw[eG hm];refine lu (ao rfl (pd.next hD (au.refl _) ?_));rw[Ir];unfold RM.join;rw[if_pos hm]
   ·rw[ia hm];refine iL (ao rfl (pd.next hD (au.refl _) ?_));unfold RM.join;rw[if_neg hm]
  ·intro acc H2 pd;rw[fU]at pd;exact q D H2 hD pd.1 (by rw[pd.2.1,pd.2.2])
theorem gn(T:Txt K mg a):aL P w K mg base (jZ P w) 5 a.jt a.kH ["web","tie_set"] (ow a.bj):=by
 have eS:aL P w K mg base (jZ P w) 4 a.eO a.fY ["web","tie_set"] (jS a.bj):=eS T;have cy:aL P w K mg base dh 1 a.cu a.dj ["leasts","one","other"] vd:=cy T;refine T.Az.Cj fF (fun vs H Q E h=>?_) (fun cdv A outer s H vs Q E hr h=>?_)
 ·obtain⟨w,p,ts,g,S,rfl,_⟩:=h;rfl
 ·obtain⟨wb,p,ts,g,S,rfl,hw,q⟩:=h;refine⟨_,(ai (aN (i:=2) fF.nd rfl (Or.inr rfl) (gC (JE rfl) (by rfl) T.BQ PyProof.Rows.boot_list (aa (gC zH (by rfl) T.cF PyProof.Rows.boot_range (aa (aD (fM K) (pv 0) ah (fun _ _=>rfl)) af)) af)))
   (ai (pW rfl (vD K (aA eS (hr.mono (by decide)) (by rfl) T.qG T.qT T.qH .nil ef.passes (aa (pv 0) (aa (pv 1) af)))) (JB K (n:=3) rfl (bJ (aE (i:=3) fF.nd rfl (Or.inl rfl)) (bJ (aE (i:=4) fF.nd rfl (Or.inl rfl)) (bJ (aE (i:=5) fF.nd rfl (Or.inl rfl)) jB))))
   (av (aN (i:=2) fF.nd rfl (Or.inr rfl) (aA cy (hr.mono (by decide)) (by rfl) T.kU T.kY T.kW .nil bg (aa (pv 2) (aa (pv 3) (aa (pv 4) af)))))))
   (ai (aN (i:=6) fF.nd rfl (Or.inl rfl) (fP af))
   (ai (pW rfl (cH (by rfl) T.cF (aa (aD (fM K) (pv 0) ah (fun _ _=>rfl)) af)) (aE (i:=7) fF.nd rfl (Or.inr rfl))
   (av (fO (aP gx (aD (mH K) (pv 2) (pv 7) (fun _ _=>rfl)) (pv 7) (aX _)) (av (gW (Lg K (tW PySem.F.plainAttrs_list PySem.F.slot_list_append PySem.F.type_list_append dO (pv 6) (aa (cC (own:=["point"]) (fq:=["leasts","start"]) (js:=[2,7]) (aK (ae jo) ["web","tie_set","leasts","one","other","length","found","start"]) rfl (cH (by rfl) T.cF (aa (aD (fM K) (pv 0) ah (fun _ _=>rfl)) af)) (fun _ _ _ _=>(aE (i:=0) (show(["point","leasts","start"]:List Str).Nodup by decide +kernel) rfl (Or.inl rfl))) (fun _ _ _ _=>(eH (aP gx (aD (mH K) (pv 1) (pv 0) (fun _ _=>rfl)) (pv 2) (aX _)))) (fun _ _ _ _=>(pv 0))) af))))) bW)))
   (av (aQ (pv 6))))))),?_⟩
  refine DV ?_;intro cR fE iI mh sD sE uC;obtain⟨b,xs,h1,h2,h3⟩:=id hw.ex;have W:=g.KU;have wp:=W.EC;have wl:=W.len;refine(ao rfl (fN (bI.of h1) (aq (j:=0) rfl) (ao rfl (fun r hr=>⟨r,p,rfl,aj,by lia,fun l hl=>?_⟩))))
  have s1:au H (upd (upd H r (.Di 0 (p:Int))) l (.lst (vE p))):=(au.new hr).trans (au.new hl);have hl1:upd (upd H r (.Di 0 (p:Int))) l (.lst (vE p)) l=some (.lst (ik (fun x=>x) p)):=aj
  generalize upd (upd H r (.Di 0 (p:Int))) l (.lst (vE p))=H1 at s1 hl1;refine(ao rfl (ao rfl ⟨wb,p,ts,S,rfl,hw.same s1,W,?_⟩));rcases q with⟨m,rfl,hm,q⟩|⟨hS,q⟩
  ·refine .inl ⟨m,rfl,hm,fun T0 ys H2 OH s2 hT pr=>⟨T0,rfl,⟨_,aW.of hT⟩,?_⟩⟩
   have JW:ys.length<=24:=by
    rw[pr.length,List.length_map];have hb:Builtin.Int.intBits (m:Int)<=ts.length:=bits_le hm;have:=List.length_filter_le (bit (m:Int)) (List.range (Builtin.Int.intBits (m:Int)));rw[List.length_range]at this;exact Nat.le_trans this (by lia)
   refine i3 (K:=K) (a:=T0) (xs:=ys) (fun i σ H3=>∃ la v3 v4 v5,σ=[some (.ref wb),some (.int (m:Int)),some (.ref la),v3,v4,v5,none,none]/\au H2 H3/\H3 la=some (.lst (ik (sj p ts g ((bw (m:Int)).take i)) p)))
    ⟨l,none,none,none,rfl,au.refl _,s2 _ _ hl1⟩ (fun i σ H3 _ ⟨_,_,_,_,_,z,_⟩=>aW.of (z _ _ hT)) ?_ ?_
   ·rintro i y D' σ H3 hi ⟨la,v3,v4,v5,rfl,s3,hla⟩;obtain⟨t,ht,c,rfl,hc⟩:=Paired.mD pr hi;have hc3:=s3 _ _ hc;rw[List.getElem?_map]at ht;obtain⟨k,hk,hkt⟩:=J7.mp ht;have zA:=nN hm (nJ hk);have ea:=Cq (g:=g) zA;have eb:=Cr (g:=g) zA;rw[hkt]at ea eb;have la':=g.N.al k zA;have lb':=g.N.bl k zA;refine⟨c,_,rfl,bI.of hc3,rfl,_,_,rfl,_,_,rfl,_,_,rfl,rfl,?_⟩;refine(ao rfl (ao rfl (ao rfl ⟨la,sj p ts g ((bw (m:Int)).take i),p,g.N.a k,g.N.b k,?_,hla,wp,la',lb',fun D H4 ED s4 hD=>?_⟩)))
    ·rw[<-ea,<-eb];rfl
    ·refine⟨D,_,_,_,rfl,s3.trans s4,?_⟩;rw[hD,List.take_add_one,hk];show _=some (HO.lst (ik (sj p ts g ((bw (m:Int)).take i++[k])) p));rw[Bk]
   ·rintro σ H3 ⟨la,v3,v4,v5,rfl,s3,hla⟩;have hys:ys.length=(bw (m:Int)).length:=by rw[pr.length,List.length_map]
    rw[hys,List.take_length,Bl hm]at hla;have sW:au H H3:=(s1.trans s2).trans s3;refine⟨dl rfl,fun D hD=>?_⟩
    have t0:ug (bx p ts g m) p H3 D 0 (upd H3 D (.lst [])):=ug.start hD;generalize upd H3 D (.lst [])=H4 at t0;refine(ao rfl (fN (bI.of (t0.1 _ _ (sW _ _ h1))) (aq (j:=0) rfl) (ao rfl ⟨(by lia),(by lia),?_⟩)))
    refine pG (lo:=0) (n:=(p:Int).toNat) (fun i σ H5=>∃ v7,σ=[some (.ref wb),some (.int (m:Int)),some (.ref la),v3,v4,v5,some (.ref D),v7]/\ug (bx p ts g m) p H3 D i H5) ⟨none,rfl,t0⟩ ?_ ?_
    ·rintro i D' σ H5 hi ⟨v7,rfl,t5⟩;rw[Int.toNat_natCast]at hi;rw[Int.zero_add];have Nb:=t5.1 _ _ hla;refine(ao rfl (ao rfl (nY (aW.of Nb) (aq (j:=i) (cz hi)) (ao rfl ⟨rfl,ao rfl (?_)⟩))));rw[gY]
     by_cases hr:bx p ts g m i=i
     ·rw[eG hr];obtain⟨Hw,G3⟩:∃ ys,H5 D=some (.lst ys):=let⟨_,ys,z,_⟩:=t5;⟨ys,z⟩;refine lu (ao rfl ⟨.inl ⟨rfl,_,aW.of G3⟩,ao rfl (fN (bI.of (t5.1 _ _ (sW _ _ h1))) (aq (j:=0) rfl) (ao rfl ⟨(by lia),(by lia),fun B hB=>ee (lo:=0) (m:=(p:Int).toNat) (mT (fun x=>decide (bx p ts g m x=i)) H5 B) (.start hB) (fun i acc H6 _ pk=>pk.len) (dl (Nat.ble_eq.mpr (by lia))) ?_ ?_⟩))⟩)
      ·intro x acc H6 hx pk;rw[Int.toNat_natCast]at hx;rw[Int.zero_add];refine⟨rfl,ao rfl (ao rfl (nY (aW.of (pk.1 _ _ Nb)) (aq (j:=x) (cz hx)) (ao rfl ⟨rfl,ao rfl (?_)⟩)))⟩;rw[gY];cases hb:decide (bx p ts g m x=i) with
       | true=>exact(ao rfl (pk.yes hB (au.refl _) hb))
       | false=>exact pk.no (au.refl _) hb
      ·intro acc H6 pk;have Y9:H6 B=some (.lst (aV (pieceOf (bx p ts g m) p i))):=by rw[pk.2.1,pk.2.2,Int.toNat_natCast];rfl
       obtain⟨Za,QY,hl1,t7⟩:=t5.push hD hr pk.1 hB Y9;exact⟨D,Za,_,rfl,rfl,QY,o8 (by lia),ao rfl (t7)⟩
     ·rw[ia hr];exact iL (ao rfl (t5.skip hr))
    ·rintro σ H5 ⟨v7,rfl,t5⟩;rw[Int.toNat_natCast]at t5;obtain⟨s5,LJ,G3,C6,Zb⟩:=t5;exact(ao rfl (q D LJ H5 (sW.free hD) (sW.trans s5) G3 (Paired.imp' (fun _ _ ⟨e,he,hn,h0,z⟩=>⟨e,he,hn,sW.free h0,z⟩) C6)))
  ·exact .inr ⟨hS,q _ s1⟩
theorem jT(T:Txt K mg a):aL P w K mg base dh 6 a.pH a.rO ["web"] tL:=by
 have gn:aL P w K mg base (jZ P w) 5 a.jt a.kH ["web","tie_set"] (ow a.bj):=gn T;have bU:aL P w K mg base dh 1 a.eA a.fm ["web"] iB:=bU T;refine T.GL.ok Jc (fun vs H Q E h=>?_) (fun cdv A outer s H vs Q E hr h=>?_)
 ·obtain⟨w,p,ts,g,rfl,_⟩:=h;rfl
 ·obtain⟨wb,p,ts,g,rfl,hw,q⟩:=h;refine⟨_,(av (aQ (aJ gB (aJ tT (bf (j8 K) (by rfl) T.fL PySem.boot_len (aa (aD (fM K) (pv 0) ah (fun _ _=>rfl)) af)) (aD (fM K) (pv 0) ah (fun _ _=>rfl))) (bf (j8 K) (by rfl) T.fL PySem.boot_len (aa (aA gn (hr.mono (by decide)) (by rfl) T.uN T.u0 T.uO .nil se (aa (pv 0) (aa (aA bU (hr.mono (by decide)) (by rfl) T.lQ T.lS T.lR .nil bg (aa (pv 0) af)) af))) af))))),?_⟩
  obtain⟨b,xs,h1,h2,h3⟩:=id hw.ex;have vA:=h3.length;have e2:((2:Int)^ts.length-1)=((2^ts.length-1:Nat):Int):=by
   have h:((2:Int)^ts.length)=((2^ts.length:Nat):Int):=by simp
   have:=Nat.two_pow_pos ts.length
   lia
  have hlt:2^ts.length-1<2^ts.length:=by have:=Nat.two_pow_pos ts.length;lia
  refine(ao rfl (fN (bI.of h1) (aq (j:=1) rfl) (tK rfl (.inr (bI.of h2)) (ao rfl (fN (bI.of h1) (aq (j:=0) rfl) (cE (?_)))))));refine(ao rfl (ao rfl ⟨wb,p,ts,rfl,hw,g.KU,wb,p,ts,g,_,rfl,hw,.inl ⟨2^ts.length-1,e2,hlt,fun D ys H' ED s' hD pr=>(tK rfl (.inl (aW.of hD)) (cE (?_)))⟩⟩))
  have hv:=Iq (g:=g);have hy:ys.length=(bR (bx p ts g (2^ts.length-1)) p).length:=by rw[pr.length,List.length_map]
  show Q (.int ((xs.length:Int)-(p:Int)+(ys.length:Int))) H';rw[vA,hy,hv];exact q H' s'
end
def ve(C:Addr):Sp:=fun vs H Q E=>∃ w p ts,∃ g:az p ts,∃ S,vs=[.ref w,.int S]/\bE H w p ts/\qW ts S (∀ H',au H H'->E (.ref C) none H') fun m=>∀ H',au H H'->Q (.bl (qk p ts g m)) H'
section
variable {P:Program}{w:World}{K:bY}{mg:jY}{base:Heap}{a:yK}
theorem rR(T:Txt K mg a):aL P w K mg base (jZ P w) 7 a.kK a.oh ["web","tie_set"] (ve a.bj):=by
 have rQ:aL P w K mg base (jZ P w) 6 a.kI a.n8 ["web","tie_set"] (u9 a.bj):=rQ T;have gn:aL P w K mg base (jZ P w) 5 a.jt a.kH ["web","tie_set"] (ow a.bj):=gn T;have bM:aL P w K mg base dh 2 a.eN a.fK ["tie_set"] gS:=bM T;refine T.xq.Cj uF (fun vs H Q E h=>?_) (fun cdv A outer s H vs Q E hr h=>?_)
 ·obtain⟨w,p,ts,g,S,rfl,_⟩:=h;rfl
 ·obtain⟨wb,p,ts,g,S,rfl,hw,q⟩:=h;refine⟨_,(ai (fO (AZ (xV (aA rQ (hr.mono (by decide)) (by rfl) T.D8 T.En T.D9 .nil ef.passes (aa (pv 0) (aa (pv 1) af))))) (av (aQ zl)) bW)
   (ai (lB (i:=2) uF.nd rfl rfl (own:=["piece"]) (fq:=[]) (js:=[]) (aK (ae gJ) ["web","tie_set","touched"]) rfl (vD K (aA gn (hr.mono (by decide)) (by rfl) T.uN T.u0 T.uO .nil ef.passes (aa (pv 0) (aa (pv 1) af)))) (fun _ _ _ _=>(aE (i:=0) (show(["piece"]:List Str).Nodup by decide +kernel) rfl (Or.inl rfl))) (fun _ _ _ _=>(eH (aP zo (bf (j8 K) (by rfl) T.fL PySem.boot_len (aa (pv 0) af)) ah (aX _)))) (fun _ _ _ _=>(pv 0)))
   (av (aQ (EM (nL gx (bf (j8 K) (by rfl) T.fL PySem.boot_len (aa (pv 2) af)) ah (aX _)) (EL (nL gx (bf (j8 K) (by rfl) T.fL PySem.boot_len (aa (aD (mH K) (pv 2) ah (fun _ _=>rfl)) af)) (bf (j8 K) (by rfl) T.fL PySem.boot_len (aa (aA bM (hr.mono (by decide)) (by rfl) T.kQ T.kX T.kR .nil bg (aa (pv 1) af)) af)) (aX _)))))))),?_⟩
  refine BH ?_;intro cR fE iI;have W:=g.KU;have wp:=g.p2;have wl:=g.len;refine(ao rfl (ao rfl ⟨wb,p,ts,S,rfl,hw,W,?_⟩));rcases q with⟨m,rfl,hm,q⟩|⟨hS,q⟩
  ·refine .inl ⟨m,rfl,hm,fun H1 s1=>(ao rfl (?_))⟩
   by_cases ev:kc p ts (m:Int)=[]
   ·rw[eG ev];rw[Bt ev]at q;refine iL (ao rfl (ao rfl ⟨wb,p,ts,g,_,rfl,hw.same s1,.inl ⟨m,rfl,hm,fun D ys H2 ED s2 hD pr=>⟨D,rfl,⟨_,aW.of hD⟩,fun C hC=>?_⟩⟩⟩))
    have JW:ys.length<=10:=by
     rw[pr.length,List.length_map];unfold bR;have:=List.length_filter_le (fun x=>decide (bx p ts g m x=x)) (List.range p)
     rw[List.length_range]at this;exact Nat.le_trans this wp
    refine cf (xs:=ys) (uu (fun l=>decide (1<l.length)) ((bR (bx p ts g m) p).map (pieceOf (bx p ts g m) p)) H2 C) (.start hC) (fun i acc H3 _ sf=>⟨aW.of (sf.1 _ _ hD),sf.len⟩) (gX (by lia)) ?_ ?_
    ·intro i x acc H3 hx sf;obtain⟨l,hl,b,rfl,hbn,hb0,hb⟩:=Paired.mD pr hx;refine⟨rfl,ao rfl (tK rfl (.inl (aW.of (sf.1 _ _ hb))) (cE (ao rfl (?_))))⟩;cases JX:decide (1<l.length) with
     | true =>
       have e:decide ((1:Int)<((aV l).length:Int))=true:=eG (by have:=mG JX;rw[aM];lia)
       show if decide ((1:Int)<((aV l).length:Int))=true then _ else _
       rw[e];exact lu (ao rfl (sf.yes hC hl JX ⟨b,rfl,hb⟩))
     | false =>
       have e:decide ((1:Int)<((aV l).length:Int))=false:=ia (by have:=of_decide_eq_false JX;rw[aM];lia)
       show if decide ((1:Int)<((aV l).length:Int))=true then _ else _
       rw[e];exact iL (sf.no hl JX)
    ·intro acc H3 sf;have pa:Paired (K3 H2) acc ((dQ (bx p ts g m) p).map (pieceOf (bx p ts g m) p)):=by
      have h:=sf.2.2;rw[pr.length,List.take_length,List.filter_map]at h;exact h
     have hal:=pa.length;rw[List.length_map]at hal;refine(ao rfl (tK rfl (.inl (aW.of sf.2.1)) ⟨rfl,ao rfl (?_)⟩));have sW:=(s1.trans s2).trans sf.1;have Lk:Builtin.Int.intBits (m:Int)<=ts.length:=bits_le hm;generalize dQ (bx p ts g m) p=tl at q pa hal;cases tl with
     | nil =>
       have hal:acc.length=0:=hal;rw[hal];exact iL (q H3 sW)
     | cons s r =>
       cases r with
       | nil =>
         cases pa with
         | cons hy pn =>
           cases pn;obtain⟨b,rfl,hb⟩:=hy;refine lu (ao rfl (nY (aW.of sf.2.1) (aq (j:=0) rfl) (tK rfl (.inl (aW.of (sf.1 _ _ hb))) (ao rfl ⟨m,rfl,by lia,fun D4 H4 hn4 s4 G4=>(tK rfl (.inl (aW.of G4)) ⟨rfl,?_⟩)⟩))))
           rw[aM,aM,gY];exact q H4 (sW.trans s4)
       | cons t r =>
         have hal:acc.length=r.length+2:=hal;have e:decide (V.int ((acc.length:Nat):Int)=V.int 1)=false:=ia fun z=>by
          have:=V.int.inj z
          lia
         rw[e];exact iL (q H3 sW)
   ·rw[ia ev];have er:qk p ts g m=false:=by
     unfold qk;rw[ia ev,Bool.false_and]
    rw[er]at q;exact lu (q H1 s1)
  ·exact .inr ⟨hS,q⟩
end
def oU(C R:Addr):Sp:=fun vs H Q E=>∃ w p ts,∃ g:az p ts,∃ S,vs=[.ref w,.int S]/\bE H w p ts/\qW ts S (∀ H',au H H'->E (.ref C) none H') fun m=>(g.N.Ring m->∀ H',au H H'->Q .iC H')/\(¬ g.N.Ring m->∀ H',au H H'->E (.ref R) none H')
def xH:Sp:=fun vs H Q _=>∃ w p ts,∃ g:az p ts,∃ S,∃ m x t:Nat,vs=[.ref w,.int S,.int (x:Int)]/\S=(m:Int)/\bE H w p ts/\m<2^ts.length/\(g.N.lJ m x)[0]?=some t/\∀ H',au H H'->Q (.int (t:Int)) H'
def vf:Sp:=fun vs H Q _=>∃ w p ts,∃ g:az p ts,∃ t x:Nat,vs=[.ref w,.int (t:Int),.int (x:Int)]/\bE H w p ts/\t<ts.length/\Q (.int ((g.N.IB t x:Nat):Int)) H
def xJ(C R:Addr):Sp:=fun vs H Q E=>∃ w p ts,∃ g:az p ts,∃ S,vs=[.ref w,.int S]/\bE H w p ts/\qW ts S (∀ H',au H H'->E (.ref C) none H') fun m =>
 (g.N.Ring m->∀ D H' t0 acc v,H D=none->au H H'->m.testBit t0=true->(bw (m:Int))[0]?=some t0->RM.Wk g.N m t0 acc v 0->WalkAt H' D acc->Q (.ref D) H')/\(¬ g.N.Ring m->∀ H',au H H'->E (.ref R) none H')
theorem Je(u v z:V):sP [u,v,z] none (some 2)=[u,v]:=rfl
theorem G5(x u v:Nat):HZ (.int (x:Int)) [.int (u:Int),.int (v:Int)]=decide (u=x\/v=x):=by
 have e:([.int (u:Int),.int (v:Int)]:List V)=aV [u,v]:=rfl;rw[e,um];refine decide_eq_decide.mpr ?_;simp[eq_comm]
theorem Et{p:Nat}{ts:List cg}{g:az p ts}{m x:Nat}(hm:m<2^ts.length):(bw (m:Int)).filter (fun t=>decide (g.N.a t=x\/g.N.b t=x))=g.N.lJ m x:=by
 rw[kg hm,List.filter_filter];unfold RM.Net.lJ;refine List.filter_congr fun k _=>?_
 rw[Bool.and_comm,Bool.decide_or]
section
variable {P:Program}{w:World}{K:bY}{mg:jY}{base:Heap}{a:yK}
theorem lU(T:Txt K mg a):aL P w K mg base (jZ P w) 8 a.gc a.iR ["web","ring"] (oU a.bj a.dm):=by
 have rR:aL P w K mg base (jZ P w) 7 a.kK a.oh ["web","tie_set"] (ve a.bj):=rR T;refine T.qK.Cj vL (fun vs H Q E h=>?_) (fun cdv A outer s H vs Q E hr h=>?_)
 ·obtain⟨w,p,ts,g,S,rfl,_⟩:=h;rfl
 ·obtain⟨wb,p,ts,g,S,rfl,hw,q⟩:=h;refine⟨_,(av (fO (AZ (xV (aA rR (hr.mono (by decide)) (by rfl) T.Ea T.Eo T.Eb .nil ef.passes (aa (pv 0) (aa (pv 1) af))))) (av (mS ef.MG rfl (by rfl) T.Ej PySem.F.excBase_ValueError (aa tN af))) bW)),?_⟩
  refine vM ?_;intro cR;refine(ao rfl (ao rfl ⟨wb,p,ts,g,S,rfl,hw,?_⟩));rcases q with⟨m,rfl,hm,q1,q2⟩|⟨hS,q⟩
  ·refine .inl ⟨m,rfl,hm,fun H1 s1=>?_⟩
   by_cases r:g.N.Ring m
   ·rw[(wQ g hm).mpr r];exact(ao rfl (iL (q1 r H1 s1)))
   ·rw[show qk p ts g m=false from Bool.eq_false_iff.mpr fun z=>r ((wQ g hm).mp z)]
    exact(ao rfl (lu ⟨dl rfl,q2 r H1 s1⟩))
  ·exact .inr ⟨hS,q⟩
theorem vg(T:Txt K mg a):aL P w K mg base dh 3 a.nj a.qC ["web","tie_set","point"] xH:=by
 have bM:aL P w K mg base dh 2 a.eN a.fK ["tie_set"] gS:=bM T;refine T.AD.ok DY (fun vs H Q E h=>?_) (fun cdv A outer s H vs Q E hr h=>?_)
 ·obtain⟨w,p,ts,g,S,m,x,t,rfl,_⟩:=h;rfl
 ·obtain⟨wb,p,ts,g,S,m,x,t0,rfl,rfl,hw,hm,Zc,q⟩:=h;refine⟨_,(av (aQ (aD (mH K) (cC (own:=["tie"]) (fq:=["web","point"]) (js:=[0,2]) (aK (ae jq) ["web","tie_set","point"]) rfl (vD K (aA bM (hr.mono (by decide)) (by rfl) T.kQ T.kX T.kR .nil bg (aa (pv 1) af))) (fun _ _ _ _=>(aE (i:=0) (show(["tie","web","point"]:List Str).Nodup by decide +kernel) rfl (Or.inl rfl))) (fun _ _ _ _=>(eH (aP (Qo K) (pv 2) (mQ (WR K) (aD (fM K) (aD (fM K) (pv 1) ah (fun _ _=>rfl)) (pv 0) (fun _ _=>rfl)) pR (pS ah)) (by with_unfolding_all rfl)))) (fun _ _ _ _=>(pv 0))) ah (fun _ _=>rfl)))),?_⟩
  obtain⟨bt,xs,h1,h2,h3⟩:=id hw.ex;have vA:=h3.length;have wl:=g.len;have Lk:Builtin.Int.intBits (m:Int)<=ts.length:=bits_le hm;refine(ao rfl ⟨m,rfl,by lia,fun D H1 hn1 s1 hD=>⟨D,rfl,⟨_,aW.of hD⟩,fun C hC=>cf (xs:=aV (bw (m:Int))) (pB (fun t=>decide (g.N.a t=x\/g.N.b t=x)) (bw (m:Int)) H1 C) (.start hC) (fun i acc H2 _ f=>⟨aW.of (f.1 _ _ hD),f.len⟩) ?_ ?_ ?_⟩⟩)
  ·rw[aM];refine gX (Nat.le_trans (List.length_filter_le _ _) ?_);rw[List.length_range]
   lia
  ·intro i y acc H2 hy f;obtain⟨t,ht,rfl⟩:=dP hy;have LK:=nN hm (nJ ht);obtain⟨b,hxb,hct⟩:=yv (g:=g) h3 LK;have s2:=s1.trans f.1;refine⟨rfl,ao rfl (ao rfl (fN (bI.of (s2 _ _ h1)) (aq (j:=1) rfl) (ao rfl (fN (bI.of (s2 _ _ h2)) (aq (j:=t) hxb) (?_)))))⟩;refine(ao rfl ⟨b,_,rfl,bI.of (s2 _ _ hct),(fun z=>absurd (show HT.gy 3 3 (some 2)=3 from z.2) (by decide)),fun u hu=>?_⟩)
   rw[Je];refine(tK rfl (.inr (bI.of aj)) ⟨rfl,rfl,ao rfl (?_)⟩);dsimp only;rw[G5];cases hb:decide (g.N.a t=x\/g.N.b t=x) with
   | true=>exact(ao rfl (f.yes hC (au.new hu) ht hb))
   | false=>exact f.no (au.new hu) ht hb
  ·intro acc H2 f;rw[aM]at f;have Hx:=f.fin;rw[Et hm]at Hx;exact(nY (aW.of Hx) (aq (j:=0) (tD Zc)) (q H2 (s1.trans f.1)))
theorem rS(T:Txt K mg a):aL P w K mg base dh 1 a.kL a.oi ["web","tie","point"] vf:=by
 refine T.xr.ok uG (fun vs H Q E h=>?_) (fun cdv A outer s H vs Q E hr h=>?_)
 ·obtain⟨w,p,ts,g,t,x,rfl,_⟩:=h;rfl
 ·obtain⟨wb,p,ts,g,t,x,rfl,hw,ht,q⟩:=h;refine⟨_,(ai (aN (i:=3) uG.nd rfl (Or.inl rfl) (aD (fM K) (aD (fM K) (pv 0) ah (fun _ _=>rfl)) (pv 1) (fun _ _=>rfl)))
   (av (aQ (j6 (aP gx (aD (fM K) (pv 3) ah (fun _ _=>rfl)) (pv 2) (aX _)) (aD (fM K) (pv 3) ah (fun _ _=>rfl)) (aD (fM K) (pv 3) ah (fun _ _=>rfl)))))),?_⟩
  refine BI ?_;intro cR;obtain⟨bt,xs,h1,h2,h3⟩:=id hw.ex;obtain⟨b,hxb,hct⟩:=yv (g:=g) h3 ht;refine(ao rfl (fN (bI.of h1) (aq (j:=1) rfl) (ao rfl (fN (bI.of h2) (aq (j:=t) hxb) (?_)))));refine(ao rfl (fN (bI.of hct) (aq (j:=0) rfl) (ao rfl ⟨rfl,ao rfl (?_)⟩)));rw[gY];unfold RM.Net.IB at q
  by_cases e:g.N.a t=x
  ·rw[if_pos e]at q;rw[eG e];exact lu (ao rfl (fN (bI.of hct) (aq (j:=1) rfl) (q)))
  ·rw[if_neg e]at q;rw[ia e];exact iL (ao rfl (fN (bI.of hct) (aq (j:=0) rfl) (q)))
theorem vh(T:Txt K mg a):aL P w K mg base (jZ P w) 9 a.nk a.qD ["web","ring"] (xJ a.bj a.dm):=by
 have lU:aL P w K mg base (jZ P w) 8 a.gc a.iR ["web","ring"] (oU a.bj a.dm):=lU T;have bM:aL P w K mg base dh 2 a.eN a.fK ["tie_set"] gS:=bM T;have vg:aL P w K mg base dh 3 a.nj a.qC ["web","tie_set","point"] xH:=vg T;have rS:aL P w K mg base dh 1 a.kL a.oi ["web","tie","point"] vf:=rS T;refine T.AE.Cj fG (fun vs H Q E h=>?_) (fun cdv A outer s H vs Q E hr h=>?_)
 ·obtain⟨w,p,ts,g,S,rfl,_⟩:=h;rfl
 ·obtain⟨wb,p,ts,g,S,rfl,hw,q⟩:=h;refine⟨_,(ai (gW (aA lU (hr.mono (by decide)) (by rfl) T.yR T.yZ T.yS .nil ef.passes (aa (pv 0) (aa (pv 1) af))))
   (ai (aN (i:=2) fG.nd rfl (Or.inl rfl) (aD (mH K) (aA bM (hr.mono (by decide)) (by rfl) T.kQ T.kX T.kR .nil bg (aa (pv 1) af)) ah (fun _ _=>rfl)))
   (ai (aN (i:=3) fG.nd rfl (Or.inl rfl) (fP (aa (mP (aa (pv 2) (aa ah af))) af)))
   (ai (aN (i:=4) fG.nd rfl (Or.inl rfl) (aD (fM K) (aD (fM K) (aD (fM K) (pv 0) ah (fun _ _=>rfl)) (pv 2) (fun _ _=>rfl)) ah (fun _ _=>rfl)))
   (ai (aN (i:=5) fG.nd rfl (Or.inl rfl) (aJ oY (pv 1) (aJ rA ah (pv 2))))
   (ai (EO PassesOwn.leaving (aP zo (pv 5) ah (aX _)) (ai (aN (i:=6) fG.nd rfl (Or.inl rfl) (aA vg (hr.mono (by decide)) (by rfl) T.GP T.GY T.GQ .nil bg (aa (pv 0) (aa (pv 5) (aa (pv 4) af)))))
   (ai (gW (Lg K (tW PySem.F.plainAttrs_list PySem.F.slot_list_append PySem.F.type_list_append dO (pv 3) (aa (mP (aa (pv 6) (aa (j6 (aP gx (aD (fM K) (aD (fM K) (aD (fM K) (pv 0) ah (fun _ _=>rfl)) (pv 6) (fun _ _=>rfl)) ah (fun _ _=>rfl)) (pv 4) (aX _)) ah (ET Ba ah)) af))) af))))
   (ai (aN (i:=4) fG.nd rfl (Or.inl rfl) (aA rS (hr.mono (by decide)) (by rfl) T.Ec T.Ep T.Ed .nil bg (aa (pv 0) (aa (pv 6) (aa (pv 4) af)))))
   (av (A3 (i:=5) fG.nd rfl (Or.inl rfl) (aJ rA ah (pv 6)) HQ))))))
   (av (aQ (pv 3))))))))),?_⟩
  refine DZ ?_;intro cR fE iI mh sD sE uC C1 C2 C3;obtain⟨bt,xs,h1,h2,h3⟩:=id hw.ex;have wl:=g.len;have wp:=g.p2;refine(ao rfl (ao rfl ⟨wb,p,ts,g,S,rfl,hw,?_⟩));rcases q with⟨m,rfl,hm,q1,q2⟩|⟨hS,q⟩
  case inr=>exact .inr ⟨hS,q⟩
  refine .inl ⟨m,rfl,hm,fun r H1 s1=>?_,q2⟩
  have Lk:Builtin.Int.intBits (m:Int)<=ts.length:=bits_le hm;obtain⟨c,hc0,hcb⟩:=DN r.1;have hcl:=RM.cD hm hcb;obtain⟨b,hxb,hct⟩:=yv (g:=g) h3 hcl;refine(ao rfl ⟨m,rfl,by lia,fun D H2 hn2 s2 hD=>(nY (aW.of hD) (aq (j:=0) (tD hc0)) (?_))⟩)
  have s12:au H H2:=s1.trans s2;refine(ao rfl ⟨dl rfl,fun b0 hb0=>⟨dl rfl,fun Dw QZ=>?_⟩⟩)
  have s4:au H (upd (upd H2 b0 (.tup [.int ((c:Nat):Int),.int 1])) Dw (.lst [.ref b0])):=(s12.trans (au.new hb0)).trans (au.new QZ);have ED:H Dw=none:=(s12.trans (au.new hb0)).free QZ;have w4:WalkAt (upd (upd H2 b0 (.tup [.int ((c:Nat):Int),.int 1])) Dw (.lst [.ref b0])) Dw [(c,1)] :=
   ⟨[.ref b0],aj,.cons ⟨b0,rfl,au.new QZ _ _ aj⟩ .nil⟩
  generalize upd (upd H2 b0 (.tup [.int ((c:Nat):Int),.int 1])) Dw (.lst [.ref b0])=H4 at s4 w4;refine(ao rfl (fN (bI.of (s4 _ _ h1)) (aq (j:=1) rfl) (ao rfl (fN (bI.of (s4 _ _ h2)) (aq (j:=c) hxb) (fN (bI.of (s4 _ _ hct)) (aq (j:=1) rfl) (?_))))));refine(ao rfl (ao rfl (cE ⟨⟨by lia,by lia,by decide⟩,cE (?_)⟩)))
  refine⟨fun k σ H5=>∃ acc v left v6,σ=[some (.ref wb),some (.int (m:Int)),some (.int ((c:Nat):Int)),some (.ref Dw),some (.int ((v:Nat):Int)),some (.int ((left:Nat):Int)),v6]/\au H H5/\WalkAt H5 Dw acc/\RM.Wk g.N m c acc v left/\k=RM.cnt (fun j=>left.testBit j) ts.length,⟨_,[(c,1)],g.N.b c,m^^^2^c,none,by show[_,_,_,_,_,some (V.int (Builtin.bitXor _ (1*2^(c:Int).toNat))),_]=_;rw[tu,xor_int],s4,w4,.start,rfl⟩,?_⟩
  rintro k σ H5 ⟨acc,v,left,v6,rfl,s5,w5,wk,rfl⟩;refine(ao rfl (cE (ao rfl (zy (fun hpos=>?_) (fun hpos=>?_)))))
  ·have hpos:(0:Int)<((left:Nat):Int):=mG hpos;have hne:left≠0:=by lia
   obtain⟨t,ht⟩:=RM.JK hm r hcb wk hne;have JM:=RM.eg.mp (nJ ht);have LK:t<ts.length:=JM.1;have Zd:left<2^ts.length:=(RM.MT hm r hcb wk).2.1;have Ze:RM.cnt (fun j=>left.testBit j) ts.length=RM.cnt (fun j=>(left^^^2^t).testBit j) ts.length+1:=RM.ux LK JM.2.1
   have hlen:=RM.pC hm hcb wk;have Zf:RM.cnt (fun j=>m.testBit j) ts.length<=ts.length:=by
    have:=RM.qg (fun j=>m.testBit j) ts.length
    lia
   have hlen:acc.length+RM.cnt (fun j=>left.testBit j) ts.length=RM.cnt (fun j=>m.testBit j) ts.length:=hlen
   refine⟨fun σ H6=>∃ acc v left' v6,σ=[some (.ref wb),some (.int (m:Int)),some (.int ((c:Nat):Int)),some (.ref Dw),some (.int ((v:Nat):Int)),some (.int ((left' : Nat):Int)),v6]/\au H H6/\WalkAt H6 Dw acc/\RM.Wk g.N m c acc v left'/\RM.cnt (fun j=>left'.testBit j) ts.length<RM.cnt (fun j=>left.testBit j) ts.length,fun σ H6 ⟨acc,v,left',v6,z1,z2,z3,z4,z5⟩=>⟨_,z5,acc,v,left',v6,z1,z2,z3,z4,rfl⟩,?_⟩
   refine(ao rfl (ao rfl (ao rfl ⟨wb,p,ts,g,_,left,v,t,rfl,rfl,hw.same s5,Zd,ht,fun H6 s6=>?_⟩)))
   have LL:=s5.trans s6;obtain⟨ws,hws,hwp⟩:=w5.same s6;obtain⟨bb,Q0,Q2⟩:=yv (g:=g) h3 LK;refine(ao rfl ⟨.inl ⟨rfl,_,aW.of hws⟩,ao rfl (ao rfl (fN (bI.of (LL _ _ h1)) (aq (j:=1) rfl) (ao rfl (fN (bI.of (LL _ _ h2)) (aq (j:=t) Q0) (fN (bI.of (LL _ _ Q2)) (aq (j:=0) rfl) (ao rfl ⟨rfl,ao rfl (?_)⟩))))))⟩);rw[gY];have Nc:ws.length<sizeLine:=by
    rw[hwp.length];exact o8 (by lia)
   have fin:∀ y:Int,y=(if g.N.a t=v then 1 else -1)->∀ b1,H6 b1=none->
    (fun(σ' : St) (Xp:Hp)=>∃ acc v left' v6,σ' = [some (.ref wb),some (.int (m:Int)),some (.int ((c:Nat):Int)),some (.ref Dw),some (.int ((v:Nat):Int)),some (.int ((left' : Nat):Int)),v6]/\au H Xp/\WalkAt Xp Dw acc/\RM.Wk g.N m c acc v left'/\RM.cnt (fun j=>left'.testBit j) ts.length<RM.cnt (fun j=>left.testBit j) ts.length) [some (.ref wb),some (.int (m:Int)),some (.int ((c:Nat):Int)),some (.ref Dw),some (.int ((g.N.IB t v:Nat):Int)),some (.int ((left^^^2^t:Nat):Int)),some (.int ((t:Nat):Int))] (upd (upd H6 b1 (.tup [.int ((t:Nat):Int),.int y])) Dw (.lst (ws++[.ref b1]))):=by
    rintro y rfl b1 hb1;have s7:au H6 (upd H6 b1 (.tup [.int ((t:Nat):Int),.int (if g.N.a t=v then 1 else -1)])):=au.new hb1
    exact⟨_,_,_,_,rfl,(LL.trans s7).put ED,WalkAt.push (q:=(t,if g.N.a t=v then 1 else -1)) (s7 _ _ hws) (Paired.imp' (fun _ _ z=>CD.same s7 z) hwp) aj,.next wk hne ht,by lia⟩
   have Xq:Builtin.bitXor ((left:Nat):Int) (1*2^((t:Nat):Int).toNat)=((left^^^2^t:Nat):Int):=by rw[tu,xor_int]
   by_cases e:g.N.a t=v
   ·rw[eG e];refine lu ⟨dl rfl,fun b1 hb1=>⟨Dw,ws,_,rfl,rfl,au.new hb1 _ _ hws,Nc,?_⟩⟩
    have f:=fin 1 (by rw[if_pos e]) b1 hb1
    have s8:au H (upd (upd H6 b1 (.tup [.int ((t:Nat):Int),.int 1])) Dw (.lst (ws++[.ref b1]))):=(LL.trans (au.new hb1)).put ED;generalize upd (upd H6 b1 (.tup [.int ((t:Nat):Int),.int 1])) Dw (.lst (ws++[.ref b1]))=H8 at f s8;refine(ao rfl (ao rfl (ao rfl ⟨wb,p,ts,g,t,v,rfl,hw.same s8,LK,_,rfl,ao rfl (cE ⟨⟨by lia,by lia,by decide⟩,cE (?_)⟩)⟩)))
    dsimp only;rw[Xq];exact f
   ·rw[ia e];refine iL (ao rfl ⟨dl rfl,fun b1 hb1=>⟨Dw,ws,_,rfl,rfl,au.new hb1 _ _ hws,Nc,?_⟩⟩)
    have f:=fin (-1) (by rw[if_neg e]) b1 hb1
    have s8:au H (upd (upd H6 b1 (.tup [.int ((t:Nat):Int),.int (-1)])) Dw (.lst (ws++[.ref b1]))):=(LL.trans (au.new hb1)).put ED;generalize upd (upd H6 b1 (.tup [.int ((t:Nat):Int),.int (-1)])) Dw (.lst (ws++[.ref b1]))=H8 at f s8;refine(ao rfl (ao rfl (ao rfl ⟨wb,p,ts,g,t,v,rfl,hw.same s8,LK,_,rfl,ao rfl (cE ⟨⟨by lia,by lia,by decide⟩,cE (?_)⟩)⟩)))
    dsimp only;rw[Xq];exact f
  ·have hz:left=0:=by
    have : ¬(0:Int)<((left:Nat):Int):=fun z=>hpos (eG z)
    lia
   subst hz;exact(ao rfl (q1 r Dw H5 c acc v ED s5 hcb hc0 wk w5))
end
def iK(acc:List (Nat×Int))(n:Nat):List Int:=acc.foldl (fun l q=>l.set q.1 q.2) (List.replicate n 0)
def AM(l r:List Int):Int:=((List.range l.length).map fun k=>l.getD k 0*r.getD k 0).sum
def bP(p:Nat)(ts:List cg)(g:az p ts)(S:Int)(l:List Int):Prop:=∃(m t0 v:Nat) (acc:List (Nat×Int)),S=(m:Int)/\m<2^ts.length/\g.N.Ring m/\m.testBit t0=true/\(bw (m:Int))[0]?=some t0/\RM.Wk g.N m t0 acc v 0/\l=iK acc ts.length
def pL(C R:Addr):Sp:=fun vs H Q E=>∃ w p ts,∃ g:az p ts,∃ S,vs=[.ref w,.int S]/\bE H w p ts/\qW ts S (∀ H',au H H'->E (.ref C) none H') fun m =>
 (g.N.Ring m->∀ D H' l,H D=none->au H H'->bP p ts g (m:Int) l->H' D=some (.lst (aR l))->Q (.ref D) H')/\(¬ g.N.Ring m->∀ H',au H H'->E (.ref R) none H')
def vj:Sp:=fun vs H Q _=>∃(a b:Addr) (l r:List Int) (n:Nat),vs=[.ref a,.ref b]/\H a=some (.lst (aR l))/\H b=some (.lst (aR r))/\l.length=n/\r.length=n/\n<=24/\(∀ x∈l,x=0\/x=1\/x = -1)/\∀ H',au H H'->Q (.int (AM l r)) H'
def GoodR(p:Nat)(ts:List cg)(g:az p ts)(S:Int):Prop:=∃ m:Nat,S=(m:Int)/\m<2^ts.length/\g.N.Ring m
def oV(C R:Addr):Sp:=fun vs H Q E=>∃ w r p ts,∃ g:az p ts,∃ rs:List Int,vs=[.ref w,.ref r]/\bE H w p ts/\H r=some (.lst (aR rs))/\rs.length<=24/\
 (∀(i:Nat) S,rs[i]?=some S->(∀ x∈rs.take i,GoodR p ts g x)->(S<0\/2^ts.length<=S)->∀ H',au H H'->E (.ref C) none H')/\
 (∀(i m:Nat),rs[i]?=some (m:Int)->(∀ x∈rs.take i,GoodR p ts g x)->m<2^ts.length->¬ g.N.Ring m->∀ H',au H H'->E (.ref R) none H')/\
 ((∀ x∈rs,GoodR p ts g x)->∀ D ys H' (wl:List (List Int)),H D=none->au H H'->H' D=some (.lst ys)->Paired (bP p ts g) rs wl->Paired (fV D H H') ys (wl.map fun one=>wl.map fun other=>AM one other)->ys.Nodup->Q (.ref D) H')
theorem BS(acc:List (Nat×Int))(q:Nat×Int)(n:Nat):iK (acc++[q]) n=(iK acc n).set q.1 q.2:=by
 unfold iK;rw[List.foldl_append];rfl
theorem xK(acc:List (Nat×Int))(n:Nat):(iK acc n).length=n:=by
 unfold iK;have:∀(acc:List (Nat×Int)) (l:List Int),(acc.foldl (fun l q=>l.set q.1 q.2) l).length=l.length:=fun acc=>by
  induction acc with
  | nil=>exact fun l=>rfl
  | cons q acc ih =>
    intro l;rw[List.foldl_cons,ih,List.length_set]
 rw[this,List.length_replicate]
theorem BU{acc:List (Nat×Int)}(h:∀ q∈acc,q.2=1\/q.2 = -1)(n:Nat):∀ x∈iK acc n,x=0\/x=1\/x = -1:=by
 unfold iK;have:∀(acc:List (Nat×Int)) (l:List Int),(∀ q∈acc,q.2=1\/q.2 = -1)->(∀ x∈l,x=0\/x=1\/x = -1)->∀ x∈acc.foldl (fun l q=>l.set q.1 q.2) l,x=0\/x=1\/x = -1:=fun acc=>by
  induction acc with
  | nil=>exact fun l _ h=>h
  | cons q acc ih =>
    intro l h1 h2;rw[List.foldl_cons];refine ih _ (fun q hq=>h1 q (vz _ hq)) fun x hx=>?_
    rcases List.mem_or_eq_of_mem_set hx with z|z
    ·exact h2 x z
    ·rw[z];exact .inr (h1 q List.mem_cons_self)
 exact this acc _ h fun x hx=>.inl (List.eq_of_mem_replicate hx)
theorem bP.len{p:Nat}{ts:List cg}{g:az p ts}{S:Int}{l:List Int}(h:bP p ts g S l):l.length=ts.length:=by
 obtain⟨m,t0,v,acc,_,_,_,_,_,_,rfl⟩:=h;exact xK _ _
theorem bP.vals{p:Nat}{ts:List cg}{g:az p ts}{S:Int}{l:List Int}(h:bP p ts g S l):∀ x∈l,x=0\/x=1\/x = -1:=by
 obtain⟨m,t0,v,acc,_,_,_,_,_,wk,rfl⟩:=h;exact BU (IF wk) _
theorem bP.good{p:Nat}{ts:List cg}{g:az p ts}{S:Int}{l:List Int}(h:bP p ts g S l):GoodR p ts g S:=by
 obtain⟨m,t0,v,acc,e,hm,rg,_⟩:=h;exact⟨m,e,hm,rg⟩
theorem nB{α β:Type}{F:α->β->Prop}:∀{l:List α} {r:List β},Paired F l r->∀{x:α},x∈l->∃ y,y∈r/\F x y
 | _,_,.cons h1 h2,y,hy=>by
   rcases List.mem_cons.mp hy with rfl|hy
   ·exact⟨_,List.mem_cons_self,h1⟩
   ·obtain⟨x,hx,hf⟩:=nB h2 hy;exact⟨x,vz _ hx,hf⟩
theorem eT{α β:Type}{F:α->β->Prop}:∀{l:List α} {r:List β},Paired F l r->∀{y:β},y∈r->∃ x,x∈l/\F x y
 | _,_,.cons h1 h2,y,hy=>by
   rcases List.mem_cons.mp hy with rfl|hy
   ·exact⟨_,List.mem_cons_self,h1⟩
   ·obtain⟨x,hx,hf⟩:=eT h2 hy;exact⟨x,vz _ hx,hf⟩
theorem mU:∀ p:Nat,(List.replicate p [V.int 0]).flatten=aR (List.replicate p 0)
 | 0=>rfl
 | p+1=>by
   rw[List.replicate_succ,List.flatten_cons,mU p,List.replicate_succ];rfl
theorem ints_snoc(l:List Int)(x:Int):aR l++[.int x]=aR (l++[x]):=by
 unfold aR;rw[List.map_append];rfl
section
variable {P:Program}{w:World}{K:bY}{mg:jY}{base:Heap}{a:yK}
theorem jc(T:Txt K mg a):aL P w K mg base (jZ P w) 10 a.ja a.kM ["web","ring"] (pL a.bj a.dm):=by
 have vh:aL P w K mg base (jZ P w) 9 a.nk a.qD ["web","ring"] (xJ a.bj a.dm):=vh T;refine T.xu.Cj lN (fun vs H Q E h=>?_) (fun cdv A outer s H vs Q E hr h=>?_)
 ·obtain⟨w,p,ts,g,S,rfl,_⟩:=h;rfl
 ·obtain⟨wb,p,ts,g,S,rfl,hw,q⟩:=h;refine⟨_,(ai (aN (i:=2) lN.nd rfl (Or.inl rfl) (aJ yd (fP (aa ah af)) (bf (j8 K) (by rfl) T.fL PySem.boot_len (aa (aD (fM K) (pv 0) ah (fun _ _=>rfl)) af))))
   (ai (pW rfl (vD K (aA vh (hr.mono (by decide)) (by rfl) T.GR T.GZ T.GS .nil ef.passes (aa (pv 0) (aa (pv 1) af)))) (JB K (n:=2) rfl (bJ (aE (i:=3) lN.nd rfl (Or.inl rfl)) (bJ (aE (i:=4) lN.nd rfl (Or.inl rfl)) jB)))
   (av (rq (pv 4) (tR (pv 2) (pv 3) set_list))))
   (av (aQ (pv 2))))),?_⟩
  refine BJ ?_;intro cR fE iI;obtain⟨bt,xs,h1,h2,h3⟩:=id hw.ex;have vA:=h3.length;have wl:=g.len;refine⟨dl rfl,fun l1 hl1=>(ao rfl (fN (bI.of (au.new hl1 _ _ h1)) (aq (j:=1) rfl) (tK rfl (.inr (bI.of (au.new hl1 _ _ h2))) ⟨l1,((xs.length:Nat):Int),ao rfl ⟨rfl,aj,by lia,by lia,(by rw[Int.toNat_natCast];show 1*xs.length<=sizeLine;exact gX (by lia)),fun Z hZ=>?_⟩⟩)))⟩
  have Xr:H Z=none:=(au.new (o:=.lst [.int 0]) hl1).free hZ;have s1:au H (upd (upd H l1 (.lst [.int 0])) Z (.lst (List.replicate ((xs.length:Nat):Int).toNat [V.int 0]).flatten)):=(au.new hl1).trans (au.new hZ);have Q3:upd (upd H l1 (.lst [.int 0])) Z (.lst (List.replicate ((xs.length:Nat):Int).toNat [V.int 0]).flatten) Z=some (.lst (aR (iK [] ts.length))):=by rw[aj,Int.toNat_natCast,mU,vA];rfl
  generalize upd (upd H l1 (.lst [.int 0])) Z (.lst (List.replicate ((xs.length:Nat):Int).toNat [V.int 0]).flatten)=H1 at s1 Q3;refine(ao rfl (ao rfl ⟨wb,p,ts,g,S,rfl,hw.same s1,?_⟩));rcases q with⟨m,rfl,hm,q1,q2⟩|⟨hS,qb⟩
  case inr=>exact .inr ⟨hS,fun H' s'=>qb H' (s1.trans s')⟩
  refine .inl ⟨m,rfl,hm,fun rg D H2 t0 acc v hD s2 hb h0 wk wa=>?_,fun nr H' s'=>q2 nr H' (s1.trans s')⟩
  obtain⟨ws,hws,hwp⟩:=wa;have Zg:D≠Z:=fun z=>by
   rw[z,Q3]at hD;cases hD
  refine⟨D,rfl,⟨_,aW.of hws⟩,i3 (K:=K) (a:=D) (xs:=ws) (fun i σ H3=>∃ v3 v4,σ=[some (.ref wb),some (.int (m:Int)),some (.ref Z),v3,v4]/\au H H3/\H3 D=some (.lst ws)/\Paired (CD H3) ws acc/\H3 Z=some (.lst (aR (iK (acc.take i) ts.length)))) ⟨_,_,rfl,s1.trans s2,hws,hwp,s2 _ _ Q3⟩ (fun i σ H3 _ ⟨_,_,_,_,z,_⟩=>aW.of z) ?_ ?_⟩
  ·rintro i x D' σ H3 hx ⟨v3,v4,rfl,s3,wB,Q4,Nd⟩;obtain⟨y,hy,bq,rfl,Zh⟩:=L2.Paired.mD Q4 hx;have JW:y.1<ts.length:=(RM.MT (N:=g.N) hm rg hb wk).2.2 y (nJ hy);refine⟨bq,_,rfl,bI.of Zh,rfl,_,_,rfl,_,_,rfl,rfl,?_⟩;refine(ao rfl (ao rfl (ao rfl ⟨Z,_,_,y.1,rfl,rfl,Nd,(by rw[bD,xK];exact lD JW),?_⟩)))
   refine⟨_,_,rfl,s3.put Xr,by rw[aT Zg];exact wB,Paired.imp' (fun _ _ z=>CD.put Nd z) Q4,?_⟩
   rw[aj,List.take_add_one,hy];show _=some (HO.lst (aR (iK (acc.take i++[y]) ts.length)));rw[BS,DL]
  ·rintro σ H3 ⟨v3,v4,rfl,s3,wB,Q4,Nd⟩;rw[hwp.length,List.take_length]at Nd;exact(ao rfl (q1 rg Z H3 _ Xr s3 ⟨m,t0,v,acc,rfl,hm,rg,hb,h0,wk,rfl⟩ Nd))
theorem lV(T:Txt K mg a):aL P w K mg base dh 1 a.gh a.iS ["one","other"] vj:=by
 refine T.qL.ok vN (fun vs H Q E h=>?_) (fun cdv A outer s H vs Q E hr h=>?_)
 ·obtain⟨a,b,l,r,n,rfl,_⟩:=h;rfl
 ·obtain⟨a1,b1,l,r,n,rfl,ha,hb,la,lb,hn,vals,q⟩:=h;refine⟨_,(av (aQ (bf (sumK K rfl) (by rfl) T.M8 PyProof.Rows.boot_sum (aa (cC (own:=["here","there"]) (fq:=[]) (js:=[]) (aK (ae dJ) ["one","other"]) rfl (yj K (by rfl) T.C5 (aa (pv 0) (aa (pv 1) af))) (fun _ _ _ _=>(JB K (n:=2) rfl (bJ (aE (i:=0) (show(["here","there"]:List Str).Nodup by decide +kernel) rfl (Or.inl rfl)) (bJ (aE (i:=1) (show(["here","there"]:List Str).Nodup by decide +kernel) rfl (Or.inl rfl)) jB)))) (fun _ _ _ _=>d8) (fun _ _ _ _=>(aJ rz (pv 0) (pv 1)))) af)))),?_⟩
  refine(ao rfl (ao rfl ⟨a1,b1,rfl,⟨_,aW.of ha⟩,⟨_,aW.of hb⟩,fun D hD=>pX (xs:=aR l) (ys:=aR r) (by rw[bD,bD,la,lb]) (fun i ac H2=>au H H2/\H2 D=some (.lst ac)/\ac=aR ((List.range i).map fun k=>l.getD k 0*r.getD k 0)) ⟨au.new hD,aj,rfl⟩ (fun i ac H4 _ ⟨f1,f2,e⟩=>⟨aW.of (f1 _ _ ha),aW.of (f1 _ _ hb),f2,by rw[e,bD,List.length_map,List.length_range];exact Nat.le_refl _⟩) (gX (by rw[bD];lia)) ?_ ?_⟩))
  ·rintro i x y T0 ac H2 hx hy ⟨f1,f2,rfl⟩ hT;obtain⟨hi,rfl⟩:=lF hx;obtain⟨_,rfl⟩:=lF hy;have s2:au H2 (upd H2 T0 (.tup [.int (l.getD i 0),.int (r.getD i 0)])):=au.new hT;have hT2:upd H2 T0 (.tup [.int (l.getD i 0),.int (r.getD i 0)]) T0=some (.tup [.int (l.getD i 0),.int (r.getD i 0)]):=aj;generalize upd H2 T0 (.tup [.int (l.getD i 0),.int (r.getD i 0)])=H3 at s2 hT2;have hv:l.getD i 0=0\/l.getD i 0=1\/l.getD i 0 = -1:=vals _ (by rw[List.getD_eq_getElem?_getD,List.getElem?_eq_getElem hi];exact List.getElem_mem hi)
   refine⟨T0,_,rfl,bI.of hT2,rfl,_,_,rfl,_,_,rfl,rfl,rfl,?_⟩;refine(ao rfl (ao rfl (cE ⟨.inl (by rcases hv with e | e | e<;>rw[e]<;>decide),s2 _ _ f2,(f1.trans s2).put hD,aj,?_⟩)))
   rw[ints_snoc,List.range_succ,List.map_append];rfl
  ·rintro ac H2 ⟨f1,f2,rfl⟩;rw[bD]at f2;exact⟨D,_,rfl,aW.of f2,q H2 f1⟩
theorem iV(T:Txt K mg a):aL P w K mg base (jZ P w) 11 a.gi a.iT ["web","rings"] (oV a.bj a.dm):=by
 have jc:aL P w K mg base (jZ P w) 10 a.ja a.kM ["web","ring"] (pL a.bj a.dm):=jc T;have lV:aL P w K mg base dh 1 a.gh a.iS ["one","other"] vj:=lV T;refine T.qM.Cj gZ (fun vs H Q E h=>?_) (fun cdv A outer s H vs Q E hr h=>?_)
 ·obtain⟨w,r,p,ts,g,rs,rfl,_⟩:=h;rfl
 ·obtain⟨wb,r,p,ts,g,rs,rfl,hw,hR,Xs,qB,qN,q⟩:=h;refine⟨_,(ai (FW (i:=2) ef gZ.nd rfl rfl (own:=["ring"]) (fq:=["web"]) (js:=[0]) (aK (ae cS) ["web","rings","ways","table","one"]) rfl (vD K (pv 1)) (fun _ _ _ _=>(aE (i:=0) (show(["ring","web"]:List Str).Nodup by decide +kernel) rfl (Or.inl rfl))) (fun _ _ _ _=>d8) (fun _ _ _ _=>(aA jc (hr.mono (by decide)) (by rfl) T.xw T.xE T.xx .nil MR (aa (pv 1) (aa (pv 0) af)))))
   (ai (aN (i:=3) gZ.nd rfl (Or.inl rfl) (fP af))
   (ai (pW rfl (vD K (pv 2)) (aE (i:=4) gZ.nd rfl (Or.inr rfl))
   (av (gW (Lg K (tW PySem.F.plainAttrs_list PySem.F.slot_list_append PySem.F.type_list_append dO (pv 3) (aa (cC (own:=["other"]) (fq:=["one"]) (js:=[4]) (aK (ae cS) ["web","rings","ways","table","one"]) rfl (vD K (pv 2)) (fun _ _ _ _=>(aE (i:=0) (show(["other","one"]:List Str).Nodup by decide +kernel) rfl (Or.inl rfl))) (fun _ _ _ _=>d8) (fun _ _ _ _=>(aA lV (hr.mono (by decide)) (by rfl) T.yT T.y9 T.yU .nil bg (aa (pv 1) (aa (pv 0) af))))) af))))))
   (av (aQ (pv 3)))))),?_⟩
  refine vO ?_;intro cR fE iI mh;have Xu:=g.len;have OP:((2:Int)^ts.length)=((2^ts.length:Nat):Int):=by simp
  refine(ao rfl ⟨r,rfl,⟨_,aW.of hR⟩,fun C hC=>cf (xs:=aR rs) (fun i ac H2=>au H H2/\H2 C=some (.lst ac)/\∃ wl,Paired (bP p ts g) (rs.take i) wl/\Paired (fV C H H2) ac wl) ⟨au.new hC,aj,[],by rw[List.take_zero];exact .nil,.nil⟩ (fun i ac H2 _ ⟨f1,f2,wl,e1,e2⟩=>⟨aW.of (f1 _ _ hR),f2,by rw[e2.length,<-e1.length];exact List.length_take_le _ _⟩) (gX (by rw[bD];exact Xs)) ?_ ?_⟩)
  ·rintro i x ac H2 hx ⟨s2,Hx,wl,pw,pr⟩;unfold aR at hx;rw[List.getElem?_map]at hx;obtain⟨S,hS,rfl⟩:=J7.mp hx;have before:∀ x∈rs.take i,GoodR p ts g x:=fun x hx=>by
    obtain⟨l,_,z⟩:=nB pw hx;exact z.good
   refine⟨rfl,ao rfl (ao rfl ⟨wb,p,ts,g,S,rfl,hw.same s2,?_⟩)⟩
   by_cases hs:0<=S/\S<2^ts.length
   ·obtain⟨m,rfl⟩:=Int.eq_ofNat_of_zero_le hs.1;have hm:m<2^ts.length:=by lia
    refine .inl ⟨m,rfl,hm,fun rg D H3 l hD s3 wi wB=>?_,fun nr H' s'=>qN i m hS before hm nr H' (s2.trans s')⟩
    have hDC:D≠C:=fun z=>by
     rw[z,Hx]at hD;cases hD
    refine⟨s3 _ _ Hx,(s2.trans s3).put hC,aj,wl++[l],?_,cO (fV.put ⟨D,rfl,hDC,s2.free hD,wB⟩) (Paired.imp' (fun _ _ z=>(z.same s3).put) pr)⟩
    rw[List.take_add_one,hS];exact cO wi pw
   ·exact .inr ⟨by lia,fun H' s'=>qB i S hS before (by lia) H' (s2.trans s')⟩
  rintro ac H2 ⟨s2,Hx,wl,pw,pr⟩;rw[bD,List.take_length]at pw;have q:=q fun x hx=>by
   obtain⟨l,_,z⟩:=nB pw hx;exact z.good
  have JY:wl.length<=24:=by rw[<-pw.length];exact Xs
  have Nf:∀ l∈wl,l.length=ts.length/\∀ x∈l,x=0\/x=1\/x = -1:=fun l hl=>by
   obtain⟨x,_,z⟩:=eT pw hl;exact⟨z.len,z.vals⟩
  refine⟨dl rfl,fun Tb hTb=>?_⟩
  have OH:H Tb=none:=s2.free hTb;have s3:au H2 (upd H2 Tb (.lst [])):=au.new hTb;have Ng:upd H2 Tb (.lst []) Tb=some (.lst []):=aj;generalize upd H2 Tb (.lst [])=H3 at s3 Ng;refine(ao rfl ⟨C,rfl,⟨_,aW.of (s3 _ _ Hx)⟩,i3 (K:=K) (a:=C) (xs:=ac) (fun i σ H4=>∃ v4 ys,σ=[some (.ref wb),some (.ref r),some (.ref C),some (.ref Tb),v4]/\au H2 H4/\H4 Tb=some (.lst ys)/\Paired (fV Tb H H4) ys ((wl.take i).map fun one=>wl.map fun other=>AM one other)/\ys.Nodup) ⟨none,[],rfl,s3,Ng,by rw[List.take_zero];exact .nil,List.nodup_nil⟩ (fun i σ H4 _ ⟨_,_,_,z,_⟩=>aW.of (z _ _ Hx)) ?_ ?_⟩)
  ·rintro i x D' σ H4 hx ⟨v4,ys,rfl,s4,Fl,py,nd⟩;obtain⟨one,h1,b1,rfl,nb,_,hb1⟩:=L2.Paired.mD pr hx;obtain⟨w1,w2⟩:=Nf one (nJ h1);have MO:i<wl.length:=(zj.mp h1).1;refine(ao rfl ⟨.inl ⟨rfl,_,aW.of Fl⟩,ao rfl ⟨C,rfl,⟨_,aW.of (s4 _ _ Hx)⟩,fun N hN=>cf (xs:=ac) (fun j ad H5=>au H4 H5/\H5 N=some (.lst ad)/\ad=aR ((wl.take j).map fun other=>AM one other)) ⟨au.new hN,aj,by rw[List.take_zero];rfl⟩ (fun j ad H5 _ ⟨f1,f2,e⟩=>⟨aW.of (f1 _ _ (s4 _ _ Hx)),f2,by rw[e,bD,List.length_map];exact List.length_take_le _ _⟩) (gX (by rw[pr.length];exact JY)) ?_ ?_⟩⟩)
   ·rintro j z ad H5 hz ⟨s5,OQ,rfl⟩;obtain⟨other,h2,b2,rfl,_,_,JX⟩:=L2.Paired.mD pr hz;obtain⟨w3,_⟩:=Nf other (nJ h2);refine⟨rfl,ao rfl (ao rfl ⟨b1,b2,one,other,ts.length,rfl,(s4.trans s5) _ _ hb1,(s4.trans s5) _ _ JX,w1,w3,Xu,w2,fun H6 s6=>⟨s6 _ _ OQ,(s5.trans s6).put hN,aj,?_⟩⟩)⟩
    rw[ints_snoc,List.take_add_one,h2,List.map_append];rfl
   ·rintro ad H5 ⟨s5,OQ,rfl⟩;rw[pr.length,List.take_length]at OQ;have Q5:N≠Tb:=fun z=>by
     rw[z,Fl]at hN;cases hN
    have yl:ys.length=i:=by
     rw[py.length,List.length_map,List.length_take]
     lia
    refine⟨Tb,ys,_,rfl,rfl,s5 _ _ Fl,o8 (by lia),?_⟩
    refine⟨_,ys++[.ref N],rfl,(s4.trans s5).put hTb,aj,?_,?_⟩
    ·rw[List.take_add_one,h1,List.map_append];exact cO (fV.put ⟨N,rfl,Q5,(s2.trans s4).free hN,OQ⟩) (Paired.imp' (fun _ _ z=>(z.same s5).put) py)
    ·refine List.nodup_append.mpr ⟨nd,by simp,fun x hx y hy=>?_⟩
     rw[List.mem_singleton.mp hy];exact fun z=>DK py hN (z▸hx)
  ·rintro σ H4 ⟨v4,ys,rfl,s4,Fl,py,nd⟩;rw[pr.length,List.take_length]at py;exact(ao rfl (q Tb ys H4 wl OH (s2.trans s4) Fl pw py nd))
end
def rT:Sp:=fun vs H Q _=>∃ w p ts,∃ g:az p ts,vs=[.ref w]/\bE H w p ts/\∀ D H',H D=none->au H H'->H' D=some (.lst (ik (g.N.trail ts.length) p))->Q (.ref D) H'
def xM:Sp:=fun vs H Q _=>∃ w p ts,∃ g:az p ts,vs=[.ref w]/\bE H w p ts/\∀ H',au H H'->Q (.int ((jG p ts g:Nat):Int)) H'
def oz:Sp:=fun vs H Q _=>∃ w p ts,∃ g:az p ts,vs=[.ref w]/\bE H w p ts/\∀ D H',H D=none->au H H'->H' D=some (.lst (aV g.N.ak))->Q (.ref D) H'
def nE:Sp:=fun vs H Q _=>∃ w p ts,∃ g:az p ts,∃(D:Addr) (c:Nat),vs=[.ref w,.ref D,.int (c:Int)]/\bE H w p ts/\H D=some (.lst (ik (g.N.trail ts.length) p))/\c<ts.length/\Q (.int ((g.N.ring c:Nat):Int)) H
section
variable {P:Program}{w:World}{K:bY}{mg:jY}{base:Heap}{a:yK}
theorem G6{H:Hp}{xs:List V}{p:Nat}{ts:List cg}{g:az p ts}{k:Nat}(h3:Paired (TupAt H) xs ts)(hk:k<ts.length):∃ c,xs[k]?=some (.ref c)/\H c=some (.tup [.int ((g.N.a k:Nat):Int),.int ((g.N.b k:Nat):Int),.int (cM ts k).2.2]):=by
 have hkx:k<xs.length:=by rw[h3.length];exact hk
 obtain⟨t,ht,c,hc,hct⟩:=Paired.mD h3 (i:=k) (x:=xs[k]) (by simp[hkx])
 have MU:t=cM ts k:=by
  have z:=rF hk;rw[ht]at z;exact Option.some.inj z
 refine⟨c,by rw[<-hc];simp[hkx],?_⟩
 rw[hct,<-Cq hk,<-Cr hk,MU];rfl
theorem cK(T:Txt K mg a):aL P w K mg base dh 2 a.cJ a.dN ["web"] rT:=by
 have cy:aL P w K mg base dh 1 a.cu a.dj ["leasts","one","other"] vd:=cy T;refine T.mj.ok bu (fun vs H Q E h=>?_) (fun cdv A outer s H vs Q E hr h=>?_)
 ·obtain⟨w,p,ts,g,rfl,_⟩:=h;rfl
 ·obtain⟨wb,p,ts,g,rfl,hw,q⟩:=h;refine⟨_,(ai (aN (i:=1) bu.nd rfl (Or.inl rfl) (gC (JE rfl) (by rfl) T.BQ PyProof.Rows.boot_list (aa (gC zH (by rfl) T.cF PyProof.Rows.boot_range (aa (aD (fM K) (pv 0) ah (fun _ _=>rfl)) af)) af)))
   (ai (aN (i:=2) bu.nd rfl (Or.inl rfl) (aJ yd (fP (aa ah af)) (aD (fM K) (pv 0) ah (fun _ _=>rfl))))
   (ai (iD PassesOwn.never rfl (cH (by rfl) T.cF (aa (bf (j8 K) (by rfl) T.fL PySem.boot_len (aa (aD (fM K) (pv 0) ah (fun _ _=>rfl)) af)) af)) (aE (i:=3) bu.nd rfl (Or.inl rfl))
   (ai (aN (i:=4) bu.nd rfl (Or.inl rfl) (aD (fM K) (aD (fM K) (aD (fM K) (pv 0) ah (fun _ _=>rfl)) (pv 3) (fun _ _=>rfl)) ah (fun _ _=>rfl)))
   (ai (aN (i:=5) bu.nd rfl (Or.inl rfl) (aD (fM K) (aD (fM K) (aD (fM K) (pv 0) ah (fun _ _=>rfl)) (pv 3) (fun _ _=>rfl)) ah (fun _ _=>rfl)))
   (av (fO (aP pQ (aD (mH K) (pv 1) (pv 4) (fun _ _=>rfl)) (aD (mH K) (pv 1) (pv 5) (fun _ _=>rfl)) (aX _)) (ai (aN (i:=6) bu.nd rfl (Or.inr rfl) (aJ oY (aJ oY (aD (mH K) (pv 2) (pv 4) (fun _ _=>rfl)) (aD (mH K) (pv 2) (pv 5) (fun _ _=>rfl))) (aJ rA ah (pv 3))))
   (ai (aN (i:=7) bu.nd rfl (Or.inr rfl) (bf (wj rfl) (by rfl) T.JT PyProof.Rows.boot_max (aa (aD (mH K) (pv 1) (pv 4) (fun _ _=>rfl)) (aa (aD (mH K) (pv 1) (pv 5) (fun _ _=>rfl)) af))))
   (ai (lB (i:=2) bu.nd rfl rfl (own:=["trail","least"]) (fq:=["bridge","moved"]) (js:=[6,7]) (aK (ae bT) ["web","leasts","trails","tie","one","other","bridge","moved"]) rfl (yj K (by rfl) T.C5 (aa (pv 2) (aa (pv 1) af))) (fun _ _ _ _=>(JB K (n:=2) rfl (bJ (aE (i:=0) (show(["trail","least","bridge","moved"]:List Str).Nodup by decide +kernel) rfl (Or.inl rfl)) (bJ (aE (i:=1) (show(["trail","least","bridge","moved"]:List Str).Nodup by decide +kernel) rfl (Or.inl rfl)) jB)))) (fun _ _ _ _=>d8) (fun _ _ _ _=>(j6 (aP gx (pv 1) (pv 3) (aX _)) (aJ oY (pv 0) (pv 2)) (pv 0))))
   (av (aN (i:=1) bu.nd rfl (Or.inl rfl) (aA cy (hr.mono (by decide)) (by rfl) T.kU T.kY T.kW .nil bg (aa (pv 1) (aa (pv 4) (aa (pv 5) af))))))))) bW)))))
   (av (aQ (pv 2)))))),?_⟩
  refine rN ?_;intro cR fE iI mh sD sE uC C1 C2 C3;obtain⟨bt,xs,h1,h2,h3⟩:=id hw.ex;have wp:=g.p2;have wl:=g.len;have vA:=h3.length;refine(ao rfl (fN (bI.of h1) (aq (j:=0) rfl) (ao rfl (fun r hr=>⟨r,p,rfl,aj,by lia,fun l hl=>?_⟩))))
  have s1:au H (upd (upd H r (.Di 0 (p:Int))) l (.lst (vE p))):=(au.new hr).trans (au.new hl);have hl1:upd (upd H r (.Di 0 (p:Int))) l (.lst (vE p)) l=some (.lst (ik (g.N.cG 0) p)):=aj;generalize upd (upd H r (.Di 0 (p:Int))) l (.lst (vE p))=H1 at s1 hl1;refine⟨dl rfl,fun l0 Ie=>?_⟩
  have s0:au H1 (upd H1 l0 (.lst [.int 0])):=au.new Ie;refine(ao rfl (fN (bI.of (s0 _ _ (s1 _ _ h1))) (aq (j:=0) rfl) ⟨l0,(p:Int),ao rfl ⟨rfl,aj,by lia,by lia,(by rw[Int.toNat_natCast];show 1*p<=sizeLine;exact dl (Nat.ble_eq.mpr (by lia))),fun e he=>?_⟩⟩))
  have s2:=s0.trans (au.new (o:=.lst (List.replicate (p:Int).toNat [V.int 0]).flatten) he);have Xv:upd (upd H1 l0 (.lst [.int 0])) e (.lst (List.replicate (p:Int).toNat [V.int 0]).flatten) e=some (.lst (ik (g.N.trail 0) p)):=by
   rw[aj,Int.toNat_natCast,FD];rfl
  generalize upd (upd H1 l0 (.lst [.int 0])) e (.lst (List.replicate (p:Int).toNat [V.int 0]).flatten)=H2 at s2 Xv;refine(ao rfl (fN (bI.of ((s1.trans s2) _ _ h1)) (aq (j:=1) rfl) (tK rfl (.inr (bI.of ((s1.trans s2) _ _ h2))) (ao rfl ⟨(by lia),(by lia),?_⟩))))
  refine pG (lo:=0) (n:=(xs.length:Int).toNat) (fun k σ H3=>∃ la ta v3 v4 v5 v6 v7,σ=[some (.ref wb),some (.ref la),some (.ref ta),v3,v4,v5,v6,v7]/\au H H3/\H3 la=some (.lst (ik (g.N.cG k) p))/\H3 ta=some (.lst (ik (g.N.trail k) p))/\H ta=none)
   ⟨l,e,none,none,none,none,none,rfl,s1.trans s2,s2 _ _ hl1,Xv,s1.free (s0.free he)⟩ ?_ ?_
  ·rintro k D' σ H3 hk ⟨la,ta,v3,v4,v5,v6,v7,rfl,s3,hla,JZ,LF⟩;rw[Int.toNat_natCast,vA]at hk;rw[Int.zero_add];obtain⟨c,hxc,hct⟩:=G6 (g:=g) h3 hk;have hA:=g.N.al k hk;have hB:=g.N.bl k hk;have hls:=RM.mW (N:=g.N) k;have Jf:g.N.gz k = !decide (g.N.cG k (g.N.a k)=g.N.cG k (g.N.b k)):=rfl;have htr:g.N.trail (k+1)=if g.N.gz k=true then fun v=>if g.N.cG k v=max (g.N.cG k (g.N.a k)) (g.N.cG k (g.N.b k)) then g.N.trail k v^^^(g.N.trail k (g.N.a k)^^^g.N.trail k (g.N.b k)^^^2^k) else g.N.trail k v else g.N.trail k:=rfl
   generalize g.N.a k=A0 at *;generalize g.N.b k=B0 at *;refine(ao rfl (fN (bI.of (s3 _ _ h1)) (aq (j:=1) rfl) (ao rfl (fN (bI.of (s3 _ _ h2)) (aq (j:=k) hxc) (fN (bI.of (s3 _ _ hct)) (aq (j:=0) rfl) (?_))))));refine(ao rfl (fN (bI.of (s3 _ _ h1)) (aq (j:=1) rfl) (ao rfl (fN (bI.of (s3 _ _ h2)) (aq (j:=k) hxc) (fN (bI.of (s3 _ _ hct)) (aq (j:=1) rfl) (?_))))));refine(ao rfl (ao rfl (nY (aW.of hla) (aq (j:=A0) (cz hA)) (ao rfl (ao rfl (nY (aW.of hla) (aq (j:=B0) (cz hB)) ⟨rfl,ao rfl (?_)⟩))))));rw[gY]
   by_cases he:g.N.cG k A0=g.N.cG k B0
   ·rw[eG he]at Jf;rw[Jf,if_neg (by decide)]at hls htr
    rw[eG he];exact iL ⟨la,ta,_,_,_,_,_,rfl,s3,by rw[hls];exact hla,by rw[htr];exact JZ,LF⟩
   ·rw[ia he]at Jf;rw[Jf,if_pos (by rfl)]at hls htr
    rw[ia he];have Zi:Builtin.bitXor (Builtin.bitXor ((g.N.trail k A0:Nat):Int) ((g.N.trail k B0:Nat):Int)) (1*2^(k:Int).toNat)=((g.N.trail k A0^^^g.N.trail k B0^^^2^k:Nat):Int):=by
     rw[tu,xor_int,xor_int]
    refine lu (ao rfl (ao rfl (nY (aW.of JZ) (aq (j:=A0) (cz hA)) (ao rfl (ao rfl (nY (aW.of JZ) (aq (j:=B0) (cz hB)) (cE (ao rfl (cE ⟨⟨by lia,by lia,by decide⟩,cE (?_)⟩)))))))))
    refine(ao rfl (ao rfl (nY (aW.of hla) (aq (j:=A0) (cz hA)) (ao rfl (ao rfl (nY (aW.of hla) (aq (j:=B0) (cz hB)) ⟨_,_,rfl,?_⟩))))));refine(ao rfl (ao rfl ⟨ta,la,rfl,⟨_,aW.of JZ⟩,⟨_,aW.of hla⟩,fun D hD=>pX (xs:=ik (g.N.trail k) p) (ys:=ik (g.N.cG k) p) (by rw[fU,fU]) (yn (g.N.trail (k+1)) H3 D) (.start hD) (fun i acc H4 _ pd=>⟨aW.of (pd.1 _ _ JZ),aW.of (pd.1 _ _ hla),pd.len⟩) (by rw[fU];exact dl (Nat.ble_eq.mpr (by lia))) ?_ ?_⟩))
    ·intro i x y T0 acc H4 hx hy pd hT;obtain⟨hi,rfl⟩:=tw hx;obtain⟨_,rfl⟩:=tw hy;refine⟨T0,_,rfl,bI.of aj,rfl,_,_,rfl,_,_,rfl,rfl,rfl,ao rfl (ao rfl ⟨rfl,ao rfl (?_)⟩)⟩;rw[Cu,gY]
     by_cases hm:g.N.cG k i=max (g.N.cG k A0) (g.N.cG k B0)
     ·rw[eG hm];refine lu (ao rfl (ao rfl (cE (pd.next hD (au.new hT) ?_))));show V.int (Builtin.bitXor _ (Builtin.bitXor (Builtin.bitXor _ _) _))=_;rw[Zi,xor_int,htr];show _=V.int (((if _ then _ else _:Nat)):Int)
      rw[if_pos hm]
     ·rw[ia hm];refine iL (ao rfl (pd.next hD (au.new hT) ?_));rw[htr];show _=V.int (((if _ then _ else _:Nat)):Int)
      rw[if_neg hm]
    ·intro acc H4 pd;rw[fU]at pd;have G4:H4 D=some (.lst (ik (g.N.trail (k+1)) p)):=by rw[pd.2.1,pd.2.2]
     refine(ao rfl (ao rfl (ao rfl ⟨la,g.N.cG k,p,A0,B0,rfl,pd.1 _ _ hla,wp,hA,hB,fun D2 H5 hn5 s5 mF=>?_⟩)))
     exact⟨D2,D,_,_,_,_,_,rfl,(s3.trans pd.1).trans s5,by rw[hls];exact mF,s5 _ _ G4,s3.free hD⟩
  ·rintro σ H3 ⟨la,ta,v3,v4,v5,v6,v7,rfl,s3,hla,JZ,LF⟩;rw[Int.toNat_natCast,vA]at JZ;exact(ao rfl (q ta H3 LF s3 JZ))
theorem vm(T:Txt K mg a):aL P w K mg base dh 3 a.ni a.qA ["web"] xM:=by
 have cK:aL P w K mg base dh 2 a.cJ a.dN ["web"] rT:=cK T;refine T.AA.ok nZ (fun vs H Q E h=>?_) (fun cdv A outer s H vs Q E hr h=>?_)
 ·obtain⟨w,p,ts,g,rfl,_⟩:=h;rfl
 ·obtain⟨wb,p,ts,g,rfl,hw,q⟩:=h;refine⟨_,(ai (aN (i:=1) nZ.nd rfl (Or.inl rfl) ah)
   (ai (iD PassesOwn.never rfl (vD K (aA cK (hr.mono (by decide)) (by rfl) T.mq T.my T.mw .nil bg (aa (pv 0) af))) (aE (i:=2) nZ.nd rfl (Or.inl rfl))
   (av (A3 (i:=1) nZ.nd rfl (Or.inl rfl) (pv 2) Ks)))
   (av (aQ (pv 1))))),?_⟩
  refine DW ?_;intro cR fE iI;refine(ao rfl ⟨wb,p,ts,g,rfl,hw,fun D H1 ED s1 hD=>⟨D,rfl,⟨_,aW.of hD⟩,?_⟩⟩)
  refine i3 (K:=K) (a:=D) (xs:=ik (g.N.trail ts.length) p) (fun i σ H2=>∃ v2,σ=[some (.ref wb),some (.int ((LB (g.N.trail ts.length) i:Nat):Int)),v2]/\H2=H1) ⟨none,rfl,rfl⟩ (fun i σ H2 _ ⟨_,_,z⟩=>by rw[z];exact aW.of hD) ?_ ?_
  ·rintro i x D' σ H2 hx ⟨v2,rfl,rfl⟩;obtain⟨hi,rfl⟩:=tw hx;refine(ao rfl (ao rfl (cE ⟨some (.int ((g.N.trail ts.length i:Nat):Int)),?_,rfl⟩)));show[_,some (V.int (Builtin.bitOr _ _)),_]=_;rw[or_int];rfl
  ·rintro σ H2 ⟨v2,rfl,rfl⟩;rw[fU,Bp];exact(ao rfl (q _ s1))
theorem gp(T:Txt K mg a):aL P w K mg base dh 4 a.ju a.kJ ["web"] oz:=by
 have vm:aL P w K mg base dh 3 a.ni a.qA ["web"] xM:=vm T;have bU:aL P w K mg base dh 1 a.eA a.fm ["web"] iB:=bU T;have bM:aL P w K mg base dh 2 a.eN a.fK ["tie_set"] gS:=bM T;refine T.AB.ok DX (fun vs H Q E h=>?_) (fun cdv A outer s H vs Q E hr h=>?_)
 ·obtain⟨w,p,ts,g,rfl,_⟩:=h;rfl
 ·obtain⟨wb,p,ts,g,rfl,hw,q⟩:=h;refine⟨_,(av (aQ (aA bM (hr.mono (by decide)) (by rfl) T.kQ T.kX T.kR .nil bg (aa (aJ oY (aA bU (hr.mono (by decide)) (by rfl) T.lQ T.lS T.lR .nil bg (aa (pv 0) af)) (aA vm (hr.mono (by decide)) (by rfl) T.GN T.GX T.GO .nil bg (aa (pv 0) af))) af)))),?_⟩
  have wl:=g.len;refine(ao rfl ⟨wb,p,ts,rfl,hw,g.KU,_,rfl,wb,p,ts,g,rfl,hw,fun H1 s1=>(cE ⟨(2^ts.length-1)^^^jG p ts g,?_,?_,fun D H2 ED s2 hD=>?_⟩)⟩)
  ·show[V.int (Builtin.bitXor _ _)]=_;rw[Iu,xor_int]
  ·exact Nat.le_trans (bits_le wL) (by lia)
  ·rw[zQ]at hD;exact q D H2 (s1.free ED) (s1.trans s2) hD
theorem jU(T:Txt K mg a):aL P w K mg base dh 1 a.eX a.g6 ["web","trails","chord"] nE:=by
 refine T.oK.ok m5 (fun vs H Q E h=>?_) (fun cdv A outer s H vs Q E hr h=>?_)
 ·obtain⟨w,p,ts,g,D,c,rfl,_⟩:=h;rfl
 ·obtain⟨wb,p,ts,g,D,c,rfl,hw,hD,hc,q⟩:=h;refine⟨_,(ai (aN (i:=3) m5.nd rfl (Or.inl rfl) (aD (fM K) (aD (fM K) (pv 0) ah (fun _ _=>rfl)) (pv 2) (fun _ _=>rfl)))
   (av (aQ (aJ oY (aJ oY (aD (mH K) (pv 1) (aD (fM K) (pv 3) ah (fun _ _=>rfl)) (fun _ _=>rfl)) (aD (mH K) (pv 1) (aD (fM K) (pv 3) ah (fun _ _=>rfl)) (fun _ _=>rfl))) (aJ rA ah (pv 2)))))),?_⟩
  refine uE ?_;intro cR;obtain⟨bt,xs,h1,h2,h3⟩:=id hw.ex;have wl:=g.len;obtain⟨b,hxc,hct⟩:=G6 (g:=g) h3 hc;have hA:=g.N.al c hc;have hB:=g.N.bl c hc;refine(ao rfl (fN (bI.of h1) (aq (j:=1) rfl) (ao rfl (fN (bI.of h2) (aq (j:=c) hxc) (?_)))));refine(ao rfl (ao rfl (fN (bI.of hct) (aq (j:=0) rfl) (nY (aW.of hD) (aq (j:=g.N.a c) (cz hA)) (ao rfl (ao rfl (fN (bI.of hct) (aq (j:=1) rfl) (nY (aW.of hD) (aq (j:=g.N.b c) (cz hB)) (cE (ao rfl (cE ⟨⟨by lia,by lia,by decide⟩,cE (?_)⟩)))))))))))
  show Q (V.int (Builtin.bitXor (Builtin.bitXor _ _) _)) H;rw[tu,xor_int,xor_int];exact q
end
def oW(C:Addr):Sp:=fun vs H Q E=>∃ w p ts,∃ g:az p ts,∃ S,vs=[.ref w,.int S]/\bE H w p ts/\
 ((∃ c:Nat,S=(c:Int)/\c∈g.N.ak/\∀ H',au H H'->Q (.int ((g.N.ring c:Nat):Int)) H')\/((∀ c∈g.N.ak,S≠((c:Nat):Int))/\∀ H',au H H'->E (.ref C) none H'))
section
variable {P:Program}{w:World}{K:bY}{mg:jY}{base:Heap}{a:yK}
theorem lW(T:Txt K mg a):aL P w K mg base (jZ P w) 5 a.gb a.iQ ["web","tie"] (oW a.ou):=by
 have gp:aL P w K mg base dh 4 a.ju a.kJ ["web"] oz:=gp T;have cK:aL P w K mg base dh 2 a.cJ a.dN ["web"] rT:=cK T;have jU:aL P w K mg base dh 1 a.eX a.g6 ["web","trails","chord"] nE:=jU T;refine T.qJ.Cj vJ (fun vs H Q E h=>?_) (fun cdv A outer s H vs Q E hr h=>?_)
 ·obtain⟨w,p,ts,g,S,rfl,_⟩:=h;rfl
 ·obtain⟨wb,p,ts,g,S,rfl,hw,q⟩:=h;refine⟨_,(ai (fO (aP (Fc K) (pv 1) (aA gp (hr.mono (by decide)) (by rfl) T.uP T.u3 T.uQ .nil bg (aa (pv 0) af)) (by with_unfolding_all rfl)) (av (mS ef.MG rfl (by rfl) T.Ek PySem.F.excBase_ValueError (aa tN af))) bW)
   (av (aQ (aA jU (hr.mono (by decide)) (by rfl) T.vQ T.vZ T.vR .nil bg (aa (pv 0) (aa (aA cK (hr.mono (by decide)) (by rfl) T.mq T.my T.mw .nil bg (aa (pv 0) af)) (aa (pv 1) af))))))),?_⟩
  refine vK ?_;intro cR fE;refine(ao rfl (ao rfl ⟨wb,p,ts,g,rfl,hw,fun D H1 ED s1 hD=>(tK rfl (.inl (aW.of hD)) ⟨rfl,wK _,_,rfl,?_⟩)⟩))
  rcases q with⟨c,rfl,hc,q⟩|⟨hS,q⟩
  ·rw[um,eG hc];refine iL (ao rfl (ao rfl ⟨wb,p,ts,g,rfl,hw.same s1,fun D2 H2 hn2 s2 mF=>(ao rfl ⟨wb,p,ts,g,D2,c,rfl,hw.same (s1.trans s2),mF,(RM.cW.mp hc).1,q _ (s1.trans s2)⟩)⟩))
  ·rw[K0 hS];exact lu ⟨dl rfl,q _ s1⟩
end
theorem G7{x y:V}{A B:Prop}(h:x≠y)(ha:A):if(!decide (x=y))=true then A else B:=by
 rw[ia h];exact lu ha
def C7:Sp:=fun vs H Q _=>∃(t:Addr) (rs:List (List Int)) (n k:Nat),vs=[.ref t,.int (k:Int)]/\TabAt H t rs/\Tab n rs/\n<=12/\k<n/\
 (∀ i:Nat,k<=i->i<n->ent rs i k≠0->Q (.int (i:Int)) H)/\((∀ i:Nat,k<=i->i<n->ent rs i k=0)->Q .iC H)
def vn:Sp:=fun vs H Q _=>∃(b1 b2:Addr) (r l:List Int) (n k:Nat) (d:Int) (f:Nat->Int),vs=[.ref b1,.ref b2,.int (k:Int),.int d]/\H b1=some (.lst (aR r))/\H b2=some (.lst (aR l))/\r.length=n/\l.length=n/\n<=12/\k<n/\
 d≠0/\d.natAbs<2^1000/\(∀ j,j<n->(r.getD j 0).natAbs<2^1000/\(l.getD j 0).natAbs<2^1000)/\(∀ j,j<n->l.getD k 0*r.getD j 0-r.getD k 0*l.getD j 0=d*f j)/\
 ∀ D H',H D=none->au H H'->H' D=some (.lst (aR (sr n f)))->Q (.ref D) H'
def za:Sp:=fun vs H Q _=>∃(t:Addr) (rs:List (List Int)) (n E:Nat),vs=[.ref t]/\TabAt H t rs/\Tab n rs/\n<=12/\1<=E/\Dt.fc E n<2^1000/\(∀ r c,(ent rs r c).natAbs<=E)/\∀ H',au H H'->Q (.int (Dt.det n (ent rs))) H'
theorem zb{n:Nat}{rs:List (List Int)}(Tb:Tab n rs){r j:Nat}(hj:n<=j):ent rs r j=0:=by
 show(rs.getD r []).getD j 0=0
 by_cases h:r<n
 ·rw[List.getD_eq_getElem?_getD,List.getElem?_eq_none (by rw[Tb.zW h];exact hj)]
  rfl
 ·rw[List.getD_eq_getElem?_getD (l:=rs),List.getElem?_eq_none (by rw[Tb.len];lia)]
  rfl
section
variable {P:Program}{w:World}{K:bY}{mg:jY}{base:Heap}{a:yK}
theorem jV(T:Txt K mg a):aL P w K mg base dh 1 a.eY a.g7 ["rows","step"] C7:=by
 refine T.oM.ok m6 (fun vs H Q E h=>?_) (fun cdv A outer s H vs Q E hr h=>?_)
 ·obtain⟨t,rs,n,k,rfl,_⟩:=h;rfl
 ·obtain⟨t,rs,n,k,rfl,⟨ys,ht,pr⟩,Tb,hn,hk,qy,qn⟩:=h;refine⟨_,(ai (iD PassesOwn.never rfl (nK (by rfl) T.cF (aa (pv 1) (aa (bf (j8 K) (by rfl) T.fL PySem.boot_len (aa (pv 0) af)) af))) (aE (i:=2) m6.nd rfl (Or.inl rfl))
   (av (fO (aP pQ (aD (mH K) (aD (mH K) (pv 0) (pv 2) (fun _ _=>rfl)) (pv 1) (fun _ _=>rfl)) ah (aX _)) (av (aQ (pv 2))) bW)))
   (av (aQ EJ))),?_⟩
  refine uH ?_;intro cR fE iI;have JW:ys.length=n:=by rw[pr.length,Tb.len]
  refine(ao rfl (ao rfl (tK rfl (.inl (aW.of ht)) ⟨_,_,rfl,⟨by lia,by lia,by lia,by lia⟩,?_⟩)))
  refine iY (lo:=(k:Int)) (n:=_) (fun i σ H2=>∃ v2,σ=[some (.ref t),some (.int (k:Int)),v2]/\H2=H/\∀ j:Nat,k<=j->j<k+i->ent rs j k=0) ⟨none,rfl,rfl,fun j h1 h2=>by lia⟩ ?_ ?_
  ·rintro i σ H2 hi ⟨v2,rfl,rfl,hz⟩;have ek:(k:Int)+(i:Int)=((k+i:Nat):Int):=by lia
   rw[ek];have hki:k+i<n:=by lia
   obtain⟨b,hb,Zj⟩:=TabAt.get pr Tb hki;refine(ao rfl (ao rfl (nY (aW.of ht) (aq (j:=k+i) hb) (ao rfl (nY (aW.of Zj) (aq (j:=k) (eI (by rw[Tb.zW hki];exact hk))) ⟨rfl,ao rfl (?_)⟩)))))
   by_cases h0:ent rs (k+i) k=0
   ·refine tX (congrArg V.int h0) (ao rfl ⟨rfl,fun j h1 h2=>?_⟩)
    by_cases hj:j=k+i
    ·rw[hj];exact h0
    ·exact hz j h1 (by lia)
   ·exact G7 (fun z=>h0 (V.int.inj z)) (ao rfl (qy (k+i) (by lia) hki h0))
  ·rintro σ H2 ⟨v2,rfl,rfl,hz⟩;exact qn fun i h1 h2=>hz i h1 (by lia)
theorem jW(T:Txt K mg a):aL P w K mg base dh 1 a.eZ a.g8 ["row","lead_row","step","divisor"] vn:=by
 refine T.oN.ok uI (fun vs H Q E h=>?_) (fun cdv A outer s H vs Q E hr h=>?_)
 ·obtain⟨b1,b2,r,l,n,k,d,f,rfl,_⟩:=h;rfl
 ·obtain⟨b1,b2,r,l,n,k,d,f,rfl,h1,h2,C8,hl1,hn,hk,hd,hdb,bn,ex,q⟩:=h;refine⟨_,(av (aQ (cC (own:=["number","lead"]) (fq:=["row","lead_row","step","divisor"]) (js:=[0,1,2,3]) (aK (ae cX) ["row","lead_row","step","divisor"]) rfl (yj K (by rfl) T.C5 (aa (pv 0) (aa (pv 1) af))) (fun _ _ _ _=>(JB K (n:=2) rfl (bJ (aE (i:=0) (show(["number","lead","row","lead_row","step","divisor"]:List Str).Nodup by decide +kernel) rfl (Or.inl rfl)) (bJ (aE (i:=1) (show(["number","lead","row","lead_row","step","divisor"]:List Str).Nodup by decide +kernel) rfl (Or.inl rfl)) jB)))) (fun _ _ _ _=>d8) (fun _ _ _ _=>(aJ FL (aJ tT (aJ pV (aD (mH K) (pv 3) (pv 4) (fun _ _=>rfl)) (pv 0)) (aJ pV (aD (mH K) (pv 2) (pv 4) (fun _ _=>rfl)) (pv 1))) (pv 5)))))),?_⟩
  refine(ao rfl (ao rfl ⟨b1,b2,rfl,⟨_,aW.of h1⟩,⟨_,aW.of h2⟩,fun D hD=>pX (xs:=aR r) (ys:=aR l) (by rw[bD,bD,C8,hl1]) (zX f H D) (.start hD) (fun i acc H4 _ pd=>⟨aW.of (pd.1 _ _ h1),aW.of (pd.1 _ _ h2),pd.len⟩) (by rw[bD,C8];exact dl (Nat.ble_eq.mpr (by lia))) ?_ ?_⟩))
  ·intro i x y T0 acc H2 hx hy pd hT;obtain⟨hi,rfl⟩:=lF hx;obtain⟨_,rfl⟩:=lF hy;rw[C8]at hi;have s2:au H2 (upd H2 T0 (.tup [.int (r.getD i 0),.int (l.getD i 0)])):=au.new hT;have hT2:upd H2 T0 (.tup [.int (r.getD i 0),.int (l.getD i 0)]) T0=some (.tup [.int (r.getD i 0),.int (l.getD i 0)]):=aj;generalize upd H2 T0 (.tup [.int (r.getD i 0),.int (l.getD i 0)])=H3 at s2 hT2;have Qz:=s2 _ _ (pd.1 _ _ h1);have QA:=s2 _ _ (pd.1 _ _ h2);refine⟨T0,_,rfl,bI.of hT2,rfl,_,_,rfl,_,_,rfl,rfl,rfl,?_⟩;refine(ao rfl (ao rfl (nY (aW.of QA) (aq (j:=k) (eI (by rw[hl1];exact hk))) (ao rfl (cE ⟨mulOk_of (bn k hk).2 (bn i hi).1,?_⟩)))))
   refine(ao rfl (ao rfl (nY (aW.of Qz) (aq (j:=k) (eI (by rw[C8];exact hk))) (ao rfl (cE ⟨mulOk_of (bn k hk).1 (bn i hi).2,_,_,rfl,rfl,ao rfl (cE ⟨⟨hd,hdb⟩,?_⟩)⟩)))))
   exact pd.next hD s2 (congrArg V.int (Bu hd (ex i hi)))
  ·intro acc H2 pd;rw[bD,C8]at pd;exact q D H2 hD pd.1 (by rw[pd.2.1,pd.2.2])
theorem bF(T:Txt K mg a):aL P w K mg base dh 2 a.cZ a.dY ["table"] za:=by
 have jV:aL P w K mg base dh 1 a.eY a.g7 ["rows","step"] C7:=jV T;have jW:aL P w K mg base dh 1 a.eZ a.g8 ["row","lead_row","step","divisor"] vn:=jW T;refine T.oO.ok bz (fun vs H Q E h=>?_) (fun cdv A outer s H vs Q E hr h=>?_)
 ·obtain⟨t,rs,n,E,rfl,_⟩:=h;rfl
 ·obtain⟨t,Nh,n,E,rfl,⟨Hw,ht,Ni⟩,Xw,hn,hE,hfc,Zk,q⟩:=h;refine⟨_,(ai (aN (i:=1) bz.nd rfl (Or.inl rfl) (gC (ME K) (by rfl) T.BQ PyProof.Rows.boot_list (aa (pv 0) af)))
   (ai (aN (i:=2) bz.nd rfl (Or.inl rfl) ah)
   (ai (aN (i:=3) bz.nd rfl (Or.inl rfl) ah)
   (ai (iD PassesOwn.never rfl (cH (by rfl) T.cF (aa (bf (j8 K) (by rfl) T.fL PySem.boot_len (aa (pv 1) af)) af)) (aE (i:=4) bz.nd rfl (Or.inl rfl))
   (ai (aN (i:=5) bz.nd rfl (Or.inl rfl) (aA jV (hr.mono (by decide)) (by rfl) T.vS T.v9 T.vU .nil bg (aa (pv 1) (aa (pv 4) af))))
   (ai (fO (aP Ku (pv 5) EJ (aX _)) (av (aQ ah)) bW)
   (ai (fO (aP pQ (pv 5) (pv 4) (aX _)) (ai (aN (i:=6) bz.nd rfl (Or.inl rfl) (aD (mH K) (pv 1) (pv 5) (fun _ _=>rfl)))
   (ai (rq (aD (mH K) (pv 1) (pv 4) (fun _ _=>rfl)) (tR (pv 1) (pv 5) set_list))
   (ai (rq (pv 6) (tR (pv 1) (pv 4) set_list))
   (av (aN (i:=2) bz.nd rfl (Or.inl rfl) (ET Ba (pv 2))))))) bW)
   (ai (iD PassesOwn.never rfl (nK (by rfl) T.cF (aa (aJ gB (pv 4) ah) (aa (bf (j8 K) (by rfl) T.fL PySem.boot_len (aa (pv 1) af)) af))) (aE (i:=7) bz.nd rfl (Or.inl rfl))
   (av (rq (aA jW (hr.mono (by decide)) (by rfl) T.vV T.wc T.vW .nil bg (aa (aD (mH K) (pv 1) (pv 7) (fun _ _=>rfl)) (aa (aD (mH K) (pv 1) (pv 4) (fun _ _=>rfl)) (aa (pv 4) (aa (pv 3) af))))) (tR (pv 1) (pv 7) set_list))))
   (av (aN (i:=3) bz.nd rfl (Or.inl rfl) (aD (mH K) (aD (mH K) (pv 1) (pv 4) (fun _ _=>rfl)) (pv 4) (fun _ _=>rfl)))))))))
   (av (aQ (aJ rz (pv 2) (pv 3)))))))),?_⟩
  refine uJ ?_;intro cR fE iI mh sD sE uC C1 C2 C3 An Ao GG M4 M5;refine(ao rfl (tK rfl (.inl (aW.of ht)) (fun R hR=>?_)))
  have s0:au H (upd H R (.lst Hw)):=au.new hR;have Q6:upd H R (.lst Hw) R=some (.lst Hw):=aj;have Ni:Paired (lH R (upd H R (.lst Hw))) Hw Nh:=Paired.imp' (fun _ _ ⟨b,e,z⟩=>⟨b,e,aY z hR,s0 _ _ z⟩) Ni
  generalize upd H R (.lst Hw)=H0 at s0 Q6 Ni;have JW:Hw.length=n:=by rw[Ni.length,Xw.len]
  refine(ao rfl (tK rfl (.inl (aW.of Q6)) (ao rfl ⟨(by lia),(by lia),?_⟩)))
  refine iY (lo:=0) (n:=_) (fun i σ H2=>∃ ys rs sg d v4 v5 v6 v7,σ=[some (.ref t),some (.ref R),some (.int sg),some (.int d),v4,v5,v6,v7]/\au H H2/\H2 R=some (.lst ys)/\Paired (lH R H2) ys rs/\Tab n rs/\Dt.Bs n (ent Nh) i sg d (ent rs))
   ⟨Hw,Nh,1,1,none,none,none,none,rfl,s0,Q6,Ni,Xw,Dt.Bs.zero _ _⟩ ?_ ?_
  ·rintro i σ H2 hi ⟨ys,rs,sg,d,v4,v5,v6,v7,rfl,s2,G8,pr,Tb,bs⟩;have hin:i<n:=by lia
   rw[Int.zero_add];refine(ao rfl (ao rfl ⟨R,rs,n,i,rfl,⟨ys,G8,Paired.imp' (fun _ _ z=>z.is) pr⟩,Tb,hn,hin,fun r0 hr0 C8 OR=>?_,fun hz=>?_⟩))
   case refine_2 =>
    have h0:Dt.det n (ent Nh)=0:=bs.none hin hz;refine(ao rfl ⟨rfl,ao rfl (zF rfl ?_)⟩);show Q (V.int 0) _;rw[<-h0];exact q _ s2
   refine(ao rfl ⟨rfl,ao rfl (Dv (fun z=>nomatch z) (ao rfl (ao rfl ⟨rfl,ao rfl (?_)⟩)))⟩)
   by_cases Q7:r0=i
   case' pos =>
    refine tX (by rw[Q7]) ?_
    rw[Q7]at OR;generalize H2=H2x at s2 G8 pr;generalize ys=ysx at G8 pr;generalize rs=rsx at pr Tb bs OR;generalize sg=sgx at bs;have s3:=s2;have Nj:=G8;have LM:=pr;have LN:=Tb;have Ll:=bs;have Jg:=OR
   case' neg =>
    refine G7 (fun z=>Q7 (by have:=V.int.inj z;lia)) ?_
    obtain⟨b1,e1,Zl,hb1⟩:=lH.get pr Tb C8;obtain⟨b2,e2,Zm,JX⟩:=lH.get pr Tb hin;have Zn:ys.length=n:=by rw[pr.length,Tb.len]
    refine(ao rfl (ao rfl (nY (aW.of G8) (aq (j:=r0) e1) (?_))));refine(ao rfl (ao rfl (nY (aW.of G8) (aq (j:=i) e2) (ao rfl (ao rfl ⟨R,ys,_,r0,rfl,rfl,G8,lD (by lia),?_⟩)))))
    refine(ao rfl (ao rfl (ao rfl ⟨R,_,_,i,rfl,rfl,aj,lD (by rw[List.length_set];lia),ao rfl (ao rfl (?_))⟩)))
    have s3:au H (upd (upd H2 R (.lst (ys.set r0 (.ref b2)))) R (.lst ((ys.set r0 (.ref b2)).set i (.ref b1)))):=(s2.put hR).put hR;have Nj:upd (upd H2 R (.lst (ys.set r0 (.ref b2)))) R (.lst ((ys.set r0 (.ref b2)).set i (.ref b1))) R=some (.lst ((ys.set r0 (.ref b2)).set i (.ref b1))):=aj;have LM:Paired (lH R (upd (upd H2 R (.lst (ys.set r0 (.ref b2)))) R (.lst ((ys.set r0 (.ref b2)).set i (.ref b1))))) ((ys.set r0 (.ref b2)).set i (.ref b1)) ((rs.set r0 (rs.getD i [])).set i (rs.getD r0 [])) :=
     Paired.imp' (fun _ _ z=>z.put.put) (lG ⟨b1,rfl,Zl,hb1⟩ i (lG ⟨b2,rfl,Zm,JX⟩ r0 pr))
    have LN:Tab n ((rs.set r0 (rs.getD i [])).set i (rs.getD r0 [])):=(Tb.set r0 (Tb.zW hin)).set i (Tb.zW C8);have Zo:ent ((rs.set r0 (rs.getD i [])).set i (rs.getD r0 []))=Dt.sw (ent rs) i r0:=by
     funext r j
     rw[qm (by rw[List.length_set,Tb.len];exact hin),qm (by rw[Tb.len];exact C8)]
     unfold Dt.sw Dt.put
     by_cases c1:r=i
     ·rw[if_pos c1,if_neg (by lia),if_pos c1]
      rfl
     ·rw[if_neg c1,if_neg c1]
      by_cases c2:r=r0
      ·rw[if_pos c2,if_pos c2];rfl
      ·rw[if_neg c2,if_neg c2]
    have Ll:Dt.Bs n (ent Nh) i (-sg) d (ent ((rs.set r0 (rs.getD i [])).set i (rs.getD r0 []))):=by
     rw[Zo];exact bs.sw (by lia) C8
    have Jg:ent ((rs.set r0 (rs.getD i [])).set i (rs.getD r0 [])) i i≠0:=by
     rw[qm (by rw[List.length_set,Tb.len];exact hin),if_pos rfl]
     exact OR
    dsimp only[List.set];generalize upd (upd H2 R (.lst (ys.set r0 (.ref b2)))) R (.lst ((ys.set r0 (.ref b2)).set i (.ref b1)))=H2x at s3 Nj LM;generalize (rs.set r0 (rs.getD i [])).set i (rs.getD r0 [])=rsx at LM LN Ll Jg;generalize (ys.set r0 (.ref b2)).set i (.ref b1)=ysx at Nj LM;generalize -sg=sgx at Ll
   all_goals (
    have Zp:ysx.length=n:=by rw[LM.length,LN.len]
    have bd:=Ll.bnd hE Zk;have d0:d≠0:=Ll.2.2.1;refine(ao rfl (cE (ao rfl (tK rfl (.inl (aW.of Nj)) ⟨_,_,rfl,⟨by lia,by lia,by lia,by lia⟩,?_⟩))))
    refine iY (lo:=(i:Int)+1) (n:=_) (fun m σ H5=>∃ ys rs v6 v7,σ=[some (.ref t),some (.ref R),some (.int sgx),some (.int d),some (.int (i:Int)),some (.int (r0:Int)),v6,v7]/\au H H5/\H5 R=some (.lst ys)/\Paired (lH R H5) ys rs/\Tab n rs/\(∀ j,ent rs i j=ent rsx i j)/\
     ∀ r,i<r->r<n->∀ j,if r<i+1+m then d*ent rs r j=ent rsx i i*ent rsx r j-ent rsx r i*ent rsx i j else ent rs r j=ent rsx r j)
     ⟨ysx,rsx,_,_,rfl,s3,Nj,LM,LN,fun j=>rfl,fun r h1 h2 j=>by rw[if_neg (by lia)]⟩ ?_ ?_
    ·rintro m σ H5 hm ⟨LJ,LO,v6,v7,rfl,s5,Lm,C6,Eu,OS,OT⟩;have ek:(i:Int)+1+(m:Int)=((i+1+m:Nat):Int):=by lia
     rw[ek];have hb:i+1+m<n:=by lia
     obtain⟨c1,e1,n1,h1⟩:=lH.get C6 Eu hb;obtain⟨c2,e2,n2,h2⟩:=lH.get C6 Eu hin;have er:∀ j,(LO.getD (i+1+m) []).getD j 0=ent rsx (i+1+m) j:=fun j=>by
      have:=OT _ (by lia) hb j
      rw[if_neg (by lia)]at this
      exact this
     have el:∀ j,(LO.getD i []).getD j 0=ent rsx i j:=OS;obtain⟨f,hf⟩:=Classical.axiomOfChoice (fun j=>Ll.out Jg (i:=i+1+m) (by lia) hb j)
     refine(ao rfl (ao rfl (nY (aW.of Lm) (aq (j:=i+1+m) e1) (ao rfl (ao rfl (nY (aW.of Lm) (aq (j:=i) e2) (ao rfl (ao rfl ⟨c1,c2,_,_,n,i,d,f,rfl,h1,h2,Eu.zW hb,Eu.zW hin,hn,hin,d0,Nat.lt_of_le_of_lt bd.1 hfc,fun j hj=>⟨by rw[er j];exact Nat.lt_of_le_of_lt (bd.2 _ _ (by lia) hb) hfc,by rw[el j];exact Nat.lt_of_le_of_lt (bd.2 _ _ (Nat.le_refl _) hin) hfc⟩,fun j hj=>?_,fun D H6 hD s6 QY=>?_⟩))))))))
     ·rw[er j,el j,er i,el i];exact hf j
     ·have nD:D≠R:=fun e=>by rw[e,Lm]at hD;cases hD
      have Zb:LJ.length=n:=by rw[C6.length,Eu.len]
      refine(ao rfl (ao rfl ⟨R,LJ,_,i+1+m,rfl,rfl,s6 _ _ Lm,lD (by lia),?_⟩))
      refine⟨_,LO.set (i+1+m) (sr n f),_,_,rfl,(s5.trans s6).put hR,aj,Paired.imp' (fun _ _ z=>z.put) (lG ⟨D,rfl,nD,QY⟩ _ (Paired.imp' (fun _ _ z=>z.same s6) C6)),Eu.set _ (rG _ _),fun j=>?_,fun r h1 h2 j=>?_⟩
      ·rw[qm (by rw[Eu.len];exact hb),if_neg (by lia)]
       exact OS j
      ·by_cases hj:j<n
       ·rw[qm (by rw[Eu.len];exact hb)]
        by_cases c:r=i+1+m
        ·rw[if_pos c,if_pos (by lia),DJ _ hj,c]
         exact(hf j).symm
        ·rw[if_neg c];have:=OT r h1 h2 j
         by_cases c2:r<i+1+m
         ·rw[if_pos c2]at this;rw[if_pos (by lia)]
          exact this
         ·rw[if_neg c2]at this;rw[if_neg (by lia)]
          exact this
       ·have z1:=zb (r:=r) (j:=j) LN (by lia)
        have z2:=zb (r:=i) (j:=j) LN (by lia)
        have z3:=zb (r:=r) (j:=j) (Eu.set (i+1+m) (rG n f)) (by lia)
        rw[z3,z1,z2]
        split<;>simp
    ·rintro σ H5 ⟨LJ,LO,v6,v7,rfl,s5,Lm,C6,Eu,OS,OT⟩;obtain⟨c2,e2,n2,h2⟩:=lH.get C6 Eu hin;have ed:(LO.getD i []).getD i 0=ent rsx i i:=OS i;refine(ao rfl (ao rfl (nY (aW.of Lm) (aq (j:=i) e2) (ao rfl (nY (aW.of h2) (aq (j:=i) (eI (by rw[Eu.zW hin];exact hin))) (?_))))))
     refine⟨LJ,LO,sgx,ent rsx i i,_,_,_,_,by rw[<-ed];rfl,s5,Lm,C6,Eu,Ll.step hin Jg fun r j h1 h2=>?_⟩
     have:=OT r h1 h2 j;rw[if_pos (by lia)]at this
     exact this)
  ·rintro σ H2 ⟨ys,rs,sg,d,v4,v5,v6,v7,rfl,s2,G8,pr,Tb,bs⟩;have e:((Hw.length:Int).toNat)=n:=by lia
   refine(ao rfl (ao rfl (cE ⟨.inl (by rcases bs.2.1 with rfl | rfl<;>decide),?_⟩)))
   rw[e]at bs;show Q (.int (sg*d)) H2;rw[bs.done];exact q _ s2
end
def AN(i:Int):Int:=if i<0 then -i else i
def fu(cs:List Nat)(wl:List (List Int)):List (List Int):=wl.map fun ways=>cs.map fun c=>ways.getD c 0
def oX:Sp:=fun vs H Q _=>∃ w r p ts,∃ g:az p ts,∃ rs:List Int,vs=[.ref w,.ref r]/\bE H w p ts/\H r=some (.lst (aR rs))/\g.N.ak.length<=12/\rs.length=g.N.ak.length/\(∀ x∈rs,GoodR p ts g x)/\
 ∀ H' (wl:List (List Int)),au H H'->Paired (bP p ts g) rs wl->Q (.int (AN (Dt.det g.N.ak.length (ent (fu g.N.ak wl))))) H'
theorem tM{rs:List (List Int)}{b:Nat}(h:∀ r∈rs,∀ x∈r,x.natAbs<=b)(i j:Nat):(ent rs i j).natAbs<=b:=by
 unfold ent;rw[List.getD_eq_getElem?_getD,List.getD_eq_getElem?_getD];cases e:rs[i]? with
 | none=>exact Nat.zero_le _
 | some r =>
   show(r[j]?.getD 0).natAbs<=b;cases e2:r[j]? with
   | none=>exact Nat.zero_le _
   | some x=>exact h r (nJ e) x (nJ e2)
theorem xN{cs:List Nat}{wl:List (List Int)}(h:∀ l∈wl,∀ x∈l,x=0\/x=1\/x = -1):∀ r c,(ent (fu cs wl) r c).natAbs<=1:=tM fun r hr x hx=>by
 unfold fu at hr;obtain⟨l,hl,rfl⟩:=List.mem_map.mp hr;obtain⟨c,_,rfl⟩:=List.mem_map.mp hx;have hv:l.getD c 0=0\/l.getD c 0=1\/l.getD c 0 = -1:=by
  rw[List.getD_eq_getElem?_getD];cases e:l[c]? with
  | none=>exact .inl rfl
  | some x=>exact h l hl x (nJ e)
 show(l.getD c 0).natAbs<=1
 lia
theorem BV(cs:List Nat)(wl:List (List Int))(l:List Int):fu cs (wl++[l])=fu cs wl++[cs.map fun c=>l.getD c 0]:=by
 unfold fu;rw[List.map_append];rfl
theorem Ew{cs:List Nat}{wl:List (List Int)}(h:wl.length=cs.length):Tab cs.length (fu cs wl):=⟨by unfold fu;rw[List.length_map];exact h,fun r hr=>by
 unfold fu at hr;obtain⟨l,_,rfl⟩:=List.mem_map.mp hr;exact List.length_map _⟩
section
variable {P:Program}{w:World}{K:bY}{mg:jY}{base:Heap}{a:yK}
theorem iW(T:Txt K mg a):aL P w K mg base (jZ P w) 11 a.gj a.iU ["web","rings"] oX:=by
 have jT:aL P w K mg base dh 6 a.pH a.rO ["web"] tL:=jT T;have gp:aL P w K mg base dh 4 a.ju a.kJ ["web"] oz:=gp T;have jc:aL P w K mg base (jZ P w) 10 a.ja a.kM ["web","ring"] (pL a.bj a.dm):=jc T;have bF:aL P w K mg base dh 2 a.cZ a.dY ["table"] za:=bF T;refine T.qQ.Cj eW (fun vs H Q E h=>?_) (fun cdv A outer s H vs Q E hr h=>?_)
 ·obtain⟨w,r,p,ts,g,rs,rfl,_⟩:=h;rfl
 ·obtain⟨wb,r,p,ts,g,rs,rfl,hw,hR,c5,e,good,q⟩:=h;refine⟨_,(ai (fO (aP pQ (bf (j8 K) (by rfl) T.fL PySem.boot_len (aa (pv 1) af)) (aA jT (hr.mono (by decide)) (by rfl) T.yN T.yX T.yO .nil bg (aa (pv 0) af)) (aX _)) (av (mS ef.MG rfl (by rfl) T.GU PySem.F.excBase_ValueError (aa tN af))) bW)
   (ai (aN (i:=2) eW.nd rfl (Or.inl rfl) (aA gp (hr.mono (by decide)) (by rfl) T.uP T.u3 T.uQ .nil bg (aa (pv 0) af)))
   (ai (aN (i:=3) eW.nd rfl (Or.inl rfl) (fP af))
   (ai (iD PassesOwn.leaving rfl (vD K (pv 1)) (aE (i:=4) eW.nd rfl (Or.inl rfl))
   (ai (aN (i:=5) eW.nd rfl (Or.inr rfl) (aA jc (hr.mono (by decide)) (by rfl) T.xw T.xE T.xx .nil ef.passes (aa (pv 0) (aa (pv 4) af))))
   (av (gW (Lg K (tW PySem.F.plainAttrs_list PySem.F.slot_list_append PySem.F.type_list_append dO (pv 3) (aa (cC (own:=["chord"]) (fq:=["ways"]) (js:=[5]) (aK (ae dM) ["web","rings","crossed","table","ring","ways"]) rfl (vD K (pv 2)) (fun _ _ _ _=>(aE (i:=0) (show(["chord","ways"]:List Str).Nodup by decide +kernel) rfl (Or.inl rfl))) (fun _ _ _ _=>d8) (fun _ _ _ _=>(aD (mH K) (pv 1) (pv 0) (fun _ _=>rfl)))) af)))))))
   (av (aQ (bf EX (by rfl) T.M7 PyProof.Rows.boot_abs (aa (aA bF (hr.mono (by decide)) (by rfl) T.hU T.h8 T.h7 .nil bg (aa (pv 3) af)) af)))))))),?_⟩
  refine vP ?_;intro cR fE iI mh sD sE uC;have Xu:=g.len;have OP:((2:Int)^ts.length)=((2^ts.length:Nat):Int):=by simp
  refine(ao rfl (tK rfl (.inl (aW.of hR)) (ao rfl ⟨wb,p,ts,g,rfl,hw,fun H1 s1=>⟨rfl,ao rfl (?_)⟩⟩)))
  rw[bD,gY];rw[eG e];refine iL (ao rfl ⟨wb,p,ts,g,rfl,hw.same s1,fun Cs H2 Zq s2 Q8=>?_⟩)
  have s12:=s1.trans s2;have G8:=s12 _ _ hR;refine⟨dl rfl,fun Tb hTb=>?_⟩
  have s3:au H2 (upd H2 Tb (.lst [])):=au.new hTb;have Ng:upd H2 Tb (.lst []) Tb=some (.lst []):=aj;generalize upd H2 Tb (.lst [])=H3 at s3 Ng;refine(ao rfl ⟨r,rfl,⟨_,aW.of (s3 _ _ G8)⟩,i3 (K:=K) (a:=r) (xs:=aR rs) (fun i σ H4=>∃ v4 v5 ys wl,σ=[some (.ref wb),some (.ref r),some (.ref Cs),some (.ref Tb),v4,v5]/\au H2 H4/\H4 Tb=some (.lst ys)/\Paired (bP p ts g) (rs.take i) wl/\Paired (fV Tb H2 H4) ys (fu g.N.ak wl)) ⟨none,none,[],[],rfl,s3,Ng,by rw[List.take_zero];exact .nil,.nil⟩ (fun i σ H4 _ ⟨_,_,_,_,_,z,_⟩=>aW.of (z _ _ G8)) ?_ ?_⟩)
  ·rintro i x D' σ H4 hx ⟨v4,v5,ys,wl,rfl,s4,Fl,pw,py⟩;unfold aR at hx;rw[List.getElem?_map]at hx;obtain⟨S,hS,rfl⟩:=J7.mp hx;have Q9:=s12.trans s4;refine(ao rfl (ao rfl ⟨wb,p,ts,g,S,rfl,hw.same Q9,?_⟩));obtain⟨m,rfl,hm,rg⟩:=good S (nJ hS);refine .inl ⟨m,rfl,hm,fun rg D H5 l hD s5 wi G3=>?_,fun nr=>absurd rg nr⟩
   have Nk:=(s4.trans s5) _ _ Q8;have Ra:=s5 _ _ Fl;refine(ao rfl ⟨.inl ⟨rfl,_,aW.of Ra⟩,ao rfl ⟨Cs,rfl,⟨_,aW.of Nk⟩,fun N hN=>cf (xs:=aV g.N.ak) (fun j ad H6=>au H5 H6/\H6 N=some (.lst ad)/\ad=aR ((g.N.ak.take j).map fun c=>l.getD c 0)) ⟨au.new hN,aj,by rw[List.take_zero];rfl⟩ (fun j ad H6 _ ⟨f1,f2,e⟩=>⟨aW.of (f1 _ _ Nk),f2,by rw[e,bD,List.length_map];exact List.length_take_le _ _⟩) (gX (by rw[aM];lia)) ?_ ?_⟩⟩)
   ·rintro j z ad H6 hz ⟨f1,f2,rfl⟩;obtain⟨c,hc,rfl⟩:=dP hz;have hcl:c<ts.length:=(RM.cW.mp (nJ hc)).1;refine⟨rfl,ao rfl (ao rfl (nY (aW.of (f1 _ _ G3)) (aq (j:=c) (int_at (by rw[wi.len];exact hcl))) ⟨f2,f1.put hN,aj,?_⟩))⟩
    rw[ints_snoc,List.take_add_one,hc,List.map_append];rfl
   ·rintro ad H6 ⟨f1,f2,rfl⟩;rw[aM,List.take_length]at f2;have Q5:N≠Tb:=fun z=>by
     rw[z,Ra]at hN;cases hN
    have yl:ys.length<=24:=by
     rw[py.length];unfold fu;rw[List.length_map,<-pw.length,List.length_take]
     lia
    refine⟨Tb,ys,_,rfl,rfl,f1 _ _ Ra,o8 (by lia),?_⟩
    refine⟨_,_,ys++[.ref N],wl++[l],rfl,((s4.trans s5).trans f1).put hTb,aj,?_,?_⟩
    ·rw[List.take_add_one,hS];exact cO wi pw
    ·rw[BV];exact cO (fV.put ⟨N,rfl,Q5,(s4.trans s5).free hN,f2⟩) (Paired.imp' (fun _ _ z=>(z.same (s5.trans f1)).put) py)
  ·rintro σ H4 ⟨v4,v5,ys,wl,rfl,s4,Fl,pw,py⟩;rw[bD,List.take_length]at pw;have JY:wl.length=g.N.ak.length:=by rw[<-pw.length];exact e
   exact(ao rfl ⟨Tb,_,_,1,rfl,⟨ys,Fl,Paired.imp' (fun _ _ z=>z.is) py⟩,Ew JY,c5,by decide,Nat.lt_of_le_of_lt (Dt.qt (by decide) c5) (by decide),xN fun l hl=>by
    obtain⟨x,_,z⟩:=eT pw hl;exact z.vals,fun H5 s5=>(ao rfl (q H5 wl ((s12.trans s4).trans s5) pw))⟩)
end
def gq(t:cg)(u:Nat):Bool:=HZ (.int (u:Int)) [.int t.1,.int t.2.1]
def sX(ts:List cg)(u v:Nat):Nat:=(ts.filter fun t=>gq t u&&gq t v).length
def vo:Sp:=fun vs H Q _=>∃ w p ts,∃ u v:Nat,vs=[.ref w,.int (u:Int),.int (v:Int)]/\bE H w p ts/\ts.length<=24/\∀ H',au H H'->Q (.int (sX ts u v:Int)) H'
def gr(p:Nat)(ts:List cg)(g:az p ts):List Nat:=(List.range p).filter fun x=>!decide (bx p ts g (2^ts.length-1) x=x)
def sY(ts:List cg)(u v:Nat):Int:=if v=u then(sX ts u v:Int) else -(sX ts u v:Int)
def we(p:Nat)(ts:List cg)(g:az p ts):List (List Int):=(gr p ts g).map fun u=>(gr p ts g).map fun v=>sY ts u v
def mz:Sp:=fun vs H Q _=>∃ w p ts,∃ g:az p ts,vs=[.ref w]/\bE H w p ts/\∀ D ys H',H D=none->au H H'->H' D=some (.lst ys)->Paired (fV D H H') ys (we p ts g)->Q (.ref D) H'
section
variable {P:Program}{w:World}{K:bY}{mg:jY}{base:Heap}{a:yK}
theorem jy(T:Txt K mg a):aL P w K mg base dh 1 a.eB a.gk ["web","one","other"] vo:=by
 refine T.nq.ok sU (fun vs H Q E h=>?_) (fun cdv A outer s H vs Q E hr h=>?_)
 ·obtain⟨w,p,ts,u,v,rfl,_⟩:=h;rfl
 ·obtain⟨wb,p,ts,u,v,rfl,hw,wl,q⟩:=h;refine⟨_,(av (aQ (bf (j8 K) (by rfl) T.fL PySem.boot_len (aa (cC (own:=["tie"]) (fq:=["one","other"]) (js:=[1,2]) (aK (ae cB) ["web","one","other"]) rfl (Qp K (aD (fM K) (pv 0) ah (fun _ _=>rfl))) (fun _ _ _ _=>(aE (i:=0) (show(["tie","one","other"]:List Str).Nodup by decide +kernel) rfl (Or.inl rfl))) (fun _ _ _ _=>(eH (PW.pt (AY (aP (Qo K) (pv 1) (mQ (KQ) (pv 0) pR (pS ah)) (by with_unfolding_all rfl)) (xW (aP (Qo K) (pv 2) (mQ (KQ) (pv 0) pR (pS ah)) (by with_unfolding_all rfl))))))) (fun _ _ _ _=>(pv 0))) af)))),?_⟩
  obtain⟨bt,xs,h1,h2,h3⟩:=id hw.ex;have vA:=h3.length;refine(ao rfl (fN (bI.of h1) (aq (j:=1) rfl) ⟨bt,rfl,⟨_,bI.of h2⟩,fun D hD=>zD (xs:=xs) (fun i acc H2=>au H H2/\H2 D=some (.lst acc)/\acc.length=((ts.take i).filter fun t=>gq t u&&gq t v).length/\acc.length<=i) ⟨au.new hD,aj,rfl,Nat.le_refl _⟩ ?_ (dl (Nat.ble_eq.mpr (by lia))) ?_ ?_⟩))
  ·rintro i acc H2 hi ⟨s2,mF,_,hl2⟩;exact⟨bI.of (s2 _ _ h2),mF,hl2⟩
  ·rintro i x acc H2 hx ⟨s2,mF,hc2,hl2⟩;obtain⟨t,ht,ct,rfl,hct⟩:=Paired.mD h3 hx;have e1:(ts.take (i+1)).filter (fun t=>gq t u&&gq t v)=(ts.take i).filter (fun t=>gq t u&&gq t v)++(if(gq t u&&gq t v)=true then[t] else[]):=by
    rw[List.take_add_one,ht,List.filter_append]
    congr 1
    show List.filter _ [t]=_;rw[List.filter_cons];rfl
   refine⟨rfl,ao rfl (ao rfl (ao rfl ⟨ct,_,rfl,s2 _ _ hct,fun c1 H3 s3 hc1=>?_⟩))⟩
   have hc1:H3 c1=some (.tup [.int t.1,.int t.2.1]):=hc1;refine(tK rfl (.inr (bI.of hc1)) ⟨rfl,rfl,gq t u,rfl,?_⟩);cases hu:gq t u with
   | false =>
     rw[hu,Bool.false_and,if_neg Bool.false_ne_true,List.append_nil]at e1;exact iL (iL ⟨s2.trans s3,s3 _ _ mF,by rw[e1];exact hc2,by lia⟩)
   | true =>
     refine lu (ao rfl (ao rfl (ao rfl ⟨ct,_,rfl,(s2.trans s3) _ _ hct,fun c2 H4 s4 Ln=>?_⟩)))
     have Ln:H4 c2=some (.tup [.int t.1,.int t.2.1]):=Ln;refine(tK rfl (.inr (bI.of Ln)) ⟨rfl,rfl,gq t v,rfl,?_⟩);rw[hu,Bool.true_and]at e1;cases hv:gq t v with
     | false =>
       rw[hv,if_neg Bool.false_ne_true,List.append_nil]at e1;exact iL ⟨(s2.trans s3).trans s4,(s3.trans s4) _ _ mF,by rw[e1];exact hc2,by lia⟩
     | true =>
       rw[hv,if_pos rfl]at e1;exact lu (ao rfl ⟨(s3.trans s4) _ _ mF,((s2.trans s3).trans s4).put hD,aj,by rw[e1,List.length_append,List.length_append,hc2];rfl,by rw[List.length_append,List.length_singleton];lia⟩)
  ·rintro acc H2 ⟨s2,mF,hc2,_⟩;rw[vA,List.take_length]at hc2;refine(tK rfl (.inl (aW.of mF)) (?_));rw[hc2];exact q _ s2
theorem xO{p:Nat}{L:Nat->Nat}{x:Nat}:x∈bR L p↔x<p/\L x=x:=by
 unfold bR;rw[List.mem_filter,List.mem_range,decide_eq_true_eq]
theorem jz(T:Txt K mg a):aL P w K mg base dh 6 a.eE a.gm ["web"] mz:=by
 have gn:aL P w K mg base (jZ P w) 5 a.jt a.kH ["web","tie_set"] (ow a.bj):=gn T;have bU:aL P w K mg base dh 1 a.eA a.fm ["web"] iB:=bU T;have jy:aL P w K mg base dh 1 a.eB a.gk ["web","one","other"] vo:=jy T;refine T.nt.ok cI (fun vs H Q E h=>?_) (fun cdv A outer s H vs Q E hr h=>?_)
 ·obtain⟨w,p,ts,g,rfl,_⟩:=h;rfl
 ·obtain⟨wb,p,ts,g,rfl,hw,q⟩:=h;refine⟨_,(ai (aN (i:=1) cI.nd rfl (Or.inr rfl) (cC (own:=["piece"]) (fq:=[]) (js:=[]) (aK (ae bA) ["web","leasts","kept","table","one","counts"]) rfl (vD K (aA gn (hr.mono (by decide)) (by rfl) T.uN T.u0 T.uO .nil se (aa (pv 0) (aa (aA bU (hr.mono (by decide)) (by rfl) T.lQ T.lS T.lR .nil bg (aa (pv 0) af)) af)))) (fun _ _ _ _=>(aE (i:=0) (show(["piece"]:List Str).Nodup by decide +kernel) rfl (Or.inl rfl))) (fun _ _ _ _=>d8) (fun _ _ _ _=>(aD (mH K) (pv 0) ah (fun _ _=>rfl)))))
   (ai (lB (i:=2) cI.nd rfl rfl (own:=["point"]) (fq:=["leasts"]) (js:=[1]) (aK (ae bA) ["web","leasts","kept","table","one","counts"]) rfl (cH (by rfl) T.cF (aa (aD (fM K) (pv 0) ah (fun _ _=>rfl)) af)) (fun _ _ _ _=>(aE (i:=0) (show(["point","leasts"]:List Str).Nodup by decide +kernel) rfl (Or.inl rfl))) (fun _ _ _ _=>(eH (aP (Fc K) (pv 0) (pv 1) (by with_unfolding_all rfl)))) (fun _ _ _ _=>(pv 0)))
   (ai (aN (i:=3) cI.nd rfl (Or.inl rfl) (fP af))
   (ai (iD PassesOwn.never rfl (vD K (pv 2)) (aE (i:=4) cI.nd rfl (Or.inr rfl))
   (ai (lB (i:=5) cI.nd rfl rfl (own:=["other"]) (fq:=["web","one"]) (js:=[0,4]) (aK (ae bA) ["web","leasts","kept","table","one","counts"]) rfl (vD K (pv 2)) (fun _ _ _ _=>(aE (i:=0) (show(["other","web","one"]:List Str).Nodup by decide +kernel) rfl (Or.inl rfl))) (fun _ _ _ _=>d8) (fun _ _ _ _=>(aA jy (hr.mono (by decide)) (by rfl) T.uR T.u4 T.uS .nil bg (aa (pv 1) (aa (pv 2) (aa (pv 0) af))))))
   (av (gW (Lg K (tW PySem.F.plainAttrs_list PySem.F.slot_list_append PySem.F.type_list_append dO (pv 3) (aa (cC (own:=["other","many"]) (fq:=["one"]) (js:=[4]) (aK (ae bA) ["web","leasts","kept","table","one","counts"]) rfl (yj K (by rfl) T.C5 (aa (pv 2) (aa (pv 5) af))) (fun _ _ _ _=>(JB K (n:=2) rfl (bJ (aE (i:=0) (show(["other","many","one"]:List Str).Nodup by decide +kernel) rfl (Or.inl rfl)) (bJ (aE (i:=1) (show(["other","many","one"]:List Str).Nodup by decide +kernel) rfl (Or.inl rfl)) jB)))) (fun _ _ _ _=>d8) (fun _ _ _ _=>(j6 (aP gx (pv 0) (pv 2) (aX _)) (pv 1) (ET Ba (pv 1))))) af)))))))
   (av (aQ (pv 3))))))),?_⟩
  refine sV ?_;intro cR fE iI mh sD sE;obtain⟨bt,xs,h1,h2,h3⟩:=id hw.ex;have vA:=h3.length;have wp:=g.p2;have wl:=g.len;have e2:((2:Int)^ts.length-1)=((2^ts.length-1:Nat):Int):=by
   have h:((2:Int)^ts.length)=((2^ts.length:Nat):Int):=by simp
   have:=Nat.two_pow_pos ts.length
   lia
  have hlt:2^ts.length-1<2^ts.length:=by have:=Nat.two_pow_pos ts.length;lia
  generalize hL:bx p ts g (2^ts.length-1)=L;have C8:∀ x,L (L x)=L x:=fun x=>by rw[<-hL];exact RM.cj _ _
  have hle:∀ x,L x<=x:=fun x=>by rw[<-hL];exact RM.sZ _ _
  have zW:(bR L p).length<=p:=by
   have:=List.length_filter_le (fun x=>decide (L x=x)) (List.range p)
   rw[List.length_range]at this;exact this
  have Rb:(gr p ts g).length<=p:=by
   have:=List.length_filter_le (fun x=>!decide (bx p ts g (2^ts.length-1) x=x)) (List.range p)
   rw[List.length_range]at this;exact this
  refine(ao rfl (ao rfl ⟨wb,p,ts,rfl,hw,g.KU,wb,p,ts,g,_,rfl,hw,.inl ⟨2^ts.length-1,e2,hlt,fun D ys H1 ED s1 hD pr=>⟨D,rfl,⟨_,aW.of hD⟩,?_⟩⟩⟩))
  rw[hL]at pr;have JW:ys.length=(bR L p).length:=by rw[pr.length,List.length_map]
  intro D1 OU;refine cf (xs:=ys) (fun i acc H2=>au H1 H2/\H2 D1=some (.lst acc)/\acc=aV ((bR L p).take i)) ⟨au.new OU,aj,rfl⟩ ?_ (dl (Nat.ble_eq.mpr (by lia))) ?_ ?_
  ·rintro i acc H2 hi ⟨s2,mF,rfl⟩;exact⟨aW.of (s2 _ _ hD),mF,by rw[aM,List.length_take];exact Nat.min_le_left _ _⟩
  ·rintro i x acc H2 hx ⟨s2,mF,rfl⟩;obtain⟨l,hl,bb,rfl,_,_,Qg⟩:=Paired.mD pr hx;rw[List.getElem?_map]at hl;obtain⟨r,hr0,rfl⟩:=J7.mp hl;have Rc:=xO.mp (nJ hr0);refine⟨rfl,ao rfl (nY (aW.of (s2 _ _ Qg)) (aq (j:=0) (tD (Bo hle Rc.2 Rc.1))) ⟨mF,s2.put OU,aj,?_⟩)⟩;rw[List.take_add_one,hr0];exact(o5 _ _).symm
  ·rintro acc H2 ⟨s2,mF,rfl⟩;rw[JW,List.take_length]at mF;have s12:=s1.trans s2;refine(ao rfl (fN (bI.of (s12 _ _ h1)) (aq (j:=0) rfl) (ao rfl ⟨(by lia),(by lia),fun D2 Nl=>ee (lo:=0) (m:=(p:Int).toNat) (mT (fun x=>!decide (L x=x)) H2 D2) (.start Nl) (fun i acc H3 _ pk=>pk.len) (dl (Nat.ble_eq.mpr (by lia))) ?_ ?_⟩)))
   ·intro i acc H3 hi pk;rw[Int.toNat_natCast]at hi;rw[Int.zero_add];refine⟨rfl,ao rfl (ao rfl (tK rfl (.inl (aW.of (pk.1 _ _ mF))) ⟨rfl,wK _,!decide (L i=i),?_,?_⟩))⟩
    ·show V.bl (!HZ (.int (i:Int)) (aV (bR L p)))=_;rw[um];have e:decide (i∈bR L p)=decide (L i=i):=by
      rw[Bool.eq_iff_iff,decide_eq_true_eq,decide_eq_true_eq,xO];exact⟨fun z=>z.2,fun z=>⟨hi,z⟩⟩
     rw[e]
    ·cases hb : !decide (L i=i) with
     | true=>exact lu (ao rfl (pk.yes Nl (au.refl _) hb))
     | false=>exact iL (pk.no (au.refl _) hb)
   ·intro acc H3 pk;have Jh:H3 D2=some (.lst (aV (gr p ts g))):=by
     rw[pk.2.1,pk.2.2,Int.toNat_natCast];unfold gr;rw[hL]
    have sW:=s12.trans pk.1;generalize hks:gr p ts g=ks at Jh Rb;refine⟨dl rfl,fun D3 wB=>?_⟩
    have Rf:au H3 (upd H3 D3 (.lst [])):=au.new wB;have Nm:upd H3 D3 (.lst []) D3=some (.lst []):=aj;have Rh:H D3=none:=sW.free wB;generalize upd H3 D3 (.lst [])=H4 at Rf Nm;refine(ao rfl ⟨D2,rfl,⟨_,aW.of (Rf _ _ Jh)⟩,tS (K:=K) (a:=D2) (xs:=aV ks) (fun i σ H5=>∃ v4 v5 ys,σ=[some (.ref wb),some (.ref D1),some (.ref D2),some (.ref D3),v4,v5]/\au H3 H5/\H5 D3=some (.lst ys)/\Paired (fV D3 H H5) ys ((ks.take i).map fun u=>ks.map fun v=>sY ts u v)/\ys.length<=i)
     ⟨none,none,[],rfl,Rf,Nm,by rw[List.take_zero];exact .nil,Nat.le_refl _⟩ (fun i σ H5 _ ⟨_,_,_,_,z,_⟩=>aW.of (z _ _ Jh)) ?_ ?_⟩)
    ·rintro i y σ H5 hi ⟨v4,v5,ys,rfl,s5,G3,C6,Zr⟩;obtain⟨u,hu,rfl⟩:=dP hi;have Lo:=s5 _ _ Jh;have hik:i<ks.length:=by
      have:=(zj.mp hi).1;rw[aM]at this;exact this
     refine(ao rfl ⟨D2,rfl,⟨_,aW.of Lo⟩,fun D4 G4=>cf (xs:=aV ks) (uo (fun v=>(sX ts u v:Int)) ks H5 D4) (.start G4) (fun j acc H6 _ pd=>⟨aW.of (pd.1 _ _ Lo),pd.len⟩) (by rw[aM];exact dl (Nat.ble_eq.mpr (by lia))) ?_ ?_⟩)
     ·intro j x acc H6 hx pd;obtain⟨v,hv,rfl⟩:=dP hx;exact⟨rfl,ao rfl (ao rfl (ao rfl ⟨wb,p,ts,u,v,rfl,hw.same ((sW.trans s5).trans pd.1),wl,fun H7 s7=>pd.next G4 s7 hv rfl⟩))⟩
     ·intro acc H6 pd;rw[aM]at pd;have Nn:=pd.fin;have Np:=pd.1 _ _ Lo;have Ri:=pd.1 _ _ G3;refine(ao rfl ⟨.inl ⟨rfl,_,aW.of Ri⟩,ao rfl (ao rfl ⟨D2,D4,rfl,⟨_,aW.of Np⟩,⟨_,aW.of Nn⟩,fun D5 G9=>pX (xs:=aV ks) (ys:=(ks.map fun v=>(sX ts u v:Int)).map V.int) (by rw[aM,List.length_map,List.length_map]) (uo (fun v=>sY ts u v) ks H6 D5) (.start G9) (fun j acc H7 _ pd=>⟨aW.of (pd.1 _ _ Np),aW.of (pd.1 _ _ Nn),pd.len⟩) (by rw[aM];exact dl (Nat.ble_eq.mpr (by lia))) ?_ ?_⟩)⟩)
      ·intro j x y T0 acc H7 hx hy LP hT;obtain⟨v,hv,rfl⟩:=dP hx;have Zs:y = .int (sX ts u v:Int):=by
        rw[List.getElem?_map,List.getElem?_map,hv]at hy;exact(Option.some.inj hy).symm
       subst Zs;have s8:au H7 (upd H7 T0 (.tup [.int (v:Int),.int (sX ts u v:Int)])):=au.new hT;have Xx:upd H7 T0 (.tup [.int (v:Int),.int (sX ts u v:Int)]) T0=some (.tup [.int (v:Int),.int (sX ts u v:Int)]):=aj;generalize upd H7 T0 (.tup [.int (v:Int),.int (sX ts u v:Int)])=H8 at s8 Xx;refine⟨T0,_,rfl,bI.of Xx,rfl,_,_,rfl,_,_,rfl,rfl,rfl,?_⟩;refine(ao rfl (ao rfl ⟨rfl,ao rfl (?_)⟩));rw[gY]
       by_cases huv:v=u
       ·rw[eG huv];exact lu (ao rfl (LP.next G9 s8 hv (by unfold sY;rw[if_pos huv])))
       ·rw[ia huv];exact iL (ao rfl (ao rfl (LP.next G9 s8 hv (by unfold sY;rw[if_neg huv]))))
      ·intro acc H7 LP;rw[aM]at LP;have Rj:=LP.fin;have Rk:=pd.1.trans LP.1;have Rl:=Rk _ _ G3;have n5:D5≠D3:=(aY (pd.1 _ _ G3) G9).symm;refine⟨D3,ys,_,rfl,rfl,Rl,o8 (by lia),?_⟩
       refine⟨_,_,_,rfl,(s5.trans Rk).put wB,aj,?_,by rw[List.length_append,List.length_singleton];lia⟩
       rw[List.take_add_one,hu,List.map_append];refine Paired.snoc (Paired.imp' (fun _ _ z=>(z.same Rk).put) C6) (fV.put ⟨D5,rfl,n5,((sW.trans s5).trans pd.1).free G9,Rj⟩)
    ·rintro σ H5 ⟨v4,v5,ys,rfl,s5,G3,C6,Zr⟩;rw[aM,List.take_length]at C6;exact(ao rfl (q D3 ys H5 Rh (sW.trans s5) G3 (by unfold we;rw[hks];exact C6)))
end
def prs(ts:List cg):List (Nat×Nat):=ts.map fun t=>(t.1.toNat,t.2.1.toNat)
theorem BW{p:Nat}{ts:List cg}(g:az p ts):RM.ps g.N=prs ts:=by
 unfold RM.ps prs;refine List.ext_getElem (by rw[List.length_map,List.length_map,List.length_range];rfl) fun i h1 h2=>?_
 rw[List.length_map]at h2;rw[List.getElem_map,List.getElem_map,List.getElem_range];show((cM ts i).1.toNat,(cM ts i).2.1.toNat)=_;unfold cM;rw[List.getD_eq_getElem?_getD,List.getElem?_eq_getElem h2];rfl
def pM(u v e:Int):Int:=if e=v then u else e
def Ji(u v:Int)(ts:List cg):List cg:=(ts.map fun t=>(pM u v t.1,pM u v t.2.1,t.2.2)).filter fun t=>decide (t.1≠t.2.1)
theorem C9(u v:Int)(ts:List cg):(Ji u v ts).length<=ts.length:=by
 unfold Ji;exact Nat.le_trans (List.length_filter_le _ _) (by rw[List.length_map];exact Nat.le_refl _)
theorem Dc{u v e:Int}{p:Int}(hu:0<=u/\u<p)(he:0<=e/\e<p):0<=pM u v e/\pM u v e<p:=by
 unfold pM
 split
 ·exact hu
 ·exact he
theorem Hf{p:Nat}{ts:List cg}{u v:Int}(g:az p ts)(hu:0<=u/\u<(p:Int)):az p (Ji u v ts):=by
 refine⟨g.p1,g.p2,Nat.le_trans (C9 u v ts) g.len,fun t ht=>?_⟩
 obtain⟨h1,h2⟩:=List.mem_filter.mp ht;obtain⟨d,hd,rfl⟩:=List.mem_map.mp h1;have z:=g.uc d hd;have e1:=Dc (v:=v) hu ⟨z.a0,z.a1⟩;have e2:=Dc (v:=v) hu ⟨z.b0,z.b1⟩;exact⟨e1.1,e1.2,e2.1,e2.2,mG h2,z.l0,z.l1⟩
theorem De{p:Nat}{u v:Nat}:∀{ts:List cg},(∀ t∈ts,jF (p:Int) t)->prs (Ji (u:Int) (v:Int) ts)=Dt.bZ u v (prs ts)
 | [],_=>rfl
 | t::ts,h=>by
   have ih:=De (u:=u) (v:=v) fun d hd=>h d (vz _ hd)
   have z:=h t List.mem_cons_self;have e:∀ x:Int,0<=x->pM (u:Int) (v:Int) x=((Dt.mv u v x.toNat:Nat):Int):=fun x hx=>by
    unfold pM Dt.mv
    by_cases q:x=(v:Int)
    ·rw[if_pos q,if_pos (by lia)]
    ·rw[if_neg q,if_neg (by lia)];lia
   show prs (List.filter _ ((pM u v t.1,pM u v t.2.1,t.2.2)::ts.map _))=Dt.bZ u v ((t.1.toNat,t.2.1.toNat)::prs ts);rw[Dt.uA,List.filter_cons,e t.1 z.a0,e t.2.1 z.b0]
   by_cases q:Dt.mv u v t.1.toNat=Dt.mv u v t.2.1.toNat
   ·rw[if_pos q,if_neg (by rw[decide_eq_true_eq];exact fun n=>n (by rw[q]))]
    exact ih
   ·rw[if_neg q,if_pos (by rw[decide_eq_true_eq];exact fun n=>q (by have:((Dt.mv u v t.1.toNat:Nat):Int)=((Dt.mv u v t.2.1.toNat:Nat):Int):=n;lia))]
    show(_,_)::prs (Ji u v ts)=_;rw[ih];rfl
def qY:Sp:=fun vs H Q _=>∃ e u v:Int,vs=[.int e,.int u,.int v]/\Q (.int (pM u v e)) H
def qZ:Sp:=fun vs H Q _=>∃ w p ts,∃ u v:Int,vs=[.ref w,.int u,.int v]/\bE H w p ts/\ts.length<=24/\∀ D H',au H H'->bE H' D p (Ji u v ts)->Q (.ref D) H'
def nF(n:Nat):Sp:=fun vs H Q _=>∃ w p ts,∃ _:az p ts,vs=[.ref w]/\bE H w p ts/\ts.length<=n/\∀ H',au H H'->Q (.int ((Dt.tk n (prs ts):Nat):Int)) H'
section
variable {P:Program}{w:World}{K:bY}{mg:jY}{base:Heap}{a:yK}
theorem jM(T:Txt K mg a):aL P w K mg base dh 1 a.iy a.jK ["end","one","other"] qY:=by
 refine T.sH.ok yI (fun vs H Q E h=>?_) (fun cdv A outer s H vs Q E hr h=>?_)
 ·obtain⟨e,u,v,rfl,_⟩:=h;rfl
 ·obtain⟨e,u,v,rfl,q⟩:=h;refine⟨_,(av (aQ (j6 (aP gx (pv 0) (pv 2) (aX _)) (pv 1) (pv 0)))),?_⟩;refine(ao rfl (ao rfl ⟨rfl,ao rfl (?_)⟩));unfold pM at q
  by_cases h:e=v
  ·rw[if_pos h]at q;exact zF (congrArg V.int h) (ao rfl (q))
  ·rw[if_neg h]at q;exact Dv (fun z=>h (V.int.inj z)) (ao rfl (q))
theorem eF(T:Txt K mg a):aL P w K mg base dh 2 a.bO a.cU ["web","one","other"] qZ:=by
 have jM:aL P w K mg base dh 1 a.iy a.jK ["end","one","other"] qY:=jM T;refine T.iA.ok gA (fun vs H Q E h=>?_) (fun cdv A outer s H vs Q E hr h=>?_)
 ·obtain⟨w,p,ts,u,v,rfl,_⟩:=h;rfl
 ·obtain⟨wb,p,ts,u,v,rfl,hw,wl,q⟩:=h;refine⟨_,(ai (lB (i:=3) gA.nd rfl rfl (own:=["tie"]) (fq:=["one","other"]) (js:=[1,2]) (aK (ae bh) ["web","one","other","ties"]) rfl (Qp K (aD (fM K) (pv 0) ah (fun _ _=>rfl))) (fun _ _ _ _=>(aE (i:=0) (show(["tie","one","other"]:List Str).Nodup by decide +kernel) rfl (Or.inl rfl))) (fun _ _ _ _=>d8) (fun _ _ _ _=>(mP (aa (aA jM (hr.mono (by decide)) (by rfl) T.sI T.sM T.sJ .nil bg (aa (aD (fM K) (pv 0) ah (fun _ _=>rfl)) (aa (pv 1) (aa (pv 2) af)))) (aa (aA jM (hr.mono (by decide)) (by rfl) T.sI T.sM T.sJ .nil bg (aa (aD (fM K) (pv 0) ah (fun _ _=>rfl)) (aa (pv 1) (aa (pv 2) af)))) (aa (aD (fM K) (pv 0) ah (fun _ _=>rfl)) af))))))
   (av (aQ (mP (aa (aD (fM K) (pv 0) ah (fun _ _=>rfl)) (aa (gC (JA K) (by rfl) T.C4 PyProof.Rows.boot_tuple (aa (cC (own:=["tie"]) (fq:=[]) (js:=[]) (aK (ae bh) ["web","one","other","ties"]) rfl (vD K (pv 3)) (fun _ _ _ _=>(aE (i:=0) (show(["tie"]:List Str).Nodup by decide +kernel) rfl (Or.inl rfl))) (fun _ _ _ _=>(eH (aP pQ (aD (fM K) (pv 0) ah (fun _ _=>rfl)) (aD (fM K) (pv 0) ah (fun _ _=>rfl)) (aX _)))) (fun _ _ _ _=>(pv 0))) af)) af)))))),?_⟩
  refine mE ?_;intro cR;obtain⟨bt,xs,h1,h2,h3⟩:=id hw.ex;have vA:=h3.length;refine(ao rfl (fN (bI.of h1) (aq (j:=1) rfl) ⟨bt,rfl,⟨_,bI.of h2⟩,fun D hD=>zD (xs:=xs) (fun i acc H2=>au H H2/\H2 D=some (.lst acc)/\Paired (TupAt H2) acc ((ts.take i).map fun t=>(pM u v t.1,pM u v t.2.1,t.2.2))) ⟨au.new hD,aj,by rw[List.take_zero];exact .nil⟩ (fun i acc H2 _ ⟨s2,mF,e⟩=>⟨bI.of (s2 _ _ h2),mF,by rw[e.length,List.length_map];exact List.length_take_le _ _⟩) (dl (Nat.ble_eq.mpr (by lia))) ?_ ?_⟩))
  ·rintro i x acc H2 hx ⟨s2,mF,e⟩;obtain⟨t,ht,ct,rfl,hct⟩:=Paired.mD h3 hx;have hct:=s2 _ _ hct;refine⟨rfl,ao rfl (fN (bI.of hct) (aq (j:=0) rfl) (ao rfl (ao rfl ⟨t.1,u,v,rfl,ao rfl (fN (bI.of hct) (aq (j:=1) rfl) (ao rfl (ao rfl ⟨t.2.1,u,v,rfl,ao rfl (fN (bI.of hct) (aq (j:=2) rfl) ⟨dl rfl,fun c hc=>?_⟩)⟩)))⟩)))⟩
   have Zt:c≠D:=fun z=>by rw[z,mF]at hc;cases hc
   refine⟨au.new hc _ _ mF,(s2.trans (au.new hc)).put hD,aj,?_⟩;rw[List.take_add_one,ht,List.map_append];refine cO ⟨c,rfl,by rw[aT Zt,aj];rfl⟩ (Paired.imp' (fun x t z=>?_) e)
   obtain⟨c',rfl,hc'⟩:=z;refine⟨c',rfl,?_⟩;rw[aT (fun z=>by rw[z,mF]at hc';cases hc')]
   exact au.new hc _ _ hc'
  rintro ac H2 ⟨s2,mF,e⟩;rw[vA,List.take_length]at e;have al:ac.length=ts.length:=by rw[e.length,List.length_map]
  generalize Zu:(ts.map fun t=>((pM u v t.1,pM u v t.2.1,t.2.2):cg))=ms at e
  have el:=e.length;refine(ao rfl (fN (bI.of (s2 _ _ h1)) (aq (j:=0) rfl) (ao rfl ⟨D,rfl,⟨_,aW.of mF⟩,fun C hC=>cf (xs:=ac) (fun i acc H3=>au H2 H3/\H3 C=some (.lst acc)/\acc.length<=i/\Paired (TupAt H3) acc ((ms.take i).filter fun t=>decide (t.1≠t.2.1))) ⟨au.new hC,aj,Nat.le_refl _,by rw[List.take_zero];exact .nil⟩ (fun i acc H3 _ ⟨s3,J0,e,_⟩=>⟨aW.of (s3 _ _ mF),J0,e⟩) (gX (by lia)) ?_ ?_⟩)))
  ·rintro i x acc H3 hx ⟨s3,J0,Zv,e3⟩;obtain⟨t,ht,ct,rfl,hct⟩:=Paired.mD e hx;have hct:=s3 _ _ hct;refine⟨rfl,ao rfl (fN (bI.of hct) (aq (j:=0) rfl) (ao rfl (fN (bI.of hct) (aq (j:=1) rfl) ⟨rfl,ao rfl (?_)⟩)))⟩;rw[List.take_add_one,ht,List.filter_append]
   by_cases q:t.1=t.2.1
   ·refine tX (congrArg V.int q) ⟨s3,J0,by lia,?_⟩
    show Paired _ _ (_++List.filter _ [t]);rw[List.filter_cons,if_neg (by rw[decide_eq_true_eq];exact fun n=>n q),List.filter_nil,List.append_nil]
    exact e3
   ·have hcC:ct≠C:=fun z=>by rw[z,J0]at hct;cases hct
    refine G7 (fun z=>q (V.int.inj z)) (ao rfl ⟨J0,s3.put hC,aj,by rw[List.length_append];show _+1<=_;lia,?_⟩)
    show Paired _ _ (_++List.filter _ [t]);rw[List.filter_cons,if_pos (by rw[decide_eq_true_eq];exact q),List.filter_nil]
    refine cO ⟨ct,rfl,by rw[aT hcC];exact hct⟩ (Paired.imp' (fun x t z=>?_) e3)
    obtain⟨c',rfl,hc'⟩:=z;refine⟨c',rfl,?_⟩;rw[aT (fun z=>by rw[z,J0]at hc';cases hc')]
    exact hc'
  rintro Rm H3 ⟨s3,J0,Zv,e3⟩;rw[el,List.take_length,<-Zu]at e3;have e3:Paired (TupAt H3) Rm (Ji u v ts):=e3;refine⟨C,_,rfl,.inl ⟨aW.of J0,fun Tp Zw=>⟨dl rfl,fun W hW=>?_⟩⟩⟩
  have s8:au H3 (upd (upd H3 Tp (.tup Rm)) W (.tup [.int (p:Int),.ref Tp])):=(au.new Zw).trans (au.new hW);exact q W _ ((s2.trans s3).trans s8) ⟨Tp,Rm,aj,au.new hW _ _ aj,Paired.imp' (fun x t ⟨c,e,hc⟩=>⟨c,e,s8 _ _ hc⟩) e3⟩
end
def Hg:Nat->Sp
 | 0=>fun _ _ _ _=>False
 | n+1=>nF n
theorem Hh{n m:Nat}(e:n=m+1){vs:List V}{H:Hp}{Q:VK}{E:XK}(h:nF m vs H Q E):Hg n vs H Q E:=by
 subst e;exact h
theorem Ex{p:Nat}{t:cg}{ts:List cg}(g:az p (t::ts)):az p ts:=⟨g.p1,g.p2,by have:=g.len;rw[List.length_cons]at this;lia,fun d hd=>g.uc d (vz _ hd)⟩
open Classical in
theorem Ey{p:Nat}{t:cg}{ts:List cg}(g:az p (t::ts))(g1:az p ts):g.N.ak.length=g1.N.ak.length+if Dt.Cn (prs ts) t.1.toNat t.2.1.toNat then 1 else 0:=by
 have:=RM.BD (N:=g.N) (N1:=g1.N) rfl rfl (fun k _=>rfl) (fun k _=>rfl)
 rw[BW g1]at this;exact this
theorem Hi(xs:List V)(k:Nat):sP xs (some (k:Int)) none=xs.drop k:=by
 unfold sP;rw[HT.HS,HT.EZ]
 by_cases h:k<=xs.length
 ·rw[Nat.min_eq_left h,List.take_of_length_le (by rw[List.length_drop];exact Nat.le_refl _)]
 ·rw[Nat.min_eq_right (by lia),Nat.sub_self,List.take_zero,List.drop_eq_nil_of_le (by lia)]
section
variable {P:Program}{w:World}{K:bY}{mg:jY}{base:Heap}{a:yK}
open Classical in
theorem vp(T:Txt K mg a)(n:Nat)(h9:aL P w K mg base dh (6+n) a.dc a.dZ ["web"] (Hg n)):aL P w K mg base dh (6+n+1) a.dc a.dZ ["web"] (nF n):=by
 have jT:aL P w K mg base dh 6 a.pH a.rO ["web"] tL:=jT T;have eF:aL P w K mg base dh 2 a.bO a.cU ["web","one","other"] qZ:=eF T;refine T.oR.ok ez (fun vs H Q E h=>?_) (fun cdv A outer s H vs Q E hr h=>?_)
 ·obtain⟨w,p,ts,g,rfl,_⟩:=h;rfl
 ·obtain⟨wb,p,ts,g,rfl,hw,hn,q⟩:=h;refine⟨_,(ai (fO (aP gx (bf (j8 K) (by rfl) T.fL PySem.boot_len (aa (aD (fM K) (pv 0) ah (fun _ _=>rfl)) af)) ah (aX _)) (av (aQ ah)) bW)
   (ai (aN (i:=1) ez.nd rfl (Or.inl rfl) (aD (fM K) (aD (fM K) (pv 0) ah (fun _ _=>rfl)) ah (fun _ _=>rfl)))
   (ai (aN (i:=2) ez.nd rfl (Or.inl rfl) (mP (aa (aD (fM K) (pv 0) ah (fun _ _=>rfl)) (aa (mQ (KQ) (aD (fM K) (pv 0) ah (fun _ _=>rfl)) (pS ah) pR) af))))
   (ai (aN (i:=3) ez.nd rfl (Or.inl rfl) (aA h9 (hr.mono (by lia)) (by rfl) T.jP T.jR T.jQ .nil bg (aa (aA eF (hr.mono (by lia)) (by rfl) T.nu T.ny T.nv .nil bg (aa (pv 2) (aa (aD (fM K) (pv 1) ah (fun _ _=>rfl)) (aa (aD (fM K) (pv 1) ah (fun _ _=>rfl)) af)))) af)))
   (ai (fO (aP B7 (aA jT (hr.mono (by lia)) (by rfl) T.yN T.yX T.yO .nil bg (aa (pv 2) af)) (aA jT (hr.mono (by lia)) (by rfl) T.yN T.yX T.yO .nil bg (aa (pv 0) af)) (aX _)) (av (A3 (i:=3) ez.nd rfl (Or.inl rfl) (aA h9 (hr.mono (by lia)) (by rfl) T.jP T.jR T.jQ .nil bg (aa (pv 2) af)) xZ)) bW)
   (av (aQ (pv 3)))))))),?_⟩
  refine uL ?_;intro cR fE iI mh sD sE uC;obtain⟨bt,xs,h1,h2,h3⟩:=id hw.ex;have vA:=h3.length;have wl:=g.len;refine(ao rfl (fN (bI.of h1) (aq (j:=1) rfl) (tK rfl (.inr (bI.of h2)) ⟨rfl,ao rfl (?_)⟩)))
  match ts,xs,h3,g,hw,hn,q,vA,wl,h2 with
  | [],xs,h3,g,hw,hn,q,vA,wl,h2 =>
    rw[show decide (V.int ((xs.length:Nat):Int)=V.int 0)=true from eG (by rw[vA];rfl)]
    have e:Dt.tk n (prs [])=1:=by cases n<;>rfl
    rw[e]at q;exact lu (q H (au.refl _))
  | t::ts,x::xs,.cons ⟨c,ex,hc⟩ h3,g,hw,hn,q,vA,wl,h2 =>
    subst ex;obtain⟨m,em⟩:∃ m,n=m+1:=⟨n-1,by rw[List.length_cons]at hn;lia⟩
    have hn:ts.length<=m:=by rw[List.length_cons]at hn;lia
    have wl:ts.length<=23:=by rw[List.length_cons]at wl;lia
    have g1:=Ex g;have z:=g.uc t List.mem_cons_self;rw[show decide (V.int ((((V.ref c::xs).length:Nat)):Int)=V.int 0)=false from ia (fun y=>by have:=V.int.inj y;rw[List.length_cons]at this;lia)]
    refine iL (ao rfl (fN (bI.of h1) (aq (j:=1) rfl) (fN (bI.of h2) (aq (j:=0) rfl) (?_))));refine(ao rfl (fN (bI.of h1) (aq (j:=0) rfl) (ao rfl (fN (bI.of h1) (aq (j:=1) rfl) (ao rfl ⟨bt,_,rfl,h2,fun tp H2 s2 htp=>⟨dl rfl,fun W hW=>?_⟩⟩)))))
    have htp:H2 tp=some (.tup xs):=by rw[htp,show sP (V.ref c::xs) (some 1) none=(V.ref c::xs).drop 1 from Hi _ 1];rfl
    have s3:au H (upd H2 W (.tup [.int (p:Int),.ref tp])):=s2.trans (au.new hW);have OV:bE (upd H2 W (.tup [.int (p:Int),.ref tp])) W p ts:=⟨tp,xs,aj,au.new hW _ _ htp,Paired.imp' (fun x t ⟨c,e,hc⟩=>⟨c,e,s3 _ _ hc⟩) h3⟩
    generalize upd H2 W (.tup [.int (p:Int),.ref tp])=H3 at s3 OV;have hc3:=s3 _ _ hc;refine(ao rfl (ao rfl (fN (bI.of hc3) (aq (j:=0) rfl) (ao rfl (fN (bI.of hc3) (aq (j:=1) rfl) ⟨W,p,ts,t.1,t.2.1,rfl,OV,by lia,fun D H4 s4 hD=>?_⟩)))))
    refine Hh em ⟨D,p,Ji t.1 t.2.1 ts,Hf g1 ⟨z.a0,z.a1⟩,rfl,hD,Nat.le_trans (C9 _ _ _) hn,fun H5 s5=>?_⟩
    have LQ:=s4.trans s5;have ec:prs (Ji t.1 t.2.1 ts)=Dt.bZ t.1.toNat t.2.1.toNat (prs ts):=by
     have:=De (p:=p) (u:=t.1.toNat) (v:=t.2.1.toNat) g1.uc;rw[Int.toNat_of_nonneg z.a0,Int.toNat_of_nonneg z.b0]at this;exact this
    rw[ec];have eq:Dt.tk n (prs (t::ts))=Dt.tk m (Dt.bZ t.1.toNat t.2.1.toNat (prs ts))+if Dt.Cn (prs ts) t.1.toNat t.2.1.toNat then Dt.tk m (prs ts) else 0:=by rw[em];rfl
    have er:=Ey g g1;refine(ao rfl ⟨W,p,ts,g1,rfl,OV.same LQ,fun H6 s6=>(ao rfl ⟨wb,p,t::ts,g,rfl,hw.same ((s3.trans LQ).trans s6),fun H7 s7=>(cE (ao rfl (?_)))⟩)⟩)
    have Rn:=(LQ.trans s6).trans s7
    by_cases hq:Dt.Cn (prs ts) t.1.toNat t.2.1.toNat
    ·rw[if_pos hq]at er eq;rw[eq]at q;refine zy (fun _=>(ao rfl (ao rfl (Hh em ⟨W,p,ts,g1,rfl,OV.same Rn,hn,fun H8 s8=>(cE (?_))⟩)))) (fun y=>absurd (eG (by lia)) y)
     have:=q H8 ((s3.trans Rn).trans s8);rw[Int.natCast_add]at this;exact(ao rfl (this))
    ·rw[if_neg hq]at er eq;rw[eq]at q;refine zy (fun y=>absurd (mG y) (by lia)) (fun _=>?_)
     exact(ao rfl (q H7 (s3.trans Rn)))
theorem xP(T:Txt K mg a):∀ n,aL P w K mg base dh (6+n+1) a.dc a.dZ ["web"] (nF n)
 | 0=>vp T 0 ⟨fun _ _ _ _ h=>h.elim,fun _ _ _ _ _ _ _ _ _ _ _ _ _ h=>h.elim⟩
 | n+1=>vp T (n+1) (xP T n)
end
def q9(C:Addr):Sp:=fun vs H Q E=>∃ w p ts,∃ _:az p ts,vs=[.ref w]/\bE H w p ts/\(ts.length<=12->Q .iC H)/\(12<ts.length->E (.ref C) none H)
def rf(C:Addr):Sp:=fun vs H Q E=>∃ w p ts,∃ g:az p ts,vs=[.ref w]/\bE H w p ts/\(ts.length<=12->∀ H',au H H'->Q (.int (RM.fo g.N)) H')/\(12<ts.length->E (.ref C) none H)
def nG:Sp:=fun vs H Q _=>∃ w p ts,∃ g:az p ts,vs=[.ref w]/\bE H w p ts/\∀ H',au H H'->Q (.int (RM.fo g.N)) H'
theorem xQ{p:Nat}{t:cg}(z:jF (p:Int) t)(u:Nat):gq t u=decide (t.1.toNat=u\/t.2.1.toNat=u):=by
 have:=G5 u t.1.toNat t.2.1.toNat;rw[Int.toNat_of_nonneg z.a0,Int.toNat_of_nonneg z.b0]at this;exact this
theorem Ez(t:cg)(ts:List cg)(u v:Nat):sY (t::ts) u v=(if(gq t u&&gq t v)=true then(if v=u then 1 else -1) else 0)+sY ts u v:=by
 unfold sY sX;rw[List.filter_cons]
 by_cases h:(gq t u&&gq t v)=true
 ·rw[if_pos h,if_pos h,List.length_cons]
  by_cases e:v=u
  ·rw[if_pos e,if_pos e,if_pos e];lia
  ·rw[if_neg e,if_neg e,if_neg e];lia
 ·rw[if_neg h,if_neg h]
  lia
theorem xR{p:Nat}{u v:Nat}:∀{ts:List cg},(∀ t∈ts,jF (p:Int) t)->sY ts u v=Dt.bX (prs ts) u v
 | [],_=>by
   show(if v=u then(0:Int) else -0)=0
   split<;>rfl
 | t::ts,h=>by
   have ih:=xR (u:=u) (v:=v) fun d hd=>h d (vz _ hd)
   have z:=h t List.mem_cons_self;rw[Ez,ih,xQ z,xQ z];show _=Dt.dl (t.1.toNat,t.2.1.toNat) u*Dt.dl (t.1.toNat,t.2.1.toNat) v+Dt.bX (prs ts) u v
   congr 1
   have ne:t.1.toNat≠t.2.1.toNat:=by
    have:=z.ne;have:=z.a0;have:=z.b0
    lia
   unfold Dt.dl Dt.un;dsimp only;generalize t.1.toNat=a at ne;generalize t.2.1.toNat=b at ne;have two:∀ x:Nat,(x=a/\x≠b)\/(x≠a/\x=b)\/(x≠a/\x≠b):=fun x=>by lia
   have f:∀ x:Nat,(decide (a=x\/b=x))=decide (x=a\/x=b):=fun x=>decide_eq_decide.mpr (by lia)
   rw[f,f];rcases two u with⟨h1,h2⟩|⟨h1,h2⟩|⟨h1,h2⟩<;>rcases two v with⟨h3,h4⟩|⟨h3,h4⟩|⟨h3,h4⟩
   all_goals
    first | rw[if_pos h1] | rw[if_neg h1]
    first | rw[if_pos h2] | rw[if_neg h2]
    first | rw[if_pos h3] | rw[if_neg h3]
    first | rw[if_pos h4] | rw[if_neg h4]
    first
     | (rw[if_pos (by rw[eG (by lia),eG (by lia)];rfl),if_pos (by lia)];rfl)
     | (rw[if_pos (by rw[eG (by lia),eG (by lia)];rfl),if_neg (by lia)];rfl)
     | (rw[if_neg (by rw[ia (p:=v=a\/v=b) (by lia),Bool.and_false];decide)];rfl)
     | (rw[if_neg (by rw[ia (p:=u=a\/u=b) (by lia),Bool.false_and];decide)];rfl)
theorem Jj{p:Nat}{ts:List cg}(g:az p ts):gr p ts g=RM.kp g.N:=by
 unfold gr RM.kp;show(List.range p).filter _=(List.range p).filter _;refine List.filter_congr fun x _=>?_
 have e:bx p ts g (2^ts.length-1)=g.N.cG ts.length:=by
  unfold bx RM.Net.cG;exact RM.pA fun k hk=>by rw[ym];simp[hk]
 rw[e];rfl
theorem Df{p:Nat}{ts:List cg}(g:az p ts):Dt.det (gr p ts g).length (ent (we p ts g))=RM.fo g.N:=by
 unfold RM.fo;rw[Dt.CU];have e:=Jj g;show _=Dt.det (RM.kp g.N).length (fun i j=>Dt.bX (RM.ps g.N) ((RM.kp g.N).getD i 0) ((RM.kp g.N).getD j 0))
 rw[<-e,BW];refine Dt.aB fun i j hi hj=>?_
 show((we p ts g).getD i []).getD j 0=_;unfold we;rw[List.getD_eq_getElem?_getD (l:=List.map _ _),List.getElem?_map,List.getElem?_eq_getElem hi];show(List.map (fun v=>sY ts (gr p ts g)[i] v) (gr p ts g)).getD j 0=_
 rw[List.getD_eq_getElem?_getD,List.getElem?_map,List.getElem?_eq_getElem hj,List.getD_eq_getElem?_getD,List.getElem?_eq_getElem hi,List.getD_eq_getElem?_getD,List.getElem?_eq_getElem hj];exact xR g.uc
theorem AO{ts:List cg}(h:ts.length<=24)(u v:Nat):(sY ts u v).natAbs<=24:=by
 unfold sY;have:sX ts u v<=ts.length:=List.length_filter_le _ _
 split<;>lia
section
variable {P:Program}{w:World}{K:bY}{mg:jY}{base:Heap}{a:yK}
theorem nH(T:Txt K mg a):aL P w K mg base (jZ P w) 1 a.iw a.jJ ["web"] (q9 a.jb):=by
 refine T.sG.Cj yG (fun vs H Q E h=>?_) (fun cdv A outer s H vs Q E hr h=>?_)
 ·obtain⟨w,p,ts,g,rfl,_⟩:=h;rfl
 ·obtain⟨wb,p,ts,g,rfl,hw,q1,q2⟩:=h;refine⟨_,(av (fO (aP zo (bf (j8 K) (by rfl) T.fL PySem.boot_len (aa (aD (fM K) (pv 0) ah (fun _ _=>rfl)) af)) (Ih (by rfl) T.yV) (aX _)) (av (mS ef.MG rfl (by rfl) T.El PySem.F.excBase_ValueError (aa tN af))) bW)),?_⟩
  refine yH ?_;intro cR;obtain⟨bt,xs,h1,h2,h3⟩:=id hw.ex;have vA:=h3.length;refine(ao rfl (fN (bI.of h1) (aq (j:=1) rfl) (tK rfl (.inr (bI.of h2)) (cE (ao rfl (zy (fun y=>?_) (fun y=>?_)))))))
  ·have:=mG y;exact⟨dl rfl,q2 (by lia)⟩
  ·refine q1 ?_;have : ¬ _:=fun x=>y (eG x)
   lia
theorem eU(T:Txt K mg a):aL P w K mg base (jZ P w) 20 a.bV a.di ["web"] (rf a.jb):=by
 have nH:aL P w K mg base (jZ P w) 1 a.iw a.jJ ["web"] (q9 a.jb):=nH T;have h9:aL P w K mg base dh 19 a.dc a.dZ ["web"] (nF 12):=xP T 12;refine T.iJ.Cj m7 (fun vs H Q E h=>?_) (fun cdv A outer s H vs Q E hr h=>?_)
 ·obtain⟨w,p,ts,g,rfl,_⟩:=h;rfl
 ·obtain⟨wb,p,ts,g,rfl,hw,q1,q2⟩:=h;refine⟨_,(ai (gW (aA nH (hr.mono (by decide)) (by rfl) T.AF T.AK T.AG .nil ef.passes (aa (pv 0) af)))
   (av (aQ (aA h9 (hr.mono (by decide)) (by rfl) T.jP T.jR T.jQ .nil bg (aa (pv 0) af))))),?_⟩
  refine m8 ?_;intro cR;refine(ao rfl ⟨wb,p,ts,g,rfl,hw,fun h12=>?_,q2⟩)
  refine(ao rfl ⟨wb,p,ts,g,rfl,hw,h12,fun H' s'=>?_⟩)
  have:=q1 h12 H' s';rw[RM.JR (N:=g.N) h12,BW]at this;exact this
theorem jX(T:Txt K mg a):aL P w K mg base dh 7 a.ff a.g9 ["web"] nG:=by
 have jz:aL P w K mg base dh 6 a.eE a.gm ["web"] mz:=jz T;have bF:aL P w K mg base dh 2 a.cZ a.dY ["table"] za:=bF T;refine T.oQ.ok uK (fun vs H Q E h=>?_) (fun cdv A outer s H vs Q E hr h=>?_)
 ·obtain⟨w,p,ts,g,rfl,_⟩:=h;rfl
 ·obtain⟨wb,p,ts,g,rfl,hw,q⟩:=h;refine⟨_,(av (aQ (aA bF (hr.mono (by decide)) (by rfl) T.hU T.h8 T.h7 .nil bg (aa (aA jz (hr.mono (by decide)) (by rfl) T.uT T.u5 T.uU .nil bg (aa (pv 0) af)) af)))),?_⟩
  have kl:(gr p ts g).length<=10:=Nat.le_trans (List.length_filter_le _ _) (by rw[List.length_range];exact g.p2)
  refine(ao rfl ⟨wb,p,ts,g,rfl,hw,fun D ys H1 hD s1 OU py=>⟨D,we p ts g,(gr p ts g).length,24,rfl,⟨ys,OU,Paired.imp' (fun _ _ z=>z.is) py⟩,⟨by unfold we;rw[List.length_map],fun r hr=>by
   unfold we at hr;obtain⟨l,_,rfl⟩:=List.mem_map.mp hr;exact List.length_map _⟩,by lia,by decide,Nat.lt_of_le_of_lt (Dt.qt (by decide) kl) (by decide),tM fun r hr x hx=>by
   unfold we at hr;obtain⟨l,_,rfl⟩:=List.mem_map.mp hr;obtain⟨c,_,rfl⟩:=List.mem_map.mp hx;exact AO g.len _ _,fun H2 s2=>?_⟩⟩)
  rw[Df];exact q H2 (s1.trans s2)
end
def zc(K:bY):Sp:=fun vs H Q _=>∃(a:Addr) (ns:List Int) (k:Nat),vs=[.ref a,.int (k:Int)]/\aW K H a (ns.map V.int)/\∀ z,Q (.int z) H
def zd:Sp:=fun vs H Q _=>∃ c k,vs=[.int c,.int k]/\∀ z,0<=z->Q (.int z) H
def Hj:Sp:=fun vs H Q _=>∃(c:Int) (p:Nat) (t:Int),vs=[.int c,.int (p:Int),.int t]/\2<=p/\p<=10/\1<=t/\t<=100000000000000000000000000000/\
 ∀ zT b r c' H',au H H'->jF (p:Int) zT->H' b=some (.tup (Im zT))->H' r=some (.tup [.ref b,.int c'])->Q (.ref r) H'
def Hl(K:bY):Sp:=fun vs H Q _=>∃(a:Addr) (ns:List Int) (most:Nat),vs=[.ref a,.int (most:Int)]/\aW K H a (ns.map V.int)/\ns.length<=63/\most<=24/\
 ∀ w p ts H',au H H'->az p ts->p<=6->ts.length<=most->bE H' w p ts->Q (.ref w) H'
theorem Nq(y:Int):∃ m,E2 [V.int 1,.int 1,.int 1,.int (10^(29:Int).toNat)] (y%4)=some (.int m)/\1<=m/\m<=100000000000000000000000000000:=by
 obtain⟨h0,h1⟩:=kh y 4 (by decide)
 generalize y%4=i at h0 h1;have hi:i=0\/i=1\/i=2\/i=3:=by lia
 rcases hi with rfl|rfl|rfl|rfl
 ·exact⟨1,aq (j:=0) rfl,by decide,by decide⟩
 ·exact⟨1,aq (j:=1) rfl,by decide,by decide⟩
 ·exact⟨1,aq (j:=2) rfl,by decide,by decide⟩
 ·exact⟨10^(29:Int).toNat,aq (j:=3) rfl,by decide,by decide⟩
section
variable {P:Program}{w:World}{K:bY}{mg:jY}{base:Heap}{a:yK}
theorem fz(T:Txt K mg a):aL P w K mg base dh 1 a.gQ a.jv ["script","k"] (zc K):=by
 refine T.uV.ok Aq (fun vs H Q E h=>?_) (fun cdv A outer s H vs Q E hr h=>?_)
 ·obtain⟨b,ns,k,rfl,_⟩:=h;rfl
 ·obtain⟨b,ns,k,rfl,hS,q⟩:=h;refine⟨_,(ai (fO (aP B7 (pv 1) (bf (j8 K) (by rfl) T.fL PySem.boot_len (aa (pv 0) af)) (aX _)) (av (aQ (aD (mH K) (pv 0) (pv 1) (fun _ _=>rfl)))) bW)
   (av (aQ ah))),?_⟩
  refine Ar ?_;intro cR fE;refine(ao rfl (ao rfl ⟨b,_,rfl,.inl hS,_,_,rfl,rfl,ao rfl (zy (fun hlt=>?_) (fun _=>q 0))⟩))
  have hlt:=mG hlt;rw[List.length_map]at hlt;exact(ao rfl (ao rfl ⟨b,_,_,_,rfl,rfl,hS,aq (j:=k) (Cp (by lia)),q _⟩))
theorem gU(T:Txt K mg a):aL P w K mg base dh 1 a.gR a.jw ["cell","k"] zd:=by
 refine T.uW.ok m9 (fun vs H Q E h=>?_) (fun cdv A outer s H vs Q E hr h=>?_)
 ·obtain⟨c,k,rfl,_⟩:=h;rfl
 ·obtain⟨c,k,rfl,q⟩:=h;refine⟨_,(ai (aN (i:=2) m9.nd rfl (Or.inl rfl) (aJ d7 (aJ gB (aJ gB (pv 0) (aJ rz ah (pv 1))) ah) ah))
   (ai (aN (i:=2) m9.nd rfl (Or.inl rfl) (aJ d7 (aJ rz (pv 2) (pv 2)) ah))
   (av (aQ (aJ lq (aJ d7 (aJ rz (pv 2) ah) ah) ah))))),?_⟩
  refine As ?_;intro cR fE;refine(ao rfl (ao rfl (cE ⟨.inl ⟨by decide,by decide⟩,cE (cE (cE ⟨(oZ rfl),?_⟩))⟩)))
  have h1:=kh (c+7919*k+101) 2147483647 (by decide)
  dsimp only;generalize (c+7919*k+101)%2147483647=n at h1;refine(ao rfl (ao rfl (cE ⟨.inl ⟨by lia,by lia⟩,cE ⟨(oZ rfl),?_⟩⟩)))
  refine(ao rfl (cE ⟨.inr ⟨by decide,by decide⟩,cE ⟨(oZ rfl),cE ⟨⟨by decide,by decide⟩,?_⟩⟩⟩))
  have h2:=kh (n*n%2147483647*48271) 2147483629 (by decide)
  exact q _ (Int.ediv_nonneg h2.1 (by decide))
theorem oA(T:Txt K mg a):aL P w K mg base dh 1 a.kN a.oj ["c","points","times"] Hj:=by
 refine T.xy.ok jr (fun vs H Q E h=>?_) (fun cdv A outer s H vs Q E hr h=>?_)
 ·obtain⟨c,p,t,rfl,_⟩:=h;rfl
 ·obtain⟨c,p,t,rfl,Xy,MB,ht1,QO,q⟩:=h;refine⟨_,(ai (aN (i:=3) jr.nd rfl (Or.inl rfl) (aJ d7 (pv 0) (pv 1)))
   (ai (aN (i:=0) jr.nd rfl (Or.inl rfl) (aJ lq (pv 0) (pv 1)))
   (ai (aN (i:=4) jr.nd rfl (Or.inl rfl) (aJ d7 (aJ gB (aJ gB (pv 3) ah) (aJ d7 (pv 0) (aJ tT (pv 1) ah))) (pv 1)))
   (ai (aN (i:=0) jr.nd rfl (Or.inl rfl) (aJ lq (pv 0) (aJ tT (pv 1) ah)))
   (av (aQ (mP (aa (mP (aa (pv 3) (aa (pv 4) (aa (aJ rz (aJ gB ah (aJ d7 (pv 0) ah)) (pv 2)) af)))) (aa (aJ lq (pv 0) ah) af))))))))),?_⟩
  refine BK ?_;intro cR fE iI mh;have p0:(0:Int)<(p:Int):=by lia
  have p9:(0:Int)<(p:Int)-1:=by lia
  have hd:∀ i,Kq i (p:Int):=fun i=>⟨by lia,by lia⟩
  have hd1:∀ i,Kq i ((p:Int)-1):=fun i=>⟨by lia,by lia⟩
  refine(ao rfl (ao rfl (cE ⟨p0,?_⟩)));refine(ao rfl (ao rfl (cE ⟨hd _,?_⟩)));refine(ao rfl (cE (ao rfl (ao rfl (cE (cE ⟨p9,_,_,rfl,rfl,ao rfl (cE ⟨p0,?_⟩)⟩))))));refine(ao rfl (ao rfl (cE (cE ⟨hd1 _,?_⟩))));obtain⟨r0,r1⟩:=kh (c/p/(p-1)) 9 (by decide)
  refine(ao rfl (ao rfl (ao rfl (cE ⟨(oZ rfl),cE (ao rfl (cE ⟨.inl ⟨by lia,by lia⟩,dl rfl,fun b hb=>?_⟩))⟩))))
  refine(ao rfl (cE ⟨⟨by decide,by decide⟩,dl rfl,fun r hr=>?_⟩))
  obtain⟨o1,o2,o3⟩:=Fq (p:=p) (o:=c%p) (r:=c/p%(p-1)) (kh _ _ p0).1 (kh _ _ p0).2 (kh _ _ p9).1 (kh _ _ p9).2;refine q (c%p,(c%p+1+c/p%(p-1))%p,(1+c/p/(p-1)%9)*t) b r _ _ ((au.new hb).trans (au.new hr)) ?_ (au.new hr _ _ aj) aj;generalize c/p/(p-1)%9=r at r0 r1;have hr' : r=0\/r=1\/r=2\/r=3\/r=4\/r=5\/r=6\/r=7\/r=8:=by lia
  refine⟨(kh _ _ p0).1,(kh _ _ p0).2,o1,o2,o3,?_,?_⟩
  ·show 1<=(1+r)*t;rcases hr' with rfl|rfl|rfl|rfl|rfl|rfl|rfl|rfl|rfl<;>lia
  ·show(1+r)*t<=_;rcases hr' with rfl|rfl|rfl|rfl|rfl|rfl|rfl|rfl|rfl<;>lia
theorem rV(T:Txt K mg a):aL P w K mg base dh 2 a.kO a.om ["script","most"] (Hl K):=by
 have fz:aL P w K mg base dh 1 a.gQ a.jv ["script","k"] (zc K):=fz T;have gU:aL P w K mg base dh 1 a.gR a.jw ["cell","k"] zd:=gU T;have oA:aL P w K mg base dh 1 a.kN a.oj ["c","points","times"] Hj:=oA T;refine T.xC.ok cY (fun vs H Q E h=>?_) (fun cdv A outer s H vs Q E hr h=>?_)
 ·obtain⟨b,ns,most,rfl,_⟩:=h;rfl
 ·obtain⟨b,ns,most,rfl,hS,hn,hm,q⟩:=h;refine⟨_,(ai (aN (i:=2) cY.nd rfl (Or.inl rfl) (aJ d7 (aA fz (hr.mono (by decide)) (by rfl) T.pI T.pK T.pJ .nil bg (aa (pv 0) (aa ah af))) (aJ xY ah ah)))
   (ai (aN (i:=3) cY.nd rfl (Or.inl rfl) (aJ gB ah (aJ d7 (aJ lq (pv 2) ah) ah)))
   (ai (aN (i:=4) cY.nd rfl (Or.inl rfl) (aD (mH K) (fP (aa ah (aa ah (aa ah (aa (aJ xY ah ah) af))))) (aJ d7 (aJ lq (pv 2) ah) ah) (fun _ _=>rfl)))
   (ai (aN (i:=5) cY.nd rfl (Or.inl rfl) (fP af))
   (ai (fO (PW.pt (AY (aP zo (pv 3) ah (aX _)) (xW (aP gx (aJ d7 (pv 2) ah) ah (aX _))))) (ai (aN (i:=6) cY.nd rfl (Or.inl rfl) (aJ d7 (aA fz (hr.mono (by decide)) (by rfl) T.pI T.pK T.pJ .nil bg (aa (pv 0) (aa ah af))) (aJ pV (aJ xY ah ah) (aJ xY ah ah))))
   (av (iD PassesOwn.never rfl (cH (by rfl) T.cF (aa (aJ d7 (aJ lq (pv 2) ah) (aJ gB (pv 1) ah)) af)) (aE (i:=7) cY.nd rfl (Or.inl rfl))
   (ai (rq (aA oA (hr.mono (by decide)) (by rfl) T.xA T.xF T.xB .nil bg (aa (pv 6) (aa (pv 3) (aa (pv 4) af)))) (JB K (n:=2) rfl (bJ (aE (i:=8) cY.nd rfl (Or.inl rfl)) (bJ (aE (i:=6) cY.nd rfl (Or.inl rfl)) jB))))
   (av (gW (Lg K (tW PySem.F.plainAttrs_list PySem.F.slot_list_append PySem.F.type_list_append dO (pv 5) (aa (pv 8) af))))))))) bW)
   (ai (fO (PW.pt (AY (aP zo (pv 3) ah (aX _)) (xW (aP gx (aJ d7 (pv 2) ah) ah (aX _))))) (av (iD PassesOwn.never rfl (nK (by rfl) T.cF (aa ah (aa (bf (wm rfl) (by rfl) T.JU PyProof.Rows.boot_min (aa (bf (j8 K) (by rfl) T.fL PySem.boot_len (aa (pv 0) af)) (aa (aJ gB ah (pv 1)) af))) af))) (aE (i:=7) cY.nd rfl (Or.inl rfl))
   (av (gW (Lg K (tW PySem.F.plainAttrs_list PySem.F.slot_list_append PySem.F.type_list_append dO (pv 5) (aa (aD (fM K) (aA oA (hr.mono (by decide)) (by rfl) T.xA T.xF T.xB .nil bg (aa (aA gU (hr.mono (by decide)) (by rfl) T.uX T.u6 T.uY .nil bg (aa (aD (mH K) (pv 0) (pv 7) (fun _ _=>rfl)) (aa (pv 7) af))) (aa (pv 3) (aa (pv 4) af)))) ah (fun _ _=>rfl)) af))))))) bW)
   (av (aQ (mP (aa (pv 3) (aa (gC (JA K) (by rfl) T.C4 PyProof.Rows.boot_tuple (aa (pv 5) af)) af))))))))))),?_⟩
  refine BL ?_;intro cR fE iI mh sD sE uC C1 C2 C3 An Ao;refine(ao rfl ⟨b,ns,0,rfl,hS,fun z=>(cE ⟨⟨by decide,by decide,by decide⟩,cE ⟨(oZ rfl),?_⟩⟩)⟩)
  have h0:=(kh z (10^(60:Int).toNat) (by decide)).1
  dsimp only;generalize z%10^(60:Int).toNat=hd at h0;refine(ao rfl (cE ⟨⟨by decide,by decide⟩,cE ⟨(oZ rfl),cE (?_)⟩⟩))
  obtain⟨p,hp,p1,p6⟩:∃ p:Nat,1+hd/2%6=(p:Int)/\1<=p/\p<=6:=⟨(1+hd/2%6).toNat,by lia,by lia,by lia⟩
  dsimp only;rw[hp];obtain⟨m,hat,m1,m2⟩:=Nq (hd/12);refine(cE ⟨⟨by decide,by decide,by decide⟩,dl rfl,fun l hl=>(ao rfl (cE ⟨⟨by decide,by decide⟩,cE ⟨(oZ rfl),nY (aW.of aj) (hat) (?_)⟩⟩))⟩)
  have s1:au H (upd H l (.lst [.int 1,.int 1,.int 1,.int (10^(29:Int).toNat)])):=au.new hl;generalize upd H l (.lst [.int 1,.int 1,.int 1,.int (10^(29:Int).toNat)])=H1 at s1;refine⟨dl rfl,fun D hD=>?_⟩
  have hk0:0<=hd/48%((most:Int)+1)/\hd/48%((most:Int)+1)<(most:Int)+1:=kh _ _ (by lia)
  have fin:∀(n:Nat) (H2:Hp),sS (p:Int) H1 D n H2->n<=most->∃ acc,H2 D=some (.lst acc)/\∀ l',H2 l' = none->([V.int (p:Int),.ref l']:List V).length<=sizeLine/\∀ w',upd H2 l' (.tup acc) w' = none->Q (.ref w') (upd (upd H2 l' (.tup acc)) w' (.tup [.int (p:Int),.ref l'])):=by
   intro n H2 ht hnm;obtain⟨acc,ts,hd,hl,gt,z⟩:=ht.fin;refine⟨acc,hd,fun l' hl'=>⟨dl rfl,fun w' hw=>?_⟩⟩
   obtain⟨z1,z2⟩:=z l' hl' w' hw;exact q w' p ts _ (s1.trans z1) ⟨p1,by lia,by lia,gt⟩ p6 (by lia) z2
  have t0:sS (p:Int) H1 D 0 (upd H1 D (.lst [])):=sS.start hD;generalize upd H1 D (.lst [])=H2 at t0
  by_cases Xy:p=1
  ·subst Xy;refine(ao rfl (cE (ao rfl (Dv (by decide) (iL ?_)))))
   refine(ao rfl (cE (ao rfl (Dv (by decide) (iL ?_)))))
   obtain⟨acc,mF,z⟩:=fin 0 H2 t0 (by lia)
   exact(ao rfl (ao rfl ⟨D,acc,rfl,.inl ⟨aW.of mF,z⟩⟩))
  ·by_cases Nr:hd%2=0
   ·refine(ao rfl (cE (ao rfl (zF (by lia) (ao rfl (cE ⟨(oZ rfl),rfl,ao rfl (zF (congrArg V.int Nr) ?_)⟩))))))
    refine(ao rfl ⟨b,ns,1,rfl,(s1.trans t0.1).seq hS,fun z1=>(cE ⟨⟨by decide,by decide,by decide⟩,cE ⟨⟨by decide,by decide,by decide⟩,cE ⟨mulOk_of (by decide) (by decide),cE ⟨(oZ rfl),?_⟩⟩⟩⟩)⟩)
    refine(ao rfl (cE ⟨⟨by decide,by decide⟩,ao rfl (cE (cE ⟨(by lia),ao rfl ⟨(by lia),(by lia),?_⟩⟩))⟩))
    refine iY (lo:=0) (n:=(hd/48%((most:Int)+1)).toNat) (fun i σ H3=>∃ c v7 v8,σ=[some (.ref b),some (.int (most:Int)),some (.int hd),some (.int (p:Int)),some (.int m),some (.ref D),some (.int c),v7,v8]/\sS (p:Int) H1 D i H3) ⟨_,none,none,rfl,t0⟩ ?_ ?_
    ·rintro i σ H3 hi ⟨c,v7,v8,rfl,t3⟩;refine(ao rfl (ao rfl (ao rfl ⟨c,p,m,rfl,by lia,by lia,m1,m2,fun zT bb r c' H4 s4 gt hb hr=>?_⟩)))
     obtain⟨acc,G4,hac,t5⟩:=t3.push hD s4 gt hb;refine⟨r,_,rfl,bI.of hr,rfl,_,_,rfl,_,_,rfl,rfl,?_⟩;exact(ao rfl ⟨.inl ⟨rfl,_,aW.of G4⟩,ao rfl ⟨D,acc,_,rfl,rfl,G4,o8 (by lia),_,_,_,rfl,t5⟩⟩)
    ·rintro σ H3 ⟨c,v7,v8,rfl,t3⟩;refine(ao rfl (cE (ao rfl (zF (by lia) (ao rfl (cE ⟨(oZ rfl),rfl,ao rfl (Dv (fun z=>by have:=V.int.inj z;lia) ?_)⟩))))))
     obtain⟨acc,mF,z⟩:=fin _ H3 t3 (by lia)
     exact(ao rfl (ao rfl ⟨D,acc,rfl,.inl ⟨aW.of mF,z⟩⟩))
   ·refine(ao rfl (cE (ao rfl (zF (by lia) (ao rfl (cE ⟨(oZ rfl),rfl,ao rfl (Dv (fun z=>Nr (V.int.inj z)) ?_)⟩))))))
    refine(ao rfl (cE (ao rfl (zF (by lia) (ao rfl (cE ⟨(oZ rfl),rfl,ao rfl (zF (congrArg V.int (by lia)) ?_)⟩))))))
    have hml:(ns.map V.int).length=ns.length:=List.length_map ..;refine(ao rfl ⟨b,_,rfl,.inl ((s1.trans t0.1).seq hS),ao rfl (cE ⟨_,_,rfl,_,_,rfl,⟨by decide,by decide,?_,?_⟩,?_⟩)⟩)
    ·rw[hml];split<;>lia
    ·rw[hml];split<;>lia
    have C8:∃ r:Nat,((if(2+(most:Int))<((ns.map V.int).length:Int) then 2+(most:Int) else((ns.map V.int).length:Int))-2).toNat=r/\r<=most/\(r=0\/r+2<=ns.length):=(ao rfl ⟨by rw[hml];split<;>lia,by rw[hml];split<;>lia⟩)
    obtain⟨r,hr0,C8,Rc⟩:=C8;refine iY (lo:=2) (n:=_) (fun i σ H3=>∃ v6 v7 v8,σ=[some (.ref b),some (.int (most:Int)),some (.int hd),some (.int (p:Int)),some (.int m),some (.ref D),v6,v7,v8]/\sS (p:Int) H1 D i H3) ⟨none,none,none,rfl,t0⟩ ?_ ?_
    ·rintro i σ H3 hi ⟨v6,v7,v8,rfl,t3⟩;rw[hr0]at hi;have ek:(2:Int)+(i:Int)=((2+i:Nat):Int):=by lia
     rw[ek];have wB:∃ acc,H3 D=some (.lst acc):=let⟨_,acc,_,z,_⟩:=t3;⟨acc,z⟩;obtain⟨Zx,wB⟩:=wB;refine(ao rfl ⟨.inl ⟨rfl,_,aW.of wB⟩,ao rfl (ao rfl ⟨b,_,_,_,rfl,rfl,(s1.trans t3.1).seq hS,aq (j:=2+i) (Cp (by lia)),ao rfl ⟨_,_,rfl,fun z z0=>?_⟩⟩)⟩)
     refine(ao rfl (ao rfl ⟨z,p,m,rfl,by lia,by lia,m1,m2,fun zT bb rr c' H4 s4 gt hb hr=>?_⟩))
     obtain⟨acc,G4,hac,t5⟩:=t3.push hD s4 gt hb;exact(fN (bI.of hr) (aq (j:=0) rfl) ⟨D,acc,_,rfl,rfl,G4,o8 (by lia),_,_,_,rfl,t5⟩)
    ·rintro σ H3 ⟨v6,v7,v8,rfl,t3⟩;rw[hr0]at t3;obtain⟨acc,mF,z⟩:=fin _ H3 t3 (by lia)
     exact(ao rfl (ao rfl ⟨D,acc,rfl,.inl ⟨aW.of mF,z⟩⟩))
end
def sN:Sp:=fun vs H Q _=>∃ m:Nat,vs=[.int (m:Int)]/\Builtin.Int.intBits (m:Int)<=1000/\∀ D H',H D=none->au H H'->H' D=some (.lst (aV (bw (m:Int))))->Q (.ref D) H'
def vq:Sp:=fun vs H Q _=>∃ w p ts,∃ m:Nat,vs=[.ref w,.int (m:Int)]/\bE H w p ts/\JF p ts/\m<2^ts.length/\∀ D H',H D=none->au H H'->H' D=some (.lst (aV (kc p ts (m:Int))))->Q (.ref D) H'
section
variable {P:Program}{w:World}{K:bY}{mg:jY}{base:Heap}{a:yK}
theorem pN(T:Txt K mg a):aL P w K mg base dh 1 a.jx a.lP ["some"] sN:=by
 refine T.uZ.ok Au (fun vs H Q E h=>?_) (fun cdv A outer s H vs Q E hr h=>?_)
 ·obtain⟨m,rfl,_⟩:=h;rfl
 ·obtain⟨m,rfl,hm,k⟩:=h;refine⟨_,(av (aQ (cC (own:=["tie"]) (fq:=["some"]) (js:=[0]) (aK (ae fj) ["some"]) rfl (cH (by rfl) T.cF (aa (E5 PySem.F.plainAttrs_int PyProof.Rows.slot_int_bit_length PyProof.Rows.type_int_bit_length Ci (pv 0)) af)) (fun _ _ _ _=>(aE (i:=0) (show(["tie","some"]:List Str).Nodup by decide +kernel) rfl (Or.inl rfl))) (fun _ _ _ _=>(eH (aP gx (aJ d7 (aJ EU (pv 1) (pv 0)) ah) ah (aX _)))) (fun _ _ _ _=>(pv 0))))),?_⟩
  refine(ao rfl ⟨rfl,ao rfl ⟨rfl,ao rfl ⟨(by lia),(by lia),fun D hD=>ee (lo:=0) (m:=Builtin.Int.intBits (m:Int)) (mT (bit (m:Int)) H D) (.start hD) (fun i acc H2 _ p=>p.len) (dl (Nat.ble_eq.mpr hm)) ?_ ?_⟩⟩⟩)
  ·intro i acc H2 hi p;rw[Int.zero_add];refine⟨rfl,ao rfl (ao rfl (cE ⟨(by lia),cE ⟨(oZ rfl),rfl,ao rfl (?_)⟩⟩))⟩
   rw[Int.toNat_natCast,KS];cases hb:bit (m:Int) i with
   | true=>exact(ao rfl (p.yes hD (au.refl _) hb))
   | false=>exact p.no (au.refl _) hb
  ·intro acc H2 p;exact k D H2 hD p.1 (by rw[p.2.1,p.2.2];rfl)
theorem Jk(t:cg):sP (Im t) none (some 2)=[.int t.1,.int t.2.1]:=rfl
theorem rW(T:Txt K mg a):aL P w K mg base dh 2 a.kP a.oq ["web","some"] vq:=by
 have pN:aL P w K mg base dh 1 a.jx a.lP ["some"] sN:=pN T;refine T.xD.ok lO (fun vs H Q E h=>?_) (fun cdv A outer s H vs Q E hr h=>?_)
 ·obtain⟨w,p,ts,m,rfl,_⟩:=h;rfl
 ·obtain⟨wb,p,ts,m,rfl,hw,W,hm,q⟩:=h;refine⟨_,(ai (aN (i:=2) lO.nd rfl (Or.inr rfl) (aJ yd (fP (aa ah af)) (aD (fM K) (pv 0) ah (fun _ _=>rfl))))
   (ai (iD PassesOwn.never rfl (vD K (aA pN (hr.mono (by decide)) (by rfl) T.BO T.BR T.BP .nil bg (aa (pv 1) af))) (aE (i:=3) lO.nd rfl (Or.inl rfl))
   (av (iD PassesOwn.never rfl (Qp K (mQ (WR K) (aD (fM K) (aD (fM K) (pv 0) ah (fun _ _=>rfl)) (pv 3) (fun _ _=>rfl)) pR (pS ah))) (aE (i:=4) lO.nd rfl (Or.inl rfl))
   (av (rq (aJ gB (aD (mH K) (pv 2) (pv 4) (fun _ _=>rfl)) ah) (tR (pv 2) (pv 4) set_list))))))
   (av (aQ (cC (own:=["point"]) (fq:=["ends"]) (js:=[2]) (aK (ae gP) ["web","some","ends","tie","point"]) rfl (cH (by rfl) T.cF (aa (aD (fM K) (pv 0) ah (fun _ _=>rfl)) af)) (fun _ _ _ _=>(aE (i:=0) (show(["point","ends"]:List Str).Nodup by decide +kernel) rfl (Or.inl rfl))) (fun _ _ _ _=>(eH (aP gx (aJ d7 (aD (mH K) (pv 1) (pv 0) (fun _ _=>rfl)) ah) ah (aX _)))) (fun _ _ _ _=>(pv 0))))))),?_⟩
  refine BN ?_;intro cR fE iI mh;obtain⟨b,xs,h1,h2,h3⟩:=id hw.ex;have wp:=W.EC;have wl:=W.len;have vA:=h3.length;refine⟨dl rfl,fun l0 Ie=>?_⟩
  have s0:au H (upd H l0 (.lst [.int 0])):=au.new Ie;refine(ao rfl (fN (bI.of (s0 _ _ h1)) (aq (j:=0) rfl) ⟨l0,(p:Int),ao rfl ⟨rfl,aj,by lia,by lia,(by rw[Int.toNat_natCast];show 1*p<=sizeLine;exact dl (Nat.ble_eq.mpr (by lia))),fun e he=>?_⟩⟩))
  have s1:=s0.trans (au.new (o:=.lst (List.replicate (p:Int).toNat [V.int 0]).flatten) he);have JV:upd (upd H l0 (.lst [.int 0])) e (.lst (List.replicate (p:Int).toNat [V.int 0]).flatten) e=some (.lst (aR (List.replicate p 0))):=by
   rw[aj,Int.toNat_natCast,mU]
  generalize upd (upd H l0 (.lst [.int 0])) e (.lst (List.replicate (p:Int).toNat [V.int 0]).flatten)=H1 at s1 JV;have Li:H e=none:=s0.free he;have Lk:Builtin.Int.intBits (m:Int)<=ts.length:=bits_le hm;refine(ao rfl ⟨m,rfl,by lia,fun L H2 QX s2 hL=>⟨L,rfl,⟨_,aW.of hL⟩,?_⟩⟩)
  have s12:=s1.trans s2;have heL:e≠L:=aY JV QX;have Xo:wb≠e:=aY h1 Li;have HA:b≠e:=aY h2 Li;refine tS (K:=K) (a:=L) (xs:=aV (bw (m:Int))) (fun i σ H3=>∃ v3 v4,σ=[some (.ref wb),some (.int (m:Int)),some (.ref e),v3,v4]/\(∀ x o,H2 x=some o->x≠e->H3 x=some o)/\H3 e=some (.lst (aR (((bw (m:Int)).take i).foldl (Ring.step ts) (List.replicate p 0)))))
   ⟨none,none,rfl,fun _ _ z _=>z,s2 _ _ JV⟩ (fun i σ H3 _ ⟨_,_,_,z,_⟩=>aW.of (z _ _ hL (Ne.symm heL))) ?_ ?_
  ·rintro i y σ H3 hi ⟨v3,v4,rfl,z3,G0⟩;obtain⟨k,hk,rfl⟩:=dP hi;have zA:k<ts.length:=nN hm (nJ hk);have hkx:k<xs.length:=by lia
   obtain⟨t,ht,c,hc,hct⟩:=Paired.mD h3 (i:=k) (x:=xs[k]) (by simp[hkx])
   have hce:c≠e:=aY hct Li;obtain⟨a0,a1,b0,b1⟩:=W.QD.ends t (nJ ht);refine(ao rfl (fN (bI.of (z3 _ _ (s12 _ _ h1) Xo)) (aq (j:=1) rfl) (ao rfl (fN (v:=xs[k]) (bI.of (z3 _ _ (s12 _ _ h2) HA)) (aq (j:=k) (by simp[hkx])) (?_)))))
   rw[hc];refine(ao rfl ⟨c,_,rfl,bI.of (z3 _ _ (s12 _ _ hct) hce),(fun z=>absurd (show HT.gy 3 3 (some 2)=3 from z.2) (by decide)),fun u hu=>?_⟩)
   rw[Jk];have s4:au H3 (upd H3 u (.tup [.int t.1,.int t.2.1])):=au.new hu;have Ro:upd H3 u (.tup [.int t.1,.int t.2.1]) u=some (.tup [.int t.1,.int t.2.1]):=aj;have Zy:u≠e:=Ne.symm (aY G0 hu);generalize upd H3 u (.tup [.int t.1,.int t.2.1])=H4 at s4 Ro;generalize hE:((bw (m:Int)).take i).foldl (Ring.step ts) (List.replicate p 0)=EE at G0;have Lj:EE.length=p:=by rw[<-hE,zJ,List.length_replicate]
   refine⟨u,rfl,⟨_,bI.of Ro⟩,HN (K:=K) (a:=u) (xs:=[.int t.1,.int t.2.1]) (fun j σ H5=>∃ v4,σ=[some (.ref wb),some (.int (m:Int)),some (.ref e),some (.int (k:Int)),v4]/\(∀ x o,H4 x=some o->x≠e->H5 x=some o)/\H5 e=some (.lst (aR (([t.1,t.2.1].take j).foldl Ring.bump EE))))
    ⟨v4,rfl,fun _ _ z _=>z,s4 _ _ G0⟩ (fun j σ H5 _ ⟨_,_,z,_⟩=>bI.of (z _ _ Ro Zy)) ?_ ?_⟩
   ·rintro j y σ H5 hj ⟨v,rfl,z5,Nt⟩;obtain⟨z,rfl,hz0,hz1,Zz⟩:∃ z:Nat,y=V.int (z:Int)/\z<p/\j<2/\[t.1,t.2.1][j]?=some (z:Int):=by
     match j,hj with
     | 0,hj=>exact⟨t.1.toNat,by rw[Int.toNat_of_nonneg a0];exact(Option.some.inj hj).symm,by lia,by decide,by rw[Int.toNat_of_nonneg a0];rfl⟩
     | 1,hj=>exact⟨t.2.1.toNat,by rw[Int.toNat_of_nonneg b0];exact(Option.some.inj hj).symm,by lia,by decide,by rw[Int.toNat_of_nonneg b0];rfl⟩
    generalize hF:([t.1,t.2.1].take j).foldl Ring.bump EE=FF at Nt;have hFl:FF.length=p:=by
     rw[<-hF]
     match j,hz1 with
     | 0,_=>exact Lj
     | 1,_=>show(Ring.bump EE t.1).length=p;rw[jf,Lj]
    refine(ao rfl (ao rfl (nY (aW.of Nt) (aq (j:=z) (eI (by lia))) (cE (ao rfl (ao rfl ⟨e,_,_,z,rfl,rfl,Nt,lD (by rw[aR,List.length_map];lia),?_⟩))))))
    rw[o6];refine(ao rfl ⟨fun x o q hx=>by rw[aT hx];exact z5 x o q hx,?_⟩)
    rw[aj,List.take_add_one,Zz,List.foldl_append,hF];rfl
   ·rintro σ H5 ⟨v,rfl,z5,Nt⟩;refine⟨_,_,rfl,fun x o q hx=>z5 x o (s4 _ _ (z3 x o q hx)) hx,?_⟩
    rw[Nt,List.take_add_one,hk,List.foldl_append,hE];show _=some (HO.lst (aR (Ring.step ts EE k)));unfold Ring.step;rw[ht];rfl
  ·rintro σ H3 ⟨v3,v4,rfl,z3,G0⟩;have sW:au H H3:=fun x o z=>z3 x o (s12 x o z) (aY z Li)
   have hE:H3 e=some (.lst (aR (fR p ts (m:Int)))):=by
    rw[G0,aM,List.take_length];rfl
   have Lj:(fR p ts (m:Int)).length=p:=by rw[rE hm,nO,List.length_replicate]
   refine(ao rfl (fN (bI.of (sW _ _ h1)) (aq (j:=0) rfl) (ao rfl ⟨(by lia),(by lia),fun D hD=>ee (lo:=0) (m:=p) (mT (fun i=>decide ((fR p ts (m:Int)).getD i 0%2=1)) H3 D) (.start hD) (fun i acc H4 _ p=>p.len) (dl (Nat.ble_eq.mpr (by lia))) ?_ ?_⟩)))
   ·intro i acc H4 hi pk;rw[Int.zero_add];refine⟨rfl,ao rfl (ao rfl (nY (aW.of (pk.1 _ _ hE)) (aq (j:=i) (eI (by rw[Lj];exact hi))) (cE ⟨(oZ rfl),rfl,ao rfl (?_)⟩)))⟩
    rw[Co];cases hb:decide ((fR p ts (m:Int)).getD i 0%2=1) with
    | true=>exact(ao rfl (pk.yes hD (au.refl _) hb))
    | false=>exact pk.no (au.refl _) hb
   ·intro acc H4 pk;exact q D H4 (sW.free hD) (sW.trans pk.1) (by rw[pk.2.1,pk.2.2];rfl)
end
def gV(p:Nat)(ts:List cg):List Nat:=(dF p ts).filter fun m=>decide ((dF p ts).filter (fun k=>decide (k&&&m=k))=[m])
def rh:Sp:=fun vs H Q _=>∃ w p ts,∃ g:az p ts,vs=[.ref w]/\bE H w p ts/\ts.length<=8/\∀ D H',H D=none->au H H'->H' D=some (.lst (aV (gV p ts)))->Q (.ref D) H'
theorem vt{p:Nat}{ts:List cg}(g:az p ts){m:Nat}:m∈gV p ts↔m<2^ts.length/\g.N.Ring m:=by
 unfold gV;rw[List.mem_filter,decide_eq_true_eq]
 constructor
 ·rintro⟨h1,h2⟩;have hm:m<2^ts.length:=by
   unfold dF at h1;exact List.mem_range.mp (List.mem_filter.mp h1).1
  exact⟨hm,(ur g hm).mp h2⟩
 ·rintro⟨hm,rg⟩;have h2:=(ur g hm).mpr rg;refine⟨?_,h2⟩;have:m∈(dF p ts).filter (fun k=>decide (k&&&m=k)):=by rw[h2];exact List.mem_cons_self
  exact(List.mem_filter.mp this).1
theorem EA{p:Nat}{ts:List cg}(h:ts.length<=8):(dF p ts).length<=256:=by
 unfold dF;refine Nat.le_trans (List.length_filter_le _ _) ?_;rw[List.length_range];exact Nat.le_trans (Nat.pow_le_pow_right (n:=2) (by decide) h) (by decide)
section
variable {P:Program}{w:World}{K:bY}{mg:jY}{base:Heap}{a:yK}
theorem nI(T:Txt K mg a):aL P w K mg base dh 3 a.iz a.jL ["web"] rh:=by
 have rW:aL P w K mg base dh 2 a.kP a.oq ["web","some"] vq:=rW T;refine T.sL.ok qx (fun vs H Q E h=>?_) (fun cdv A outer s H vs Q E hr h=>?_)
 ·obtain⟨w,p,ts,g,rfl,_⟩:=h;rfl
 ·obtain⟨wb,p,ts,g,rfl,hw,hn,q⟩:=h;refine⟨_,(ai (aN (i:=1) qx.nd rfl (Or.inr rfl) (cC (own:=["some"]) (fq:=["web"]) (js:=[0]) (aK (ae cT) ["web","evens"]) rfl (nK (by rfl) T.cF (aa ah (aa (aJ rA ah (bf (j8 K) (by rfl) T.fL PySem.boot_len (aa (aD (fM K) (pv 0) ah (fun _ _=>rfl)) af))) af))) (fun _ _ _ _=>(aE (i:=0) (show(["some","web"]:List Str).Nodup by decide +kernel) rfl (Or.inl rfl))) (fun _ _ _ _=>(eH (aP (Bh K hr.units) (aA rW (hr.mono (by decide)) (by rfl) T.Eh T.Es T.Ei .nil bg (aa (pv 1) (aa (pv 0) af))) (fP af) (aX _)))) (fun _ _ _ _=>(pv 0))))
   (av (aQ (FP (xc:="some") (own:=["some"]) (fq:=["evens"]) (js:=[1]) (yu (ae cT) ["web","evens"]) rfl (vD K (pv 1)) (fun _ _ _ _ _=>(aE (i:=0) (show(["some","evens"]:List Str).Nodup by decide +kernel) rfl (Or.inr rfl))) (fun _ _ _ _ _=>(eH (aP (Bh K hr.units) (cC (own:=["other"]) (fq:=["some"]) (js:=[0]) (aK (FQ _ (ae cT)) ["some","evens"]) rfl (vD K (pv 1)) (fun _ _ _ _=>(aE (i:=0) (show(["other","some"]:List Str).Nodup by decide +kernel) rfl (Or.inl rfl))) (fun _ _ _ _=>(eH (aP gx (aJ EV (pv 0) (pv 1)) (pv 0) (aX _)))) (fun _ _ _ _=>(pv 0))) (fP (aa (pv 0) af)) (aX _)))) (fun _ _ _ _ _=>(pv 0)))))),?_⟩
  refine yJ ?_;intro cR;obtain⟨bt,xs,h1,h2,h3⟩:=id hw.ex;have vA:=h3.length;have W:=g.KU;have pp:(0:Int)<2^ts.length:=Int.pow_pos (by decide)
  have OP:((2:Int)^ts.length)=((2^ts.length:Nat):Int):=by simp
  have ZA:(1:Int)*2^((xs.length:Nat):Int).toNat=((2^ts.length:Nat):Int):=by rw[Int.toNat_natCast,vA,Int.one_mul];exact OP
  have Xz:2^ts.length<=256:=Nat.le_trans (Nat.pow_le_pow_right (n:=2) (by decide) hn) (by decide)
  have hel:=EA (p:=p) hn;refine(ao rfl (fN (bI.of h1) (aq (j:=1) rfl) (tK rfl (.inr (bI.of h2)) (cE ⟨⟨by lia,by lia,by decide⟩,(1:Int),((2^ts.length:Nat):Int),congrArg (fun z=>[V.int 1,V.int z]) ZA,⟨by decide,by decide,by lia,by lia⟩,fun D hD=>ee (lo:=1) (m:=(((2^ts.length:Nat):Int)-1).toNat) (fun i acc H2=>mT (fun k=>decide (0<k)&&decide (kc p ts (k:Int)=[])) H D (i+1) acc H2) ?_ ?_ ?_ ?_ ?_⟩))))
  ·exact⟨au.new hD,aj,rfl⟩
  ·intro i acc H2 _ pk;refine⟨pk.2.1,?_⟩;rw[pk.2.2,aM];exact wR (by rfl) i
  ·exact Nat.le_of_lt (gD (by lia))
  ·intro i acc H2 hi pk;have e1:(1:Int)+(i:Int)=((i+1:Nat):Int):=by lia
   rw[e1];refine⟨rfl,ao rfl (ao rfl ⟨wb,p,ts,i+1,rfl,hw.same pk.1,W,by lia,fun D2 H3 hn3 s3 wB=>⟨dl rfl,fun l hl=>⟨_,_,.lst (aW.of (au.new hl _ _ wB)) (mV _),.lst (aW.of aj) .nil,jE _,rfl,ao rfl (?_)⟩⟩⟩)⟩
   rw[Cm];have s4:=s3.trans (au.new (o:=.lst []) hl);cases hb:decide (kc p ts ((i+1:Nat):Int)=[]) with
   | true=>exact(ao rfl (pk.yes hD s4 (by rw[hb];simp)))
   | false=>exact pk.no s4 (by rw[hb];simp)
  intro acc H2 pk;have mF:H2 D=some (.lst (aV (dF p ts))):=by
   rw[pk.2.1,pk.2.2];have e:(((2^ts.length:Nat):Int)-1).toNat+1=2^ts.length:=by have:=Nat.two_pow_pos ts.length;lia
   rw[e];rfl
  have s2:=pk.1;refine(ao rfl ⟨D,rfl,⟨_,aW.of mF⟩,fun R hR=>cf (xs:=aV (dF p ts)) (pB (fun m=>decide ((dF p ts).filter (fun k=>decide (k&&&m=k))=[m])) (dF p ts) H2 R) (.start hR) (fun i ac H3 _ f=>⟨aW.of (f.1 _ _ mF),f.len⟩) (Nat.le_of_lt (gD (by rw[aM];lia))) ?_ ?_⟩)
  ·intro i x ac H3 hx f;obtain⟨m,hm,rfl⟩:=dP hx;have wB:=f.1 _ _ mF;refine⟨rfl,ao rfl ⟨D,rfl,⟨_,aW.of wB⟩,fun C hC=>cf (xs:=aV (dF p ts)) (pB (fun k=>decide (k&&&m=k)) (dF p ts) H3 C) (.start hC) (fun j ad H4 _ f2=>⟨aW.of (f2.1 _ _ wB),f2.len⟩) (Nat.le_of_lt (gD (by rw[aM];lia))) ?_ ?_⟩⟩
   ·intro j y ad H4 hy f2;obtain⟨k,hk,rfl⟩:=dP hy;refine⟨rfl,ao rfl (ao rfl (cE (ao rfl ⟨rfl,ao rfl (?_)⟩)))⟩;have e:decide (V.int (Builtin.bitAnd (k:Int) (m:Int))=V.int (k:Int))=decide (k&&&m=k):=decide_eq_decide.mpr (by
     rw[and_int];exact⟨fun z=>by have:=V.int.inj z;lia,fun z=>by rw[z]⟩)
    dsimp only;rw[e];cases hb:decide (k&&&m=k) with
    | true=>exact(ao rfl (f2.yes hC (au.refl _) hk hb))
    | false=>exact f2.no (au.refl _) hk hb
   ·intro ad H4 f2;rw[aM]at f2;have ZC:=f2.fin;refine(ao rfl ⟨dl rfl,fun l hl=>⟨_,_,.lst (aW.of (au.new hl _ _ ZC)) (mV _),.lst (aW.of aj) (mV [m]),jE _,jE _,_,rfl,?_⟩⟩)
    rw[DH];have s4:=f2.1.trans (au.new (o:=.lst [.int (m:Int)]) hl);cases hb:decide ((dF p ts).filter (fun k=>decide (k&&&m=k))=[m]) with
    | true=>exact(ao rfl (f.yes hR s4 hm hb))
    | false=>exact f.no s4 hm hb
  ·intro ac H3 f;rw[aM]at f;exact q R H3 (s2.free hR) (s2.trans f.1) f.fin
end
theorem ze(acc:List (Nat×Int)){n k:Nat}(hk:k<n):(iK acc n).getD k 0=RM.wx acc k:=by
 have key:∀(acc:List (Nat×Int)) (l:List Int),k<l.length->(acc.foldl (fun l q=>l.set q.1 q.2) l).getD k 0=acc.foldl (fun z q=>if q.1=k then q.2 else z) (l.getD k 0):=fun acc=>by
  induction acc with
  | nil=>exact fun l _=>rfl
  | cons q acc ih =>
    intro l hl;rw[List.foldl_cons,List.foldl_cons,ih _ (by rw[List.length_set];exact hl)]
    congr 1
    rw[List.getD_eq_getElem?_getD,List.getD_eq_getElem?_getD]
    by_cases e:q.1=k
    ·subst e;rw[if_pos rfl,List.getElem?_set_self hl];rfl
    ·rw[if_neg e,List.getElem?_set_ne e]
 unfold iK RM.wx;rw[key acc _ (by rw[List.length_replicate];exact hk),List.getD_eq_getElem?_getD,List.getElem?_replicate,if_pos hk]
 rfl
theorem bP.ZD{p:Nat}{ts:List cg}{g:az p ts}{m:Nat}{l:List Int}(h:bP p ts g (m:Int) l):RM.IS g.N m (fun k=>l.getD k 0):=by
 obtain⟨m',t0,v,acc,e,hm,rg,hb,h0,wk,rfl⟩:=h;have em:m=m':=by lia
 subst em;have c:=RM.Gr (N:=g.N) hm rg hb wk;refine⟨fun k hk MN=>?_,fun k hk MN=>?_,fun u hu=>?_⟩
 ·show(iK acc ts.length).getD k 0=1\/_ = -1;rw[ze acc (n:=ts.length) hk];exact c.on k hk MN
 ·show(iK acc ts.length).getD k 0=0;rw[ze acc (n:=ts.length) hk];exact c.off k hk MN
 ·refine Eq.trans ?_ (c.fl u hu);exact Dt.aC fun k hk=>by
   dsimp only;rw[show(iK acc ts.length).getD k 0=RM.wx acc k from ze acc hk]
def wV(p:Nat)(ts:List cg)(g:az p ts)(wl:List (List Int)):Int:=AN (Dt.det g.N.ak.length (ent (fu g.N.ak wl)))
def wX(wl:List (List Int))(i k:Nat):Int:=(wl.getD i []).getD k 0
theorem Ho{p:Nat}{ts:List cg}{g:az p ts}{wl:List (List Int)}(hl:wl.length=g.N.ak.length):Dt.det g.N.ak.length (ent (fu g.N.ak wl))=Dt.det g.N.ak.length (RM.wM g.N (wX wl)):=Dt.aB fun r c hr hc=>by
 show((fu g.N.ak wl).getD r []).getD c 0=(wl.getD r []).getD (g.N.ak.getD c 0) 0;unfold fu;rw[List.getD_eq_getElem?_getD (l:=wl.map _),List.getElem?_map,List.getElem?_eq_getElem (l:=wl) (by lia)]
 show((g.N.ak.map fun c=>(wl[r]).getD c 0)).getD c 0=_
 rw[List.getD_eq_getElem?_getD,List.getElem?_map,List.getElem?_eq_getElem hc,List.getD_eq_getElem?_getD (l:=wl),List.getElem?_eq_getElem (l:=wl) (by lia),List.getD_eq_getElem?_getD (l:=g.N.ak),List.getElem?_eq_getElem hc]
 rfl
theorem Jl(i:Int):AN i=(i.natAbs:Int):=by
 unfold AN
 split<;>lia
theorem rX{α β:Type}{F:α->β->Prop}:∀{l:List α} {r:List β},Paired F l r->∀{i:Nat} {x:α},l[i]?=some x->∃ y,r[i]?=some y/\F x y
 | _,_,.nil,_,_,h=>by cases h
 | _,_,.cons h1 h2,0,_,h=>by cases h;exact(ao rfl (h1))
 | _,_,.cons h1 h2,i+1,_,h=>rX h2 (i:=i) h
def gu(rs:List Nat):List Int:=rs.map fun r=>((r:Nat):Int)
theorem oB(rs:List Nat):aV rs=aR (gu rs):=by
 unfold aV aR gu;rw[List.map_map];rfl
theorem kZ(rs:List Nat):(gu rs).length=rs.length:=List.length_map _
theorem Hq{p:Nat}{ts:List cg}{g:az p ts}{S:Int}{l l' : List Int}(h:bP p ts g S l)(h' : bP p ts g S l'):l=l':=by
 obtain⟨m,t0,v,acc,rfl,hm,rg,hb,h0,wk,rfl⟩:=h;obtain⟨m',t0',v',acc',e,hm',rg',hb',h0',ZE,rfl⟩:=h';have em:m=m':=by lia
 subst em;rw[h0]at h0';cases h0';rw[RM.ID (N:=g.N) hm hb wk ZE]
theorem rY{p:Nat}{ts:List cg}{g:az p ts}:∀{rs:List Int} {wl XA:List (List Int)},Paired (bP p ts g) rs wl->Paired (bP p ts g) rs XA->wl=XA
 | _,_,_,.nil,.nil=>rfl
 | _,_,_,.cons h1 r1,.cons h2 r2=>by rw[Hq h1 h2,rY r1 r2]
section
variable {p:Nat}{ts:List cg}{g:az p ts}{rs:List Nat}{wl:List (List Int)}
theorem zf(pw:Paired (bP p ts g) (gu rs) wl):wl.length=rs.length:=by rw[<-pw.length,kZ]
theorem Hr(pw:Paired (bP p ts g) (gu rs) wl)(i r:Nat)(h:rs[i]?=some r):RM.IS g.N r (wX wl i):=by
 obtain⟨l,hl,wi⟩:=rX pw (i:=i) (x:=((r:Nat):Int)) (by unfold gu;rw[List.getElem?_map,h];rfl)
 have e:wX wl i=fun k=>l.getD k 0:=by
  funext k
  unfold wX;rw[List.getD_eq_getElem?_getD (l:=wl),hl];rfl
 rw[e];exact wi.ZD
end
theorem xS(l:List Nat)(x:Nat):aV l++[.int (x:Int)]=aV (l++[x]):=by
 unfold aV;rw[List.map_append];rfl
def wg(wl:List (List Int)):List (List Int):=wl.map fun one=>wl.map fun other=>AM one other
theorem Hs(l r:List Int):AM l r=Dt.su l.length (fun k=>l.getD k 0*r.getD k 0):=(Dt.tI _ _).symm
section
variable {p:Nat}{ts:List cg}{g:az p ts}{rs:List Nat}{wl:List (List Int)}
theorem J1(pw:Paired (bP p ts g) (gu rs) wl){i:Nat}(hi:i<rs.length):∃ h:i<wl.length,bP p ts g ((rs[i]:Nat):Int) wl[i]:=by
 obtain⟨l,hl,wi⟩:=rX pw (i:=i) (x:=((rs[i]:Nat):Int)) (by unfold gu;rw[List.getElem?_map,List.getElem?_eq_getElem hi];rfl)
 obtain⟨h,e⟩:=zj.mp hl;exact⟨h,by rw[e];exact wi⟩
theorem Dg(pw:Paired (bP p ts g) (gu rs) wl):Tab rs.length (wg wl):=⟨by unfold wg;rw[List.length_map];exact zf pw,fun r hr=>by
 unfold wg at hr;obtain⟨l,_,rfl⟩:=List.mem_map.mp hr;rw[List.length_map];exact zf pw⟩
theorem J2{l:List Int}(h:∀ x∈l,x=0\/x=1\/x = -1)(k:Nat):l.getD k 0=0\/l.getD k 0=1\/l.getD k 0 = -1:=by
 rw[List.getD_eq_getElem?_getD];cases e:l[k]? with
 | none=>exact .inl rfl
 | some x=>exact h x (nJ e)
theorem Dh(pw:Paired (bP p ts g) (gu rs) wl):∀ r c,(ent (wg wl) r c).natAbs<=24:=tM fun r hr x hx=>by
 unfold wg at hr;obtain⟨l,hl,rfl⟩:=List.mem_map.mp hr;obtain⟨m,hm,rfl⟩:=List.mem_map.mp hx;obtain⟨_,_,z⟩:=eT pw hl;obtain⟨_,_,z'⟩:=eT pw hm;rw[Hs];have:=Dt.BB (E:=1) (n:=l.length) (f:=fun k=>l.getD k 0*m.getD k 0) fun k _=>by
  rcases J2 z.vals k with e|e|e<;>rcases J2 z'.vals k with e' | e' | e'<;>rw[e,e']<;>decide
 have:=z.len;have:=g.len
 lia
theorem AQ(pw:Paired (bP p ts g) (gu rs) wl)(hl:rs.length=g.N.ak.length):Dt.det rs.length (ent (wg wl))=RM.fo g.N*wV p ts g wl*wV p ts g wl:=by
 have JY:=zf pw;have sq:∀ x y:Int,x*AN y*AN y=x*y*y:=fun x y=>by
  unfold AN
  split
  ·grind
  ·rfl
 unfold wV;rw[sq,Ho (by rw[JY];exact hl),hl,<-RM.GB (N:=g.N) (X:=wX wl) fun i v hi hv=>?_]
 ·refine Dt.aB fun i j hi hj=>?_
  have hi:i<rs.length:=by lia
  have hj:j<rs.length:=by lia
  obtain⟨h1,w1⟩:=J1 pw hi;obtain⟨h2,w2⟩:=J1 pw hj;show((wg wl).getD i []).getD j 0=Dt.su ts.length fun q=>(wl.getD i []).getD q 0*(wl.getD j []).getD q 0
  unfold wg;rw[List.getD_eq_getElem?_getD (l:=List.map _ _),List.getElem?_map,List.getElem?_eq_getElem h1];show(List.map (fun other=>AM wl[i] other) wl).getD j 0=_
  rw[List.getD_eq_getElem?_getD,List.getElem?_map,List.getElem?_eq_getElem h2,List.getD_eq_getElem?_getD (l:=wl),List.getElem?_eq_getElem h1,List.getD_eq_getElem?_getD (l:=wl) (i:=j),List.getElem?_eq_getElem h2];show AM wl[i] wl[j]=_;rw[Hs,w1.len];rfl
 ·have hi:i<rs.length:=by lia
  exact(Hr pw i _ (List.getElem?_eq_getElem hi)).fl v hv
theorem own_one(pw:Paired (bP p ts g) (gu (g.N.ak.map g.N.ring)) wl):wV p ts g wl=1:=by
 have JY:=zf pw;rw[List.length_map]at JY;unfold wV;rw[Ho JY,Jl];have c:=fun i (hi:i<g.N.ak.length)=>Hr pw i (g.N.ring (g.N.ak.getD i 0)) (by rw[List.getElem?_map,List.getD_eq_getElem?_getD,List.getElem?_eq_getElem hi];rfl)
 have e:=Dt.xg (n:=g.N.ak.length) (M:=Dt.un) (fun i=>wX wl i (g.N.ak.getD i 0)) (fun i hi=>(c i hi).on _ (RM.jn hi).1 (RM.qf (RM.jn hi).2)) _ (Nat.le_refl _)
 rw[Dt.iN]at e;rw[Dt.aB (M':=fun r c=>if r<g.N.ak.length then wX wl r (g.N.ak.getD r 0)*Dt.un r c else Dt.un r c) fun r k hr hk=>?_,e]
 ·rfl
 ·rw[if_pos hr];show wX wl r (g.N.ak.getD k 0)=_
  by_cases h:k=r
  ·subst h;rw[Dt.sC,Int.mul_one]
  ·rw[Dt.cA (Ne.symm h),Int.mul_zero];refine(c r hr).off _ (RM.jn hk).1 ?_;rw[RM.ji (RM.jn hr).2 (RM.jn hk).2];refine ia fun z=>h ?_
   rw[List.getD_eq_getElem?_getD,List.getD_eq_getElem?_getD,List.getElem?_eq_getElem hr,List.getElem?_eq_getElem hk]at z;exact((List.getElem_inj RM.rH).mp z).symm
theorem Lp(g:az p ts):(RM.fo g.N).natAbs<=Dt.fc 24 10:=by
 rw[<-Df];have kl:(gr p ts g).length<=10:=Nat.le_trans (List.length_filter_le _ _) (by rw[List.length_range];exact g.p2)
 refine Nat.le_trans (Dt.qu (E:=24) (tM fun r hr x hx=>?_)) (Dt.qt (by decide) kl)
 unfold we at hr;obtain⟨l,_,rfl⟩:=List.mem_map.mp hr;obtain⟨c,_,rfl⟩:=List.mem_map.mp hx;exact AO g.len _ _
theorem Lq(pw:Paired (bP p ts g) (gu rs) wl)(hl:g.N.ak.length<=12):(wV p ts g wl).natAbs<=Dt.fc 1 12/\0<=wV p ts g wl:=by
 have h:=Nat.le_trans (Dt.qu (E:=1) (n:=g.N.ak.length) (xN (cs:=g.N.ak) fun l hl=>by
  obtain⟨x,_,z⟩:=eT pw hl;exact z.vals)) (Dt.qt (by decide) hl)
 unfold wV AN
 split<;>lia
theorem Lr(g:az p ts):1<=RM.fo g.N:=by
 rw[RM.JR (N:=g.N) (Nat.le_refl _)];have:=Dt.Gz g.N.n (RM.ps g.N)
 lia
end
def zg(K:bY):Sp:=fun vs H Q _=>∃(b:Addr) (ns:List Int),vs=[.ref b]/\aW K H b (ns.map V.int)/\ns.length<=63/\∀ H',Q (.bl true) H'
section
variable {P:Program}{w:World}{K:bY}{mg:jY}{base:Heap}{a:yK}
theorem Nu(T:Txt K mg a):aL P w K mg base dh 21 a.GH a.GI ["script"] (zg K):=by
 have rV:aL P w K mg base dh 2 a.kO a.om ["script","most"] (Hl K):=rV T;have fz:aL P w K mg base dh 1 a.gQ a.jv ["script","k"] (zc K):=fz T;have gU:aL P w K mg base dh 1 a.gR a.jw ["cell","k"] zd:=gU T;have nI:aL P w K mg base dh 3 a.iz a.jL ["web"] rh:=nI T;have jT:aL P w K mg base dh 6 a.pH a.rO ["web"] tL:=jT T;have gp:aL P w K mg base dh 4 a.ju a.kJ ["web"] oz:=gp T;have lW:aL P w K mg base (jZ P w) 5 a.gb a.iQ ["web","tie"] (oW a.ou):=lW T;have iW:aL P w K mg base (jZ P w) 11 a.gj a.iU ["web","rings"] oX:=iW T;have iV:aL P w K mg base (jZ P w) 11 a.gi a.iT ["web","rings"] (oV a.bj a.dm):=iV T;have bF:aL P w K mg base dh 2 a.cZ a.dY ["table"] za:=bF T;have jX:aL P w K mg base dh 7 a.ff a.g9 ["web"] nG:=jX T;have eU:aL P w K mg base (jZ P w) 20 a.bV a.di ["web"] (rf a.jb):=eU T;refine T.M6.ok ng (fun vs H Q E h=>?_) (fun cdv A outer s H vs Q E hr h=>?_)
 ·obtain⟨b,ns,rfl,_⟩:=h;rfl
 ·obtain⟨b,ns,rfl,hS,hn,fin⟩:=h;refine⟨_,(ai (aN (i:=1) ng.nd rfl (Or.inr rfl) (aA rV (hr.mono (by decide)) (by rfl) T.Ef T.Er T.Eg .nil bg (aa (pv 0) (aa ah af))))
   (ai (aN (i:=2) ng.nd rfl (Or.inl rfl) (aA jX (hr.mono (by decide)) (by rfl) T.vX T.wd T.vY .nil bg (aa (pv 1) af)))
   (ai (fO (PW.pt (EK (aP pQ (pv 2) (aA eU (hr.mono (by decide)) (by rfl) T.oF T.oH T.oG .nil se (aa (pv 1) af)) (aX _)) (AX (aP B7 (pv 2) ah (aX _))))) (av (aQ zl)) bW)
   (ai (lB (i:=3) ng.nd rfl rfl (own:=["tie"]) (fq:=["web"]) (js:=[1]) (aK (ae nc) ["script","web","many","own","all_of","turn","rings","worth"]) rfl (vD K (aA gp (hr.mono (by decide)) (by rfl) T.uP T.u3 T.uQ .nil bg (aa (pv 1) af))) (fun _ _ _ _=>(aE (i:=0) (show(["tie","web"]:List Str).Nodup by decide +kernel) rfl (Or.inl rfl))) (fun _ _ _ _=>d8) (fun _ _ _ _=>(aA lW (hr.mono (by decide)) (by rfl) T.yP T.yY T.yQ .nil se (aa (pv 1) (aa (pv 0) af)))))
   (ai (fO (PW.pt (EK (aP pQ (aA iW (hr.mono (by decide)) (by rfl) T.qR T.qV T.qS .nil se (aa (pv 1) (aa (pv 3) af))) ah (aX _)) (AX (aP pQ (aA bF (hr.mono (by decide)) (by rfl) T.hU T.h8 T.h7 .nil bg (aa (aA iV (hr.mono (by decide)) (by rfl) T.qO T.qU T.qP .nil se (aa (pv 1) (aa (pv 3) af))) af)) (pv 2) (aX _))))) (av (aQ zl)) bW)
   (ai (aN (i:=4) ng.nd rfl (Or.inr rfl) (aA nI (hr.mono (by decide)) (by rfl) T.AH T.AL T.AI .nil bg (aa (pv 1) af)))
   (ai (iD PassesOwn.never rfl (cH (by rfl) T.cF (aa ah af)) (aE (i:=5) ng.nd rfl (Or.inr rfl))
   (ai (lB (i:=6) ng.nd rfl rfl (own:=["k"]) (fq:=["script","all_of","turn"]) (js:=[0,4,5]) (aK (ae nc) ["script","web","many","own","all_of","turn","rings","worth"]) rfl (cH (by rfl) T.cF (aa (aA jT (hr.mono (by decide)) (by rfl) T.yN T.yX T.yO .nil bg (aa (pv 1) af)) af)) (fun _ _ _ _=>(aE (i:=0) (show(["k","script","all_of","turn"]:List Str).Nodup by decide +kernel) rfl (Or.inl rfl))) (fun _ _ _ _=>d8) (fun _ _ _ _=>(aD (mH K) (pv 2) (aJ d7 (aA gU (hr.mono (by decide)) (by rfl) T.uX T.u6 T.uY .nil bg (aa (aA fz (hr.mono (by decide)) (by rfl) T.pI T.pK T.pJ .nil bg (aa (pv 1) (aa (aJ gB (pv 3) (pv 0)) af))) (aa (aJ gB ah (pv 3)) af))) (bf (j8 K) (by rfl) T.fL PySem.boot_len (aa (pv 2) af))) (fun _ _=>rfl))))
   (ai (aN (i:=7) ng.nd rfl (Or.inl rfl) (aA iW (hr.mono (by decide)) (by rfl) T.qR T.qV T.qS .nil se (aa (pv 1) (aa (pv 6) af))))
   (av (fO (PW.pt (EK (aP B7 (pv 7) ah (aX _)) (AX (aP pQ (aA bF (hr.mono (by decide)) (by rfl) T.hU T.h8 T.h7 .nil bg (aa (aA iV (hr.mono (by decide)) (by rfl) T.qO T.qU T.qP .nil se (aa (pv 1) (aa (pv 6) af))) af)) (aJ pV (aJ pV (pv 2) (pv 7)) (pv 7)) (aX _))))) (av (aQ zl)) bW)))))
   (av (aQ zl))))))))),?_⟩
  refine Lh ?_;intro cR fE iI mh sD sE uC C1 C2 C3 An Ao GG;refine(ao rfl ⟨b,ns,7,rfl,hS,hn,by decide,fun wb p ts H1 s1 g p6 hlen hw=>?_⟩)
  have c7:g.N.ak.length<=7:=Nat.le_trans (List.length_filter_le _ _) (by rw[List.length_range];exact hlen)
  have fp:=Lr g;have fb:=Lp g;refine(ao rfl ⟨wb,p,ts,g,rfl,hw,fun H2 s2=>?_⟩)
  refine(ao rfl (ao rfl ⟨wb,p,ts,g,rfl,hw.same s2,fun _ H3 s3=>⟨rfl,ao rfl (tX rfl ?_)⟩,fun h=>absurd h (by lia)⟩))
  refine(ao rfl (cE (ao rfl (zy (fun y=>absurd (mG y) (by lia)) (fun _=>?_)))))
  have Rp:=hw.same (s2.trans s3);have OP:((2:Int)^ts.length)=((2^ts.length:Nat):Int):=by simp
  have Nv:Dt.fc 24 12<2^1000:=by decide
  refine(ao rfl ⟨wb,p,ts,g,rfl,Rp,fun Cs H4 Zq s4 Nx=>⟨Cs,rfl,⟨_,aW.of Nx⟩,fun O hO=>cf (xs:=aV g.N.ak) (fun i ac H5=>au H4 H5/\H5 O=some (.lst ac)/\ac=aV ((g.N.ak.take i).map g.N.ring)) ⟨au.new hO,aj,by rw[List.take_zero];rfl⟩ (fun i ac H5 _ ⟨f1,f2,e⟩=>⟨aW.of (f1 _ _ Nx),f2,by rw[e,aM,List.length_map];exact List.length_take_le _ _⟩) (gX (by rw[aM];lia)) ?_ ?_⟩⟩)
  ·rintro i y ac H5 hy ⟨f1,f2,rfl⟩;obtain⟨c,hc,rfl⟩:=dP hy;refine⟨rfl,ao rfl (ao rfl ⟨wb,p,ts,g,_,rfl,Rp.same (s4.trans f1),.inl ⟨c,rfl,nJ hc,fun H6 s6=>⟨s6 _ _ f2,(f1.trans s6).put hO,aj,?_⟩⟩⟩)⟩
   rw[xS,List.take_add_one,hc,List.map_append];rfl
  rintro ac H5 ⟨f1,Rq,rfl⟩;rw[aM,List.take_length]at Rq;have LQ:=s4.trans f1;have Rr:=Rp.same LQ;have Ny:(g.N.ak.map g.N.ring).length=g.N.ak.length:=List.length_map _;have Ht:∀ x∈gu (g.N.ak.map g.N.ring),GoodR p ts g x:=fun x hx=>by
   obtain⟨k,hk,rfl⟩:=List.mem_map.mp hx;obtain⟨c,hc,rfl⟩:=List.mem_map.mp hk;have hc:=RM.cW.mp hc;exact(ao rfl ⟨RM.nS (N:=g.N) hc.1,RM.rJ (N:=g.N) hc.1 hc.2⟩)
  refine(ao rfl (ao rfl ⟨wb,O,p,ts,g,gu (g.N.ak.map g.N.ring),rfl,Rr,by rw[Rq,oB],by lia,by rw[kZ];exact Ny,Ht,fun H6 wl s6 pw=>?_⟩))
  have one:=own_one pw;refine⟨rfl,ao rfl (tX (congrArg V.int one) ?_)⟩;have ZF:=s6 _ _ Rq;refine(ao rfl (ao rfl ⟨wb,O,p,ts,g,gu (g.N.ak.map g.N.ring),rfl,Rr.same s6,by rw[ZF,oB],by rw[kZ,Ny];lia,fun i S hS _ z=>?_,fun i m hS _ _ z=>?_,fun _ D ys H7 Nz hD s7 XC Hy py _=>?_⟩))
  ·obtain⟨m,e,hm,_⟩:=Ht S (nJ hS)
   lia
  ·obtain⟨m',e,hm,rg⟩:=Ht _ (nJ hS);have:m=m':=by lia
   subst this;exact absurd rg z
  have ew:=rY Hy pw;subst ew;refine⟨D,wg Nz,_,24,rfl,⟨ys,XC,Paired.imp' (fun _ _ z=>z.is) py⟩,Dg Hy,by rw[Ny];lia,by decide,Nat.lt_of_le_of_lt (Dt.qt (by decide) (by rw[Ny];lia)) Nv,Dh Hy,fun H8 s8=>(ao rfl ⟨rfl,ao rfl (tX (congrArg V.int ?_) ?_)⟩)⟩
  ·rw[AQ Hy Ny,one,Int.mul_one,Int.mul_one]
  have XD:=(s6.trans s7).trans s8;have XE:=Rr.same XD;clear pw Hy py XC;refine(ao rfl ⟨wb,p,ts,g,rfl,XE,by lia,fun Al H9 hAl s9 Rt=>?_⟩)
  have ZG:=XE.same s9;have ZH:=(((s2.trans s3).trans LQ).trans XD).trans s9;refine(ao rfl ⟨by lia,by lia,pG (lo:=0) (n:=_) (fun k σ OW=>∃ v5 v6 v7,σ=[some (.ref b),some (.ref wb),some (.int (RM.fo g.N)),some (.ref O),some (.ref Al),v5,v6,v7]/\au H9 OW) ⟨_,_,_,rfl,au.refl _⟩ ?_ ?_⟩)
  ·rintro tn D0 σ OW LF ⟨v5,v6,v7,rfl,NB⟩;rw[Int.zero_add];have NC:=ZG.same NB;refine(ao rfl ⟨wb,p,ts,g,rfl,NC,fun ZI Ru=>(ao rfl ⟨by lia,by lia,fun Rg XF=>ee (lo:=0) (m:=g.N.ak.length) (fun i ac ND=>au ZI ND/\ND Rg=some (.lst ac)/\∃ l:List Nat,ac=aV l/\l.length=i/\∀ x∈l,x∈gV p ts) ⟨au.new XF,aj,[],rfl,rfl,(fun _ h=>nomatch h)⟩ (fun i ac ND _ ⟨_,f2,l,e,e2,_⟩=>⟨f2,by rw[e,aM,e2];exact Nat.le_refl _⟩) (gX (by lia)) ?_ ?_⟩)⟩)
   ·rintro i ac ND hi ⟨f1,f2,l,rfl,e2,e3⟩;rw[Int.zero_add];have J3:=((NB.trans Ru).trans f1) _ _ Rt;have hp:(0:Int)<(((gV p ts).length:Nat):Int):=by
     have hc:=RM.cW.mp (List.getElem_mem hi);have:g.N.ring g.N.ak[i]∈gV p ts:=(vt g).mpr ⟨RM.nS (N:=g.N) hc.1,RM.rJ (N:=g.N) hc.1 hc.2⟩;have:=List.length_pos_of_mem this
     lia
    refine⟨rfl,ao rfl (ao rfl (ao rfl (ao rfl (cE ⟨b,ns,tn+i,rfl,((((s1.trans ZH).trans NB).trans Ru).trans f1).seq hS,fun z0=>(ao rfl (cE ⟨_,_,rfl,fun z hz=>(ao rfl (tK rfl (.inl (aW.of J3)) (cE ⟨(by rw[aM];exact hp),?_⟩)))⟩))⟩))))⟩
    obtain⟨z0,z1⟩:=kh z (((gV p ts).length:Nat):Int) hp;obtain⟨j,hj,OO⟩:∃ j:Nat,z%(((gV p ts).length:Nat):Int)=(j:Int)/\j<(gV p ts).length:=⟨(z%(((gV p ts).length:Nat):Int)).toNat,by lia,by lia⟩
    have hg:(gV p ts)[j]?=some (gV p ts)[j]:=List.getElem?_eq_getElem OO;refine(nY (aW.of J3) ((by rw[aM,hj];exact aq (tD hg))) ⟨f2,f1.put XF,aj,l++[(gV p ts)[j]],xS _ _,by rw[List.length_append,e2];rfl,fun x hx=>?_⟩)
    rcases List.mem_append.mp hx with hx|hx
    ·exact e3 x hx
    ·rw[List.mem_singleton.mp hx];exact List.getElem_mem OO
   rintro ac ND ⟨s12,J4,rs,rfl,XG,hlr⟩;have good:∀ x∈gu rs,GoodR p ts g x:=fun x hx=>by
    obtain⟨k,hk,rfl⟩:=List.mem_map.mp hx;exact⟨k,rfl,(vt g).mp (hlr k hk)⟩
   have J5:=Ru.trans s12;have NF:=NC.same J5;refine(ao rfl (ao rfl ⟨wb,Rg,p,ts,g,gu rs,rfl,NF,by rw[J4,oB],by lia,by rw[kZ];exact XG,good,fun H13 wl sW pw=>?_⟩))
   obtain⟨XH,wp⟩:=Lq pw (by lia)
   refine(ao rfl (cE (ao rfl (zy (fun y=>absurd (mG y) (show ¬ wV p ts g wl<0 from by lia)) (fun _=>?_)))))
   have NG:=sW _ _ J4;refine(ao rfl (ao rfl ⟨wb,Rg,p,ts,g,gu rs,rfl,NF.same sW,by rw[NG,oB],by rw[kZ];lia,fun i S hS _ z=>?_,fun i m hS _ _ z=>?_,fun _ D ys H14 Nz hD Q9 Rw Hy py _=>?_⟩))
   ·obtain⟨m,e,hm,_⟩:=good S (nJ hS)
    lia
   ·obtain⟨m',e,hm,rg⟩:=good _ (nJ hS);have:m=m':=by lia
    subst this;exact absurd rg z
   have ew:=rY Hy pw;subst ew;have l1:(RM.fo g.N).natAbs<2^1000:=Nat.lt_of_le_of_lt fb (by decide)
   have l2:(wV p ts g Nz).natAbs<2^1000:=Nat.lt_of_le_of_lt XH (by decide)
   have l3:(RM.fo g.N*wV p ts g Nz).natAbs<2^1000:=by
    rw[Int.natAbs_mul];exact Nat.lt_of_le_of_lt (Nat.mul_le_mul fb XH) (by decide)
   refine⟨D,wg Nz,_,24,rfl,⟨ys,Rw,Paired.imp' (fun _ _ z=>z.is) py⟩,Dg Hy,by lia,by decide,Nat.lt_of_le_of_lt (Dt.qt (by decide) (show rs.length<=12 by lia)) Nv,Dh Hy,fun H15 ZJ=>?_⟩
   refine(ao rfl (ao rfl (cE ⟨mulOk_of l1 l2,_,rfl,cE ⟨mulOk_of l3 l2,rfl,ao rfl (tX (congrArg V.int (AQ Hy XG)) ?_)⟩⟩)));exact⟨_,_,_,rfl,NB.trans (J5.trans ((sW.trans Q9).trans ZJ))⟩
  ·rintro σ OW ⟨v5,v6,v7,rfl,NB⟩;exact fin OW
end
theorem all_mk{l:PySem.W.OpenLaw}{w:World}{K:bY}{h:Heap}{mg:jY}{fa:Addr}(X:K.In h)(G:h.Ns mainGlobals mg)(ZK:mg "law"=some (.ref fa))
 {f0 f1 f2 f3 f4 f5 f6 f7 f8 f9 OX OY OZ O0 O1 O2 O3 O4 O5 O6 O7 O8 O9 Pa Pb Pc Pd Pe Pf Pg Ph Pj f32 Pk Pn Po Pp Pq Pr Pu Pw Px Py Rx:Addr} {ZL ZM ZN ZO ZP ZQ ZR ZS ZT ZU ZV ZW ZX ZY ZZ Z0 Z1 Z2 Z3 Z4 Ry Rz RA RB RC RD RE RG RH RI RJ RK RL RN RO RP RQ RS RT RU RV RW RX RY RZ R0 R1 R3 R4 R5 R6 R7 R8 R9 Sa Sb Sd Se Sf Sg Sh Si Sj Sk Sl Sm Sn So Sq Ss Su Sv Sw Sx Sy Sz SA SD SE SG SH SI SJ SK SM SN SO NH:Option Addr} {Z5 Z6 sl2 Z7 Z8 Z9 sl6 sl7 sl8 sl9 SQ SR SS SV SW SX SY S0 S1 S3 S4 S5 S6 S7 S8 S9 Tc Td Tf Tg Th Ti Tj Tn To Tq Tt Tu Tv Tw Tz TF TH TJ:Array (Option Value)}
 {oc0 kV0 dc0 pm0 XI ct0 oc1 kV1 dc1 pm1 XJ ct1 oc2 kV2 dc2 pm2 XM ct2 oc3 kV3 dc3 pm3 XN ct3 oc4 kV4 dc4 pm4 XO ct4 oc5 kV5 dc5 pm5 XQ ct5 oc6 kV6 dc6 pm6 XR ct6 oc7 kV7 dc7 pm7 XS ct7 oc8 kV8 dc8 pm8 XT ct8 oc9 kV9 dc9 pm9 XU ct9 TL TM TN TQ NI TR TU TV TX TY NJ TZ T3 T4 T5 T6 NK T7 T8 T9 Ua Ub NL Uc Ud Ue Ug Uh NO Ui Uj Uk Ul Um NP Uo Up Uq Ur Us NQ Ut Uu Uv Uw Ux NR Uy Uz UA UB UC NS UD UE UG UH UI NT UJ UK UL UM UN NU UO UP UQ UR US NV UT UU UW UX UY NW UZ U0 U1 U3 U4 NX U5 U6 U7 U8 U9 NY Va Vb Vc Vd Ve NZ Vf Vg Vh Vi Vj N2 Vk Vl Vm Vn Vo N3 Vp Vq Vr Vs Vt N4 Vu Vv Vw Vx Vy N5 Vz VA VB VC VD N6 VE VF VG VH VI N7 VJ VL VM VN VO N8 VP VQ VR VS VT N9 VU VV VW VX VY Oa VZ V0 V1 V2 V3 Ob V4 V5 V6 V7 V8 Oc V9 Wa Wb Wc Wd Od We Wf Wg Wh Wi Oe Wj Wl Wm Wn Wo Of Wq Wr Ws Wt Wu Og Wv Ww Wx Wy Wz Oh WA WB WC WD WE Oi WG WH Oj Ol Om Ls Oo:Value}
 {vv rZ r6 vy r9:Addr}
 {zh:Tok}
 (a0:PySem.W.nsIn K mainGlobals "has_tie"=some (some (.ref f0)))
 (l0:K.lookup f0=some ⟨oc0,ZL,.func (PySem.W.fnOf "has_tie" "has_tie" (aH i4) (aF i4) (ae i4) .none kV0 dc0 pm0 ZM XI ct0),Z5⟩)
 (c0:PySem.W.codeIn K XI "has_tie"=true) (k0:PySem.W.keepIn K (.ref f0)=true)
 (a1:PySem.W.nsIn K mainGlobals "ties_in"=some (some (.ref f1)))
 (l1:K.lookup f1=some ⟨oc1,ZN,.func (PySem.W.fnOf "ties_in" "ties_in" (aH gH) (aF gH) (ae gH) .none kV1 dc1 pm1 ZO XJ ct1),Z6⟩)
 (c1:PySem.W.codeIn K XJ "ties_in"=true) (k1:PySem.W.keepIn K (.ref f1)=true)
 (a2:PySem.W.nsIn K mainGlobals "all_ties"=some (some (.ref f2)))
 (l2:K.lookup f2=some ⟨oc2,ZP,.func (PySem.W.fnOf "all_ties" "all_ties" (aH gI) (aF gI) (ae gI) .none kV2 dc2 pm2 ZQ XM ct2),sl2⟩)
 (c2:PySem.W.codeIn K XM "all_ties"=true) (k2:PySem.W.keepIn K (.ref f2)=true)
 (a3:PySem.W.nsIn K mainGlobals "is_set"=some (some (.ref f3)))
 (l3:K.lookup f3=some ⟨oc3,ZR,.func (PySem.W.fnOf "is_set" "is_set" (aH kC) (aF kC) (ae kC) .none kV3 dc3 pm3 ZS XN ct3),Z7⟩)
 (c3:PySem.W.codeIn K XN "is_set"=true) (k3:PySem.W.keepIn K (.ref f3)=true)
 (a4:PySem.W.nsIn K mainGlobals "check_set"=some (some (.ref f4)))
 (l4:K.lookup f4=some ⟨oc4,ZT,.func (PySem.W.fnOf "check_set" "check_set" (aH fD) (aF fD) (ae fD) .none kV4 dc4 pm4 ZU XO ct4),Z8⟩)
 (c4:PySem.W.codeIn K XO "check_set"=true) (k4:PySem.W.keepIn K (.ref f4)=true)
 (a5:PySem.W.nsIn K mainGlobals "triples_in"=some (some (.ref f5)))
 (l5:K.lookup f5=some ⟨oc5,ZV,.func (PySem.W.fnOf "triples_in" "triples_in" (aH dH) (aF dH) (ae dH) .none kV5 dc5 pm5 ZW XQ ct5),Z9⟩)
 (c5:PySem.W.codeIn K XQ "triples_in"=true) (k5:PySem.W.keepIn K (.ref f5)=true)
 (a6:PySem.W.nsIn K mainGlobals "odd_points"=some (some (.ref f6)))
 (l6:K.lookup f6=some ⟨oc6,ZX,.func (PySem.W.fnOf "odd_points" "odd_points" (aH dI) (aF dI) (ae dI) .none kV6 dc6 pm6 ZY XR ct6),sl6⟩)
 (c6:PySem.W.codeIn K XR "odd_points"=true) (k6:PySem.W.keepIn K (.ref f6)=true)
 (a7:PySem.W.nsIn K mainGlobals "drawn_together"=some (some (.ref f7)))
 (l7:K.lookup f7=some ⟨oc7,ZZ,.func (PySem.W.fnOf "drawn_together" "drawn_together" (aH bL) (aF bL) (ae bL) .none kV7 dc7 pm7 Z0 XS ct7),sl7⟩)
 (c7:PySem.W.codeIn K XS "drawn_together"=true) (k7:PySem.W.keepIn K (.ref f7)=true)
 (a8:PySem.W.nsIn K mainGlobals "pieces"=some (some (.ref f8)))
 (l8:K.lookup f8=some ⟨oc8,Z1,.func (PySem.W.fnOf "pieces" "pieces" (aH jo) (aF jo) (ae jo) .none kV8 dc8 pm8 Z2 XT ct8),sl8⟩)
 (c8:PySem.W.codeIn K XT "pieces"=true) (k8:PySem.W.keepIn K (.ref f8)=true)
 (a9:PySem.W.nsIn K mainGlobals "rank"=some (some (.ref f9)))
 (l9:K.lookup f9=some ⟨oc9,Z3,.func (PySem.W.fnOf "rank" "rank" (aH rM) (aF rM) (ae rM) .none kV9 dc9 pm9 Z4 XU ct9),sl9⟩)
 (c9:PySem.W.codeIn K XU "rank"=true) (k9:PySem.W.keepIn K (.ref f9)=true)
 (a10:PySem.W.nsIn K mainGlobals "is_even"=some (some (.ref OX)))
 (l10:K.lookup OX=some ⟨TL,Ry,.func (PySem.W.fnOf "is_even" "is_even" (aH i5) (aF i5) (ae i5) .none TM TN TQ Rz NI TR),SQ⟩)
 (c10:PySem.W.codeIn K NI "is_even"=true) (k10:PySem.W.keepIn K (.ref OX)=true)
 (a11:PySem.W.nsIn K mainGlobals "forest_trails"=some (some (.ref OY)))
 (l11:K.lookup OY=some ⟨TU,RA,.func (PySem.W.fnOf "forest_trails" "forest_trails" (aH bT) (aF bT) (ae bT) .none TV TX TY RB NJ TZ),SR⟩)
 (c11:PySem.W.codeIn K NJ "forest_trails"=true) (k11:PySem.W.keepIn K (.ref OY)=true)
 (a12:PySem.W.nsIn K mainGlobals "forest"=some (some (.ref OZ)))
 (l12:K.lookup OZ=some ⟨T3,RC,.func (PySem.W.fnOf "forest" "forest" (aH kD) (aF kD) (ae kD) .none T4 T5 T6 RD NK T7),SS⟩)
 (c12:PySem.W.codeIn K NK "forest"=true) (k12:PySem.W.keepIn K (.ref OZ)=true)
 (a13:PySem.W.nsIn K mainGlobals "chords"=some (some (.ref O0)))
 (l13:K.lookup O0=some ⟨T8,RE,.func (PySem.W.fnOf "chords" "chords" (aH kE) (aF kE) (ae kE) .none T9 Ua Ub RG NL Uc),SV⟩)
 (c13:PySem.W.codeIn K NL "chords"=true) (k13:PySem.W.keepIn K (.ref O0)=true)
 (a14:PySem.W.nsIn K mainGlobals "ring_closed"=some (some (.ref O1)))
 (l14:K.lookup O1=some ⟨Ud,RH,.func (PySem.W.fnOf "ring_closed" "ring_closed" (aH dR) (aF dR) (ae dR) .none Ue Ug Uh RI NO Ui),SW⟩)
 (c14:PySem.W.codeIn K NO "ring_closed"=true) (k14:PySem.W.keepIn K (.ref O1)=true)
 (a15:PySem.W.nsIn K mainGlobals "chord_ring"=some (some (.ref O2)))
 (l15:K.lookup O2=some ⟨Uj,RJ,.func (PySem.W.fnOf "chord_ring" "chord_ring" (aH eK) (aF eK) (ae eK) .none Uk Ul Um RK NP Uo),SX⟩)
 (c15:PySem.W.codeIn K NP "chord_ring"=true) (k15:PySem.W.keepIn K (.ref O2)=true)
 (a16:PySem.W.nsIn K mainGlobals "is_ring"=some (some (.ref O3)))
 (l16:K.lookup O3=some ⟨Up,RL,.func (PySem.W.fnOf "is_ring" "is_ring" (aH gJ) (aF gJ) (ae gJ) .none Uq Ur Us RN NQ Ut),SY⟩)
 (c16:PySem.W.codeIn K NQ "is_ring"=true) (k16:PySem.W.keepIn K (.ref O3)=true)
 (a17:PySem.W.nsIn K mainGlobals "check_ring"=some (some (.ref O4)))
 (l17:K.lookup O4=some ⟨Uu,RO,.func (PySem.W.fnOf "check_ring" "check_ring" (aH eM) (aF eM) (ae eM) .none Uv Uw Ux RP NR Uy),S0⟩)
 (c17:PySem.W.codeIn K NR "check_ring"=true) (k17:PySem.W.keepIn K (.ref O4)=true)
 (a18:PySem.W.nsIn K mainGlobals "tie_at"=some (some (.ref O5)))
 (l18:K.lookup O5=some ⟨Uz,RQ,.func (PySem.W.fnOf "tie_at" "tie_at" (aH jq) (aF jq) (ae jq) .none UA UB UC RS NS UD),S1⟩)
 (c18:PySem.W.codeIn K NS "tie_at"=true) (k18:PySem.W.keepIn K (.ref O5)=true)
 (a19:PySem.W.nsIn K mainGlobals "far_end"=some (some (.ref O6)))
 (l19:K.lookup O6=some ⟨UE,RT,.func (PySem.W.fnOf "far_end" "far_end" (aH i6) (aF i6) (ae i6) .none UG UH UI RU NT UJ),S3⟩)
 (c19:PySem.W.codeIn K NT "far_end"=true) (k19:PySem.W.keepIn K (.ref O6)=true)
 (a20:PySem.W.nsIn K mainGlobals "walked"=some (some (.ref O7)))
 (l20:K.lookup O7=some ⟨UK,RV,.func (PySem.W.fnOf "walked" "walked" (aH kF) (aF kF) (ae kF) .none UL UM UN RW NU UO),S4⟩)
 (c20:PySem.W.codeIn K NU "walked"=true) (k20:PySem.W.keepIn K (.ref O7)=true)
 (a21:PySem.W.nsIn K mainGlobals "row_to_lead"=some (some (.ref O8)))
 (l21:K.lookup O8=some ⟨UP,RX,.func (PySem.W.fnOf "row_to_lead" "row_to_lead" (aH dS) (aF dS) (ae dS) .none UQ UR US RY NV UT),S5⟩)
 (c21:PySem.W.codeIn K NV "row_to_lead"=true) (k21:PySem.W.keepIn K (.ref O8)=true)
 (a22:PySem.W.nsIn K mainGlobals "row_cleared"=some (some (.ref O9)))
 (l22:K.lookup O9=some ⟨UU,RZ,.func (PySem.W.fnOf "row_cleared" "row_cleared" (aH cX) (aF cX) (ae cX) .none UW UX UY R0 NW UZ),S6⟩)
 (c22:PySem.W.codeIn K NW "row_cleared"=true) (k22:PySem.W.keepIn K (.ref O9)=true)
 (a23:PySem.W.nsIn K mainGlobals "determinant"=some (some (.ref Pa)))
 (l23:K.lookup Pa=some ⟨U0,R1,.func (PySem.W.fnOf "determinant" "determinant" (aH dU) (aF dU) (ae dU) .none U1 U3 U4 R3 NX U5),S7⟩)
 (c23:PySem.W.codeIn K NX "determinant"=true) (k23:PySem.W.keepIn K (.ref Pa)=true)
 (a24:PySem.W.nsIn K mainGlobals "ways_of"=some (some (.ref Pb)))
 (l24:K.lookup Pb=some ⟨U6,R4,.func (PySem.W.fnOf "ways_of" "ways_of" (aH i7) (aF i7) (ae i7) .none U7 U8 U9 R5 NY Va),S8⟩)
 (c24:PySem.W.codeIn K NY "ways_of"=true) (k24:PySem.W.keepIn K (.ref Pb)=true)
 (a25:PySem.W.nsIn K mainGlobals "product_of"=some (some (.ref Pc)))
 (l25:K.lookup Pc=some ⟨Vb,R6,.func (PySem.W.fnOf "product_of" "product_of" (aH dJ) (aF dJ) (ae dJ) .none Vc Vd Ve R7 NZ Vf),S9⟩)
 (c25:PySem.W.codeIn K NZ "product_of"=true) (k25:PySem.W.keepIn K (.ref Pc)=true)
 (a26:PySem.W.nsIn K mainGlobals "ring_table"=some (some (.ref Pd)))
 (l26:K.lookup Pd=some ⟨Vg,R8,.func (PySem.W.fnOf "ring_table" "ring_table" (aH cS) (aF cS) (ae cS) .none Vh Vi Vj R9 N2 Vk),Tc⟩)
 (c26:PySem.W.codeIn K N2 "ring_table"=true) (k26:PySem.W.keepIn K (.ref Pd)=true)
 (a27:PySem.W.nsIn K mainGlobals "ring_worth"=some (some (.ref Pe)))
 (l27:K.lookup Pe=some ⟨Vl,Sa,.func (PySem.W.fnOf "ring_worth" "ring_worth" (aH dM) (aF dM) (ae dM) .none Vm Vn Vo Sb N3 Vp),Td⟩)
 (c27:PySem.W.codeIn K N3 "ring_worth"=true) (k27:PySem.W.keepIn K (.ref Pe)=true)
 (a28:PySem.W.nsIn K mainGlobals "ties_between"=some (some (.ref Pf)))
 (l28:K.lookup Pf=some ⟨Vq,Sd,.func (PySem.W.fnOf "ties_between" "ties_between" (aH cB) (aF cB) (ae cB) .none Vr Vs Vt Se N4 Vu),Tf⟩)
 (c28:PySem.W.codeIn K N4 "ties_between"=true) (k28:PySem.W.keepIn K (.ref Pf)=true)
 (a29:PySem.W.nsIn K mainGlobals "points_table"=some (some (.ref Pg)))
 (l29:K.lookup Pg=some ⟨Vv,Sf,.func (PySem.W.fnOf "points_table" "points_table" (aH bA) (aF bA) (ae bA) .none Vw Vx Vy Sg N5 Vz),Tg⟩)
 (c29:PySem.W.codeIn K N5 "points_table"=true) (k29:PySem.W.keepIn K (.ref Pg)=true)
 (a30:PySem.W.nsIn K mainGlobals "forest_many"=some (some (.ref Ph)))
 (l30:K.lookup Ph=some ⟨VA,Sh,.func (PySem.W.fnOf "forest_many" "forest_many" (aH dW) (aF dW) (ae dW) .none VB VC VD Si N6 VE),Th⟩)
 (c30:PySem.W.codeIn K N6 "forest_many"=true) (k30:PySem.W.keepIn K (.ref Ph)=true)
 (a31:PySem.W.nsIn K mainGlobals "check_few"=some (some (.ref Pj)))
 (l31:K.lookup Pj=some ⟨VF,Sj,.func (PySem.W.fnOf "check_few" "check_few" (aH fH) (aF fH) (ae fH) .none VG VH VI Sk N7 VJ),Ti⟩)
 (c31:PySem.W.codeIn K N7 "check_few"=true) (k31:PySem.W.keepIn K (.ref Pj)=true)
 (a32:PySem.W.nsIn K mainGlobals "end_moved"=some (some (.ref f32)))
 (l32:K.lookup f32=some ⟨VL,Sl,.func (PySem.W.fnOf "end_moved" "end_moved" (aH fJ) (aF fJ) (ae fJ) .none VM VN VO Sm N8 VP),Tj⟩)
 (c32:PySem.W.codeIn K N8 "end_moved"=true) (k32:PySem.W.keepIn K (.ref f32)=true)
 (a33:PySem.W.nsIn K mainGlobals "web_drawn_together"=some (some (.ref Pk)))
 (l33:K.lookup Pk=some ⟨VQ,Sn,.func (PySem.W.fnOf "web_drawn_together" "web_drawn_together" (aH bh) (aF bh) (ae bh) .none VR VS VT So N9 VU),Tn⟩)
 (c33:PySem.W.codeIn K N9 "web_drawn_together"=true) (k33:PySem.W.keepIn K (.ref Pk)=true)
 (a34:PySem.W.nsIn K mainGlobals "taken_apart"=some (some (.ref Pn)))
 (l34:K.lookup Pn=some ⟨VV,Sq,.func (PySem.W.fnOf "taken_apart" "taken_apart" (aH dX) (aF dX) (ae dX) .none VW VX VY Ss Oa VZ),To⟩)
 (c34:PySem.W.codeIn K Oa "taken_apart"=true) (k34:PySem.W.keepIn K (.ref Pn)=true)
 (a35:PySem.W.nsIn K mainGlobals "forests_by_taking"=some (some (.ref Po)))
 (l35:K.lookup Po=some ⟨V0,Su,.func (PySem.W.fnOf "forests_by_taking" "forests_by_taking" (aH bH) (aF bH) (ae bH) .none V1 V2 V3 Sv Ob V4),Tq⟩)
 (c35:PySem.W.codeIn K Ob "forests_by_taking"=true) (k35:PySem.W.keepIn K (.ref Po)=true)
 (a36:PySem.W.nsIn K mainGlobals "_law_cell"=some (some (.ref Pp)))
 (l36:K.lookup Pp=some ⟨V5,Sw,.func (PySem.W.fnOf "_law_cell" "_law_cell" (aH gK) (aF gK) (ae gK) .none V6 V7 V8 Sx Oc V9),Tt⟩)
 (c36:PySem.W.codeIn K Oc "_law_cell"=true) (k36:PySem.W.keepIn K (.ref Pp)=true)
 (a37:PySem.W.nsIn K mainGlobals "_law_stir"=some (some (.ref Pq)))
 (l37:K.lookup Pq=some ⟨Wa,Sy,.func (PySem.W.fnOf "_law_stir" "_law_stir" (aH gO) (aF gO) (ae gO) .none Wb Wc Wd Sz Od We),Tu⟩)
 (c37:PySem.W.codeIn K Od "_law_stir"=true) (k37:PySem.W.keepIn K (.ref Pq)=true)
 (a38:PySem.W.nsIn K mainGlobals "_law_tie"=some (some (.ref Pr)))
 (l38:K.lookup Pr=some ⟨Wf,SA,.func (PySem.W.fnOf "_law_tie" "_law_tie" (aH i8) (aF i8) (ae i8) .none Wg Wh Wi SD Oe Wj),Tv⟩)
 (c38:PySem.W.codeIn K Oe "_law_tie"=true) (k38:PySem.W.keepIn K (.ref Pr)=true)
 (a39:PySem.W.nsIn K mainGlobals "_law_web"=some (some (.ref Pu)))
 (l39:K.lookup Pu=some ⟨Wl,SE,.func (PySem.W.fnOf "_law_web" "_law_web" (aH i9) (aF i9) (ae i9) .none Wm Wn Wo SG Of Wq),Tw⟩)
 (c39:PySem.W.codeIn K Of "_law_web"=true) (k39:PySem.W.keepIn K (.ref Pu)=true)
 (a40:PySem.W.nsIn K mainGlobals "_law_ties"=some (some (.ref Pw)))
 (l40:K.lookup Pw=some ⟨Wr,SH,.func (PySem.W.fnOf "_law_ties" "_law_ties" (aH fj) (aF fj) (ae fj) .none Ws Wt Wu SI Og Wv),Tz⟩)
 (c40:PySem.W.codeIn K Og "_law_ties"=true) (k40:PySem.W.keepIn K (.ref Pw)=true)
 (a41:PySem.W.nsIn K mainGlobals "_law_odd"=some (some (.ref Px)))
 (l41:K.lookup Px=some ⟨Ww,SJ,.func (PySem.W.fnOf "_law_odd" "_law_odd" (aH gP) (aF gP) (ae gP) .none Wx Wy Wz SK Oh WA),TF⟩)
 (c41:PySem.W.codeIn K Oh "_law_odd"=true) (k41:PySem.W.keepIn K (.ref Px)=true)
 (a42:PySem.W.nsIn K mainGlobals "_law_rings"=some (some (.ref Py)))
 (l42:K.lookup Py=some ⟨WB,SM,.func (PySem.W.fnOf "_law_rings" "_law_rings" (aH cT) (aF cT) (ae cT) .none WC WD WE SN Oi WG),TH⟩)
 (c42:PySem.W.codeIn K Oi "_law_rings"=true) (k42:PySem.W.keepIn K (.ref Py)=true)
 (a43:PySem.W.nsIn K mainGlobals "law"=some (some (.ref Rx)))
 (l43:K.lookup Rx=some ⟨WH,SO,.func (PySem.W.fnOf "law" "law" (aH nc) (aF nc) (ae nc) .none Oj Ol Om NH Ls Oo),TJ⟩)
 (c43:PySem.W.codeIn K Ls "law"=true) (k43:PySem.W.keepIn K (.ref Rx)=true)
 (z_ValueError:PySem.W.nsIn K mainGlobals "ValueError"=some none)
 (z_abs:PySem.W.nsIn K mainGlobals "abs"=some none)
 (z_len:PySem.W.nsIn K mainGlobals "len"=some none)
 (z_list:PySem.W.nsIn K mainGlobals "list"=some none)
 (z_max:PySem.W.nsIn K mainGlobals "max"=some none)
 (z_min:PySem.W.nsIn K mainGlobals "min"=some none)
 (z_range:PySem.W.nsIn K mainGlobals "range"=some none)
 (z_sum:PySem.W.nsIn K mainGlobals "sum"=some none)
 (z_tuple:PySem.W.nsIn K mainGlobals "tuple"=some none)
 (z_zip:PySem.W.nsIn K mainGlobals "zip"=some none)
 (i_MOST_TAKEN:PySem.W.nsIn K mainGlobals "MOST_TAKEN"=some (some (.int 12 zh)))
 (d_BadSet:PySem.W.nsIn K mainGlobals "BadSet"=some (some (.ref vv)))
 (d_NotRing:PySem.W.nsIn K mainGlobals "NotRing"=some (some (.ref rZ)))
 (d_NoChord:PySem.W.nsIn K mainGlobals "NoChord"=some (some (.ref r6)))
 (d_NoBase:PySem.W.nsIn K mainGlobals "NoBase"=some (some (.ref vy)))
 (d_TooMany:PySem.W.nsIn K mainGlobals "TooMany"=some (some (.ref r9)))
 (xc_NoBase:PySem.W.excIn K vy [.type "ValueError",.type "Exception",.type "BaseException",.type "object"] "ValueError.__new__"=true)
 (xc_BadSet:PySem.W.excIn K vv [.type "ValueError",.type "Exception",.type "BaseException",.type "object"] "ValueError.__new__"=true)
 (xc_NotRing:PySem.W.excIn K rZ [.type "ValueError",.type "Exception",.type "BaseException",.type "object"] "ValueError.__new__"=true)
 (xc_NoChord:PySem.W.excIn K r6 [.type "ValueError",.type "Exception",.type "BaseException",.type "object"] "ValueError.__new__"=true)
 (xc_TooMany:PySem.W.excIn K r9 [.type "ValueError",.type "Exception",.type "BaseException",.type "object"] "ValueError.__new__"=true)
 : ∃ fd:FuncData,(∀(s:Shared) (v:Value),BindsTo s fd ⟨[v],[]⟩ [("script",v)])/\∀ base:Heap,K.In base->base.Ns mainGlobals mg->aL l.prog w K mg base dh 21 fa fd ["script"] (zg K):=by
 have e:=ZK.symm.trans (PySem.W.mg_of X G a43);cases e;have F0:=aU (st:=i4) l0 c0 k0;have b0:=F0.binds (ps:=["tie_set","tie"]) fun _ _ _ _ _ _ us hl=>by obtain⟨_,_,rfl⟩:=j9 us hl;rfl
 have F1:=aU (st:=gH) l1 c1 k1;have b1:=F1.binds (ps:=["tie_set"]) fun _ _ _ _ _ _ us hl=>by obtain⟨_,rfl⟩:=o4 us hl;rfl
 have F2:=aU (st:=gI) l2 c2 k2;have b2:=F2.binds (ps:=["web"]) fun _ _ _ _ _ _ us hl=>by obtain⟨_,rfl⟩:=o4 us hl;rfl
 have F3:=aU (st:=kC) l3 c3 k3;have b3:=F3.binds (ps:=["web","number"]) fun _ _ _ _ _ _ us hl=>by obtain⟨_,_,rfl⟩:=j9 us hl;rfl
 have F4:=aU (st:=fD) l4 c4 k4;have b4:=F4.binds (ps:=["web","tie_set"]) fun _ _ _ _ _ _ us hl=>by obtain⟨_,_,rfl⟩:=j9 us hl;rfl
 have F5:=aU (st:=dH) l5 c5 k5;have b5:=F5.binds (ps:=["web","tie_set"]) fun _ _ _ _ _ _ us hl=>by obtain⟨_,_,rfl⟩:=j9 us hl;rfl
 have F6:=aU (st:=dI) l6 c6 k6;have b6:=F6.binds (ps:=["web","tie_set"]) fun _ _ _ _ _ _ us hl=>by obtain⟨_,_,rfl⟩:=j9 us hl;rfl
 have F7:=aU (st:=bL) l7 c7 k7;have b7:=F7.binds (ps:=["leasts","one","other"]) fun _ _ _ _ _ _ us hl=>by obtain⟨_,_,_,rfl⟩:=zG us hl;rfl
 have F8:=aU (st:=jo) l8 c8 k8;have b8:=F8.binds (ps:=["web","tie_set"]) fun _ _ _ _ _ _ us hl=>by obtain⟨_,_,rfl⟩:=j9 us hl;rfl
 have F9:=aU (st:=rM) l9 c9 k9;have b9:=F9.binds (ps:=["web"]) fun _ _ _ _ _ _ us hl=>by obtain⟨_,rfl⟩:=o4 us hl;rfl
 have XW:=aU (st:=i5) l10 c10 k10;have b10:=XW.binds (ps:=["web","tie_set"]) fun _ _ _ _ _ _ us hl=>by obtain⟨_,_,rfl⟩:=j9 us hl;rfl
 have XX:=aU (st:=bT) l11 c11 k11;have b11:=XX.binds (ps:=["web"]) fun _ _ _ _ _ _ us hl=>by obtain⟨_,rfl⟩:=o4 us hl;rfl
 have XY:=aU (st:=kD) l12 c12 k12;have b12:=XY.binds (ps:=["web"]) fun _ _ _ _ _ _ us hl=>by obtain⟨_,rfl⟩:=o4 us hl;rfl
 have XZ:=aU (st:=kE) l13 c13 k13;have b13:=XZ.binds (ps:=["web"]) fun _ _ _ _ _ _ us hl=>by obtain⟨_,rfl⟩:=o4 us hl;rfl
 have X0:=aU (st:=dR) l14 c14 k14;have b14:=X0.binds (ps:=["web","trails","chord"]) fun _ _ _ _ _ _ us hl=>by obtain⟨_,_,_,rfl⟩:=zG us hl;rfl
 have X3:=aU (st:=eK) l15 c15 k15;have b15:=X3.binds (ps:=["web","tie"]) fun _ _ _ _ _ _ us hl=>by obtain⟨_,_,rfl⟩:=j9 us hl;rfl
 have X4:=aU (st:=gJ) l16 c16 k16;have b16:=X4.binds (ps:=["web","tie_set"]) fun _ _ _ _ _ _ us hl=>by obtain⟨_,_,rfl⟩:=j9 us hl;rfl
 have X5:=aU (st:=eM) l17 c17 k17;have b17:=X5.binds (ps:=["web","ring"]) fun _ _ _ _ _ _ us hl=>by obtain⟨_,_,rfl⟩:=j9 us hl;rfl
 have X6:=aU (st:=jq) l18 c18 k18;have b18:=X6.binds (ps:=["web","tie_set","point"]) fun _ _ _ _ _ _ us hl=>by obtain⟨_,_,_,rfl⟩:=zG us hl;rfl
 have X7:=aU (st:=i6) l19 c19 k19;have b19:=X7.binds (ps:=["web","tie","point"]) fun _ _ _ _ _ _ us hl=>by obtain⟨_,_,_,rfl⟩:=zG us hl;rfl
 have X8:=aU (st:=kF) l20 c20 k20;have b20:=X8.binds (ps:=["web","ring"]) fun _ _ _ _ _ _ us hl=>by obtain⟨_,_,rfl⟩:=j9 us hl;rfl
 have X9:=aU (st:=dS) l21 c21 k21;have b21:=X9.binds (ps:=["rows","step"]) fun _ _ _ _ _ _ us hl=>by obtain⟨_,_,rfl⟩:=j9 us hl;rfl
 have Yb:=aU (st:=cX) l22 c22 k22;have b22:=Yb.binds (ps:=["row","lead_row","step","divisor"]) fun _ _ _ _ _ _ us hl=>by obtain⟨_,_,_,_,rfl⟩:=Qw us hl;rfl
 have Yc:=aU (st:=dU) l23 c23 k23;have b23:=Yc.binds (ps:=["table"]) fun _ _ _ _ _ _ us hl=>by obtain⟨_,rfl⟩:=o4 us hl;rfl
 have Yd:=aU (st:=i7) l24 c24 k24;have b24:=Yd.binds (ps:=["web","ring"]) fun _ _ _ _ _ _ us hl=>by obtain⟨_,_,rfl⟩:=j9 us hl;rfl
 have Ye:=aU (st:=dJ) l25 c25 k25;have b25:=Ye.binds (ps:=["one","other"]) fun _ _ _ _ _ _ us hl=>by obtain⟨_,_,rfl⟩:=j9 us hl;rfl
 have Yg:=aU (st:=cS) l26 c26 k26;have b26:=Yg.binds (ps:=["web","rings"]) fun _ _ _ _ _ _ us hl=>by obtain⟨_,_,rfl⟩:=j9 us hl;rfl
 have Yh:=aU (st:=dM) l27 c27 k27;have b27:=Yh.binds (ps:=["web","rings"]) fun _ _ _ _ _ _ us hl=>by obtain⟨_,_,rfl⟩:=j9 us hl;rfl
 have Yi:=aU (st:=cB) l28 c28 k28;have b28:=Yi.binds (ps:=["web","one","other"]) fun _ _ _ _ _ _ us hl=>by obtain⟨_,_,_,rfl⟩:=zG us hl;rfl
 have Yj:=aU (st:=bA) l29 c29 k29;have b29:=Yj.binds (ps:=["web"]) fun _ _ _ _ _ _ us hl=>by obtain⟨_,rfl⟩:=o4 us hl;rfl
 have Yk:=aU (st:=dW) l30 c30 k30;have b30:=Yk.binds (ps:=["web"]) fun _ _ _ _ _ _ us hl=>by obtain⟨_,rfl⟩:=o4 us hl;rfl
 have Yl:=aU (st:=fH) l31 c31 k31;have b31:=Yl.binds (ps:=["web"]) fun _ _ _ _ _ _ us hl=>by obtain⟨_,rfl⟩:=o4 us hl;rfl
 have Ym:=aU (st:=fJ) l32 c32 k32;have b32:=Ym.binds (ps:=["end","one","other"]) fun _ _ _ _ _ _ us hl=>by obtain⟨_,_,_,rfl⟩:=zG us hl;rfl
 have Yn:=aU (st:=bh) l33 c33 k33;have b33:=Yn.binds (ps:=["web","one","other"]) fun _ _ _ _ _ _ us hl=>by obtain⟨_,_,_,rfl⟩:=zG us hl;rfl
 have Yo:=aU (st:=dX) l34 c34 k34;have b34:=Yo.binds (ps:=["web"]) fun _ _ _ _ _ _ us hl=>by obtain⟨_,rfl⟩:=o4 us hl;rfl
 have Yp:=aU (st:=bH) l35 c35 k35;have b35:=Yp.binds (ps:=["web"]) fun _ _ _ _ _ _ us hl=>by obtain⟨_,rfl⟩:=o4 us hl;rfl
 have Yq:=aU (st:=gK) l36 c36 k36;have b36:=Yq.binds (ps:=["script","k"]) fun _ _ _ _ _ _ us hl=>by obtain⟨_,_,rfl⟩:=j9 us hl;rfl
 have Yr:=aU (st:=gO) l37 c37 k37;have b37:=Yr.binds (ps:=["cell","k"]) fun _ _ _ _ _ _ us hl=>by obtain⟨_,_,rfl⟩:=j9 us hl;rfl
 have Ys:=aU (st:=i8) l38 c38 k38;have b38:=Ys.binds (ps:=["c","points","times"]) fun _ _ _ _ _ _ us hl=>by obtain⟨_,_,_,rfl⟩:=zG us hl;rfl
 have Yt:=aU (st:=i9) l39 c39 k39;have b39:=Yt.binds (ps:=["script","most"]) fun _ _ _ _ _ _ us hl=>by obtain⟨_,_,rfl⟩:=j9 us hl;rfl
 have Yu:=aU (st:=fj) l40 c40 k40;have b40:=Yu.binds (ps:=["some"]) fun _ _ _ _ _ _ us hl=>by obtain⟨_,rfl⟩:=o4 us hl;rfl
 have Yv:=aU (st:=gP) l41 c41 k41;have b41:=Yv.binds (ps:=["web","some"]) fun _ _ _ _ _ _ us hl=>by obtain⟨_,_,rfl⟩:=j9 us hl;rfl
 have Yw:=aU (st:=cT) l42 c42 k42;have b42:=Yw.binds (ps:=["web"]) fun _ _ _ _ _ _ us hl=>by obtain⟨_,rfl⟩:=o4 us hl;rfl
 have Yx:=aU (st:=nc) l43 c43 k43;have b43:=Yx.binds (ps:=["script"]) fun _ _ _ _ _ _ us hl=>by obtain⟨_,rfl⟩:=o4 us hl;rfl
 have T:Txt K mg ⟨f0,_,f1,_,f2,_,f3,_,f4,_,f5,_,f6,_,f7,_,f8,_,f9,_,OX,_,OY,_,OZ,_,O0,_,O1,_,O2,_,O3,_,O4,_,O5,_,O6,_,O7,_,O8,_,O9,_,Pa,_,Pb,_,Pc,_,Pd,_,Pe,_,Pf,_,Pg,_,Ph,_,Pj,_,f32,_,Pk,_,Pn,_,Po,_,Pp,_,Pq,_,Pr,_,Pu,_,Pw,_,Px,_,Py,_,fa,_,vv,rZ,r6,vy,r9⟩:=⟨F0,PySem.W.mg_of X G a0,b0,F1,PySem.W.mg_of X G a1,b1,F2,PySem.W.mg_of X G a2,b2,F3,PySem.W.mg_of X G a3,b3,F4,PySem.W.mg_of X G a4,b4,F5,PySem.W.mg_of X G a5,b5,F6,PySem.W.mg_of X G a6,b6,F7,PySem.W.mg_of X G a7,b7,F8,PySem.W.mg_of X G a8,b8,F9,PySem.W.mg_of X G a9,b9,XW,PySem.W.mg_of X G a10,b10,XX,PySem.W.mg_of X G a11,b11,XY,PySem.W.mg_of X G a12,b12,XZ,PySem.W.mg_of X G a13,b13,X0,PySem.W.mg_of X G a14,b14,X3,PySem.W.mg_of X G a15,b15,X4,PySem.W.mg_of X G a16,b16,X5,PySem.W.mg_of X G a17,b17,X6,PySem.W.mg_of X G a18,b18,X7,PySem.W.mg_of X G a19,b19,X8,PySem.W.mg_of X G a20,b20,X9,PySem.W.mg_of X G a21,b21,Yb,PySem.W.mg_of X G a22,b22,Yc,PySem.W.mg_of X G a23,b23,Yd,PySem.W.mg_of X G a24,b24,Ye,PySem.W.mg_of X G a25,b25,Yg,PySem.W.mg_of X G a26,b26,Yh,PySem.W.mg_of X G a27,b27,Yi,PySem.W.mg_of X G a28,b28,Yj,PySem.W.mg_of X G a29,b29,Yk,PySem.W.mg_of X G a30,b30,Yl,PySem.W.mg_of X G a31,b31,Ym,PySem.W.mg_of X G a32,b32,Yn,PySem.W.mg_of X G a33,b33,Yo,PySem.W.mg_of X G a34,b34,Yp,PySem.W.mg_of X G a35,b35,Yq,PySem.W.mg_of X G a36,b36,Yr,PySem.W.mg_of X G a37,b37,Ys,PySem.W.mg_of X G a38,b38,Yt,PySem.W.mg_of X G a39,b39,Yu,PySem.W.mg_of X G a40,b40,Yv,PySem.W.mg_of X G a41,b41,Yw,PySem.W.mg_of X G a42,b42,Yx,PySem.W.mg_of X G a43,b43,PySem.W.mg_none_of X G z_ValueError,PySem.W.mg_none_of X G z_abs,PySem.W.mg_none_of X G z_len,PySem.W.mg_none_of X G z_list,PySem.W.mg_none_of X G z_max,PySem.W.mg_none_of X G z_min,PySem.W.mg_none_of X G z_range,PySem.W.mg_none_of X G z_sum,PySem.W.mg_none_of X G z_tuple,PySem.W.mg_none_of X G z_zip,⟨_,PySem.W.mg_of X G i_MOST_TAKEN⟩,PySem.W.mg_of X G d_BadSet,PySem.W.mg_of X G d_NotRing,PySem.W.mg_of X G d_NoChord,PySem.W.mg_of X G d_NoBase,PySem.W.mg_of X G d_TooMany,fun h1 X1 G1=>ua X1 G1 d_NoBase xc_NoBase,fun h1 X1 G1=>ua X1 G1 d_BadSet xc_BadSet,fun h1 X1 G1=>ua X1 G1 d_NotRing xc_NotRing,fun h1 X1 G1=>ua X1 G1 d_NoChord xc_NoChord,fun h1 X1 G1=>ua X1 G1 d_TooMany xc_TooMany⟩
 exact⟨PySem.W.fnOf "law" "law" (aH nc) (aF nc) (ae nc) .none Oj Ol Om NH Ls Oo,fun s v=>.of_eq rfl,fun base _ _=>Nu T⟩
theorem walk{l:PySem.W.OpenLaw}{q:Program}{loose:List Str}{XP:(Str->Option Value)->Heap->Prop}{YP:World->Heap->Prop}{d:DefRec}{K:Params->bY}(hn:l.most=some 63)(Mt:d.params.defaults=[])
 (hY:∀(w:World) (h:Heap),YP w h->(K w.params).In h)
 (F:∀(w:World) (mg:jY) (fa:Addr) (h:Heap),(K w.params).In h->h.Ns mainGlobals mg->mg d.name=some (.ref fa)->
  ∃ fd:FuncData,(∀(s:Shared) (u:Value),BindsTo s fd ⟨[u],[]⟩ [("script",u)])/\∀ base:Heap,(K w.params).In base->base.Ns mainGlobals mg->aL l.prog w (K w.params) mg base dh 21 fa fd ["script"] (zg (K w.params))) :
 PySem.W.WalkO q loose XP YP l.row.toRowW d [] (fun f vs=>PySem.call f vs) :=
 L2.Ib (n:=63) (k:=21) (x:="script") (CX:=fun _=>dh) (sp:=fun w=>zg (K w.params)) hn (by decide) Mt ⟨rfl,by decide,by decide⟩ hY F (fun _ _ a ns hl _ hS=>⟨a,ns,rfl,hS,hl,fun _=>rfl⟩) fun _ _ _ _ _ z=>z
end K50
namespace PySem.W.Fast
def tw10511932605975535726:=()
def tw908292056323622030:=()
def tw4570729432301297562:=()
def tw13814537933181724275:=()
def tw12644913665528604795:=()
def tw3666852009393828308:=()
def tw2645920695851342496:=()
def tw18430524585491313064:=()
def tw5349043235676053552:=()
def tw15098562651026966169:=()
def tw14151992406121888625:=()
def tw5701366518943093921:=()
def tw7282627776137026595:=()
def tw12927612480632287355:=()
def tw11195152001380086345:=()
def tw5671081694344711346:=()
def tw14752359985910776158:=()
def tw2458280901543207194:=()
def tw6109886875449351335:=()
def tw187718394878484119:=()
def tw18009109664195793963:=()
def tw14979445129222333028:=()
def tw2207584264791983829:=()
def tw14640118283984057190:=()
def tw5372286868117173269:=()
def tw5203533367288194573:=()
def tw3524856021415913859:=()
def tw730178032400657789:=()
def tw15614570284304676560:=()
def tw5517393089756809405:=()
def tw4757560806364188896:=()
def tw5278187972694101442:=()
def tw16824034829638935726:=()
def tw14376642783391862645:=()
def tw7363713496240482427:=()
def tw9190668192360557859:=()
def tw443565803785847583:=()
def tw17238249292958560216:=()
def tw1945061865842925394:=()
def tw611147729916688227:=()
def tw2275924722303330043:=()
def tw10556731863832072056:=()
def tw1663223762746881970:=()
def tw2047765096853320810:=()
def tw9341828762033787425:=()
def tw14782311729430265730:=()
def tw9554165158284963509:=()
def tw10564850568154093038:=()
def tw2738119389027054632:=()
def tw10432587585933058092:=()
def tw4885548905681942180:=()
def tw58166966990640725:=()
def tw12623206066502342306:=()
def tw7454435739941875025:=()
def tw16826629964997713479:=()
def tw16463538253707048242:=()
def tw853428271308854415:=()
def tw17010644976080057711:=()
def tw1405719488515607512:=()
def tw17920291072548680011:=()
def tw5867109643820086364:=()
def tw7130606744824488714:=()
def tw872881024651809998:=()
def tw14697391994322150421:=()
def tw2113627112420595395:=()
def tw6398605378205494335:=()
def tw3516033882586203934:=()
def tw8488663075996047731:=()
def tw9696802906477491658:=()
def tw5498388280003687811:=()
def tw228135642023419811:=()
def tw10687533239752329365:=()
end PySem.W.Fast
open PySem PySem.W PyProof.Rows
set_option maxRecDepth 100000 in
set_option maxHeartbeats 0 in
theorem PySem.Challenge.cw_ringbase_k50_whole_rings_count_forests_holds : PySem.Challenge.rw_ringbase_k50_whole_rings_count_forests.Holds := by
 w_on;o_law;k_head;(case hw=>w_witness2)
 k_fill
 refine K50.walk (l:=PySem.Challenge.rw_ringbase_k50_whole_rings_count_forests) rfl rfl (fun w h Y=>PySem.W.kIn_of Y) ?F
 case F =>
  intro w mg fa h KX G hmg;refine' K50.all_mk KX G hmg ?a0 ?l0 ?c0 ?k0 ?a1 ?l1 ?c1 ?k1 ?a2 ?l2 ?c2 ?k2 ?a3 ?l3 ?c3 ?k3 ?a4 ?l4 ?c4 ?k4 ?a5 ?l5 ?c5 ?k5 ?a6 ?l6 ?c6 ?k6 ?a7 ?l7 ?c7 ?k7 ?a8 ?l8 ?c8 ?k8 ?a9 ?l9 ?c9 ?k9 ?a10 ?l10 ?c10 ?k10 ?a11 ?l11 ?c11 ?k11 ?a12 ?l12 ?c12 ?k12 ?a13 ?l13 ?c13 ?k13 ?a14 ?l14 ?c14 ?k14 ?a15 ?l15 ?c15 ?k15 ?a16 ?l16 ?c16 ?k16 ?a17 ?l17 ?c17 ?k17 ?a18 ?l18 ?c18 ?k18 ?a19 ?l19 ?c19 ?k19 ?a20 ?l20 ?c20 ?k20 ?a21 ?l21 ?c21 ?k21 ?a22 ?l22 ?c22 ?k22 ?a23 ?l23 ?c23 ?k23 ?a24 ?l24 ?c24 ?k24 ?a25 ?l25 ?c25 ?k25 ?a26 ?l26 ?c26 ?k26 ?a27 ?l27 ?c27 ?k27 ?a28 ?l28 ?c28 ?k28 ?a29 ?l29 ?c29 ?k29 ?a30 ?l30 ?c30 ?k30 ?a31 ?l31 ?c31 ?k31 ?a32 ?l32 ?c32 ?k32 ?a33 ?l33 ?c33 ?k33 ?a34 ?l34 ?c34 ?k34 ?a35 ?l35 ?c35 ?k35 ?a36 ?l36 ?c36 ?k36 ?a37 ?l37 ?c37 ?k37 ?a38 ?l38 ?c38 ?k38 ?a39 ?l39 ?c39 ?k39 ?a40 ?l40 ?c40 ?k40 ?a41 ?l41 ?c41 ?k41 ?a42 ?l42 ?c42 ?k42 ?a43 ?l43 ?c43 ?k43 ?z_ValueError ?z_abs ?z_len ?z_list ?z_max ?z_min ?z_range ?z_sum ?z_tuple ?z_zip ?i_MOST_TAKEN ?d_BadSet ?d_NotRing ?d_NoChord ?d_NoBase ?d_TooMany ?xc_NoBase ?xc_BadSet ?xc_NotRing ?xc_NoChord ?xc_TooMany
  (case d_BadSet=>k_is)
  (case d_NotRing=>k_is)
  (case d_NoChord=>k_is)
  (case d_NoBase=>k_is)
  (case d_TooMany=>k_is)
  (case a0=>k_is)
  (case l0=>k_is)
  (case c0=>k_is)
  (case k0=>k_is)
  (case a1=>k_is)
  (case l1=>k_is)
  (case c1=>k_is)
  (case k1=>k_is)
  (case a2=>k_is)
  (case l2=>k_is)
  (case c2=>k_is)
  (case k2=>k_is)
  (case a3=>k_is)
  (case l3=>k_is)
  (case c3=>k_is)
  (case k3=>k_is)
  (case a4=>k_is)
  (case l4=>k_is)
  (case c4=>k_is)
  (case k4=>k_is)
  (case a5=>k_is)
  (case l5=>k_is)
  (case c5=>k_is)
  (case k5=>k_is)
  (case a6=>k_is)
  (case l6=>k_is)
  (case c6=>k_is)
  (case k6=>k_is)
  (case a7=>k_is)
  (case l7=>k_is)
  (case c7=>k_is)
  (case k7=>k_is)
  (case a8=>k_is)
  (case l8=>k_is)
  (case c8=>k_is)
  (case k8=>k_is)
  (case a9=>k_is)
  (case l9=>k_is)
  (case c9=>k_is)
  (case k9=>k_is)
  (case a10=>k_is)
  (case l10=>k_is)
  (case c10=>k_is)
  (case k10=>k_is)
  (case a11=>k_is)
  (case l11=>k_is)
  (case c11=>k_is)
  (case k11=>k_is)
  (case a12=>k_is)
  (case l12=>k_is)
  (case c12=>k_is)
  (case k12=>k_is)
  (case a13=>k_is)
  (case l13=>k_is)
  (case c13=>k_is)
  (case k13=>k_is)
  (case a14=>k_is)
  (case l14=>k_is)
  (case c14=>k_is)
  (case k14=>k_is)
  (case a15=>k_is)
  (case l15=>k_is)
  (case c15=>k_is)
  (case k15=>k_is)
  (case a16=>k_is)
  (case l16=>k_is)
  (case c16=>k_is)
  (case k16=>k_is)
  (case a17=>k_is)
  (case l17=>k_is)
  (case c17=>k_is)
  (case k17=>k_is)
  (case a18=>k_is)
  (case l18=>k_is)
  (case c18=>k_is)
  (case k18=>k_is)
  (case a19=>k_is)
  (case l19=>k_is)
  (case c19=>k_is)
  (case k19=>k_is)
  (case a20=>k_is)
  (case l20=>k_is)
  (case c20=>k_is)
  (case k20=>k_is)
  (case a21=>k_is)
  (case l21=>k_is)
  (case c21=>k_is)
  (case k21=>k_is)
  (case a22=>k_is)
  (case l22=>k_is)
  (case c22=>k_is)
  (case k22=>k_is)
  (case a23=>k_is)
  (case l23=>k_is)
  (case c23=>k_is)
  (case k23=>k_is)
  (case a24=>k_is)
  (case l24=>k_is)
  (case c24=>k_is)
  (case k24=>k_is)
  (case a25=>k_is)
  (case l25=>k_is)
  (case c25=>k_is)
  (case k25=>k_is)
  (case a26=>k_is)
  (case l26=>k_is)
  (case c26=>k_is)
  (case k26=>k_is)
  (case a27=>k_is)
  (case l27=>k_is)
  (case c27=>k_is)
  (case k27=>k_is)
  (case a28=>k_is)
  (case l28=>k_is)
  (case c28=>k_is)
  (case k28=>k_is)
  (case a29=>k_is)
  (case l29=>k_is)
  (case c29=>k_is)
  (case k29=>k_is)
  (case a30=>k_is)
  (case l30=>k_is)
  (case c30=>k_is)
  (case k30=>k_is)
  (case a31=>k_is)
  (case l31=>k_is)
  (case c31=>k_is)
  (case k31=>k_is)
  (case a32=>k_is)
  (case l32=>k_is)
  (case c32=>k_is)
  (case k32=>k_is)
  (case a33=>k_is)
  (case l33=>k_is)
  (case c33=>k_is)
  (case k33=>k_is)
  (case a34=>k_is)
  (case l34=>k_is)
  (case c34=>k_is)
  (case k34=>k_is)
  (case a35=>k_is)
  (case l35=>k_is)
  (case c35=>k_is)
  (case k35=>k_is)
  (case a36=>k_is)
  (case l36=>k_is)
  (case c36=>k_is)
  (case k36=>k_is)
  (case a37=>k_is)
  (case l37=>k_is)
  (case c37=>k_is)
  (case k37=>k_is)
  (case a38=>k_is)
  (case l38=>k_is)
  (case c38=>k_is)
  (case k38=>k_is)
  (case a39=>k_is)
  (case l39=>k_is)
  (case c39=>k_is)
  (case k39=>k_is)
  (case a40=>k_is)
  (case l40=>k_is)
  (case c40=>k_is)
  (case k40=>k_is)
  (case a41=>k_is)
  (case l41=>k_is)
  (case c41=>k_is)
  (case k41=>k_is)
  (case a42=>k_is)
  (case l42=>k_is)
  (case c42=>k_is)
  (case k42=>k_is)
  (case a43=>k_is)
  (case l43=>k_is)
  (case c43=>k_is)
  (case k43=>k_is)
  (case z_ValueError=>k_is)
  (case z_abs=>k_is)
  (case z_len=>k_is)
  (case z_list=>k_is)
  (case z_max=>k_is)
  (case z_min=>k_is)
  (case z_range=>k_is)
  (case z_sum=>k_is)
  (case z_tuple=>k_is)
  (case z_zip=>k_is)
  (case i_MOST_TAKEN=>k_is)
  (case xc_NoBase=>k_exc)
  (case xc_BadSet=>k_exc)
  (case xc_NotRing=>k_exc)
  (case xc_NoChord=>k_exc)
  (case xc_TooMany=>k_exc)
