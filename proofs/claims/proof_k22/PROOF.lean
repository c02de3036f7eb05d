import PyProof.Rows.All
import Wide.All
import OpenK.AllK
import Wide.FinOn
import Lean
import PyProof.EqAt
import PyProof.EqKinds
import PyProof.TupleCall
import PySem.Challenge.RW_ringbase_k22_answers_judged
set_option Elab.async false
set_option linter.all false
set_option maxRecDepth 100000
abbrev e7:=@decide_eq_true
abbrev h8:=@decide_eq_false
abbrev mX:=@of_decide_eq_true
abbrev Bd:=@List.mem_append_right
abbrev CB:=@List.mem_cons_of_mem
abbrev nB:=@List.mem_of_getElem?
abbrev xZ:=@List.getElem?_eq_some_iff
abbrev CD:=@Option.map_eq_some_iff
abbrev Ni:=@List.mem_append_left
abbrev bF:=List (PySem.Addr×PySem.Obj)
abbrev gj:=PySem.Value->PySem.Shared->Prop
abbrev iI:=PySem.Str->Option PySem.Value
abbrev bI:=PySem.W.Frag
namespace L2
open PySem PySem.Spec PyProof.Rows
abbrev dO:=@wpAny_bind
abbrev Key:=Sum Int Str
def KY:Key->Value->Bool
 | .inl k,v=>Value.isInt k v
 | .inr x,v=>Value.isStrOf x v
def Sl(w:World):Key->Int
 | .inl k=>hashInt k
 | .inr x=>hashStr w x
theorem dz:∀{k:Key} {v:Value},KY k v=true->(∃ i t,k=Sum.inl i/\v=Value.int i t)\/(∃ x t,k=Sum.inr x/\v=Value.str x t)
 | .inl i,v,h=>by
   obtain⟨t,e⟩:=Value.isInt_shape (k:=i) (v:=v) h;exact .inl ⟨i,t,rfl,e⟩
 | .inr x,v,h=>by
   obtain⟨t,e⟩:=Value.isStrOf_shape (x:=x) (v:=v) h;exact .inr ⟨x,t,rfl,e⟩
theorem Ly(a b:Int):decide ((Sum.inl a:Key)=Sum.inl b)=(a==b):=by
 by_cases e:a=b
 ·subst e;simp
 ·have h : ¬(Sum.inl a:Key)=Sum.inl b:=fun q=>e (Sum.inl.inj q)
  rw[h8 h];exact(beq_eq_false_iff_ne.mpr e).symm
theorem Lz(a b:Str):decide ((Sum.inr a:Key)=Sum.inr b)=decide (a=b):=by
 by_cases e:a=b
 ·subst e;simp
 ·have h : ¬(Sum.inr a:Key)=Sum.inr b:=fun q=>e (Sum.inr.inj q)
  rw[h8 h,h8 e]
theorem LA(a:Int)(b:Str):decide ((Sum.inl a:Key)=Sum.inr b)=false:=h8 (fun q=>nomatch q)
theorem LB(a:Str)(b:Int):decide ((Sum.inr a:Key)=Sum.inl b)=false:=h8 (fun q=>nomatch q)
def DY(prog:Program)(w:World):PySem.KeyKind prog w Key where
 is:=KY
 hash:=Sl w
 inj:=fun v a b ha hb=>by
  rcases dz ha with⟨i,t,rfl,rfl⟩|⟨x,t,rfl,rfl⟩
  ·rcases dz hb with⟨j,u,rfl,e⟩|⟨y,u,rfl,e⟩
   ·injection e with e1 _;rw[e1]
   ·exact nomatch e
  ·rcases dz hb with⟨j,u,rfl,e⟩|⟨y,u,rfl,e⟩
   ·exact nomatch e
   ·injection e with e1 _;rw[e1]
 byValue:=fun k v h=>by
  rcases dz h with⟨i,t,rfl,rfl⟩|⟨x,t,rfl,rfl⟩<;>rfl
 pyHash:=fun hv h=>by
  rcases dz hv with⟨i,t,rfl,rfl⟩|⟨x,t,rfl,rfl⟩
  ·exact wpAny_pyHash_int h
  ·exact wpAny_pyHash_str h
 eqBool:=fun hu hv h=>by
  rcases dz hu with⟨i,t,rfl,rfl⟩|⟨x,t,rfl,rfl⟩
  ·rcases dz hv with⟨j,u,rfl,rfl⟩|⟨y,u,rfl,rfl⟩
   ·rw[Ly]at h;exact wpAny_eqBool_int h
   ·rw[LA]at h;exact SeqAt.EqAt.int_str i t y u _ _ _ _ h
  ·rcases dz hv with⟨j,u,rfl,rfl⟩|⟨y,u,rfl,rfl⟩
   ·rw[LB]at h;exact SeqAt.EqAt.str_int x t j u _ _ _ _ h
   ·rw[Lz]at h;exact wpAny_eqBool_str h
 «strs»:=fun k x t v h=>by
  rcases dz h with⟨i,u,rfl,e⟩|⟨y,u,rfl,e⟩
  ·exact nomatch e
  ·injection e with e1 _
   subst e1;cases v<;>rfl
inductive V where
 | eS | bl (b:Bool) | int (i:Int) | str (x:Str) | GC (b:Array UInt8) | Nj (b:UInt64) | ref (a:Addr) | ty (n:String)
 deriving DecidableEq
def RelV:V->Value->Prop
 | .eS,u=>u=Value.none
 | .bl b,u=>u=Value.bool b
 | .int i,u=>∃ t,u=Value.int i t
 | .str x,u=>∃ t,u=Value.str x t
 | .GC b,u=>∃ t,u=Value.bytes b t
 | .Nj b,u=>∃ t,u=Value.float b t
 | .ref a,u=>u=Value.ref a
 | .ty n,u=>u=Value.type n
abbrev Vals:List V->List Value->Prop:=Paired RelV
theorem Vals.length{xs:List V}{us:List Value}(r:Vals xs us):xs.length=us.length:=Paired.length r
theorem Vals.get:∀{xs:List V} {us:List Value} {i:Nat} {x:V},Vals xs us->xs[i]?=some x->∃ u,us[i]?=some u/\RelV x u
 | _,_,_,_,.nil,e=>by simp at e
 | _,_,0,_,.cons r _,e=>by simp at e;subst e;exact⟨_,rfl,r⟩
 | _,_,i+1,x,.cons _ t,e=>by
   obtain⟨u,h1,h2⟩:=Vals.get (i:=i) (x:=x) t (by simpa using e)
   exact⟨u,by simpa using h1,h2⟩
theorem Vals.set{x:V}{u:Value}(r:RelV x u):∀{xs:List V} {us:List Value} (i:Nat),Vals xs us->Vals (xs.set i x) (us.set i u)
 | _,_,_,.nil=>.nil
 | _,_,0,.cons _ t=>.cons r t
 | _,_,i+1,.cons q t=>.cons q (Vals.set r i t)
theorem Vals.append:∀{xs ys:List V} {us ws:List Value},Vals xs us->Vals ys ws->Vals (xs++ys) (us++ws)
 | _,_,_,_,.nil,s=>s
 | _,_,_,_,.cons r t,s=>.cons r (Vals.append t s)
theorem Vals.take:∀{xs:List V} {us:List Value} (n:Nat),Vals xs us->Vals (xs.take n) (us.take n)
 | _,_,0,_=>.nil
 | _,_,_+1,.nil=>.nil
 | _,_,n+1,.cons r t=>.cons r (Vals.take n t)
theorem Vals.drop:∀{xs:List V} {us:List Value} (n:Nat),Vals xs us->Vals (xs.drop n) (us.drop n)
 | _,_,0,r=>r
 | _,_,_+1,.nil=>.nil
 | _,_,n+1,.cons _ t=>Vals.drop n t
def LC:Option V->Option Value->Prop
 | some v,some u=>RelV v u
 | none,none=>True
 | _,_=>False
def KV{κ:Type}:List (κ×V)->List (κ×Value)->Prop:=Paired fun(p:κ×V) (q:κ×Value)=>p.1=q.1/\RelV p.2 q.2
def kV:Key->V
 | .inl i=>.int i
 | .inr x=>.str x
inductive HO where
 | lst (xs:List V)
 | tup (xs:List V)
 | dK (kvs:List (Key×V)) | dT (kvs:List (List Key×V))
 | set (S:Int->Bool) (n:Nat)
 | ins (C dx:Addr) (fs:List (Str×V))
 | own (x:Addr)
 | xd (fs:List (Str×V))
 | met (f x:Addr)
 | Jk (lo hi:Int)
 | CF (o:Obj) (u:HO)
 | KZ (ps:Array Value)
 | ext (φ:Heap->Prop)
abbrev Hp:=Addr->Option HO
def upd(H:Hp)(a:Addr)(o:HO):Hp:=fun b=>if b=a then some o else H b
theorem aj{H:Hp}{a:Addr}{o:HO}:upd H a o a=some o:=by unfold upd;rw[if_pos rfl]
theorem aQ{H:Hp}{a b:Addr}{o:HO}(h:b≠a):upd H a o b=H b:=by unfold upd;rw[if_neg h]
theorem K0{H:Hp}{a b:Addr}{o u:HO}(h:H a=some o)(h' : H b=some u)(d:o≠u):a≠b:=by
 intro e;subst e;rw[h]at h';exact d (Option.some.inj h')
theorem cC{H:Hp}{a b:Addr}{o:HO}(h:H a=some o)(h' : H b=none):a≠b:=by
 intro e;subst e;rw[h]at h';cases h'
def Jw(qs:Array Value):Str:=match (qs[0]?:Option Value) with | some (Value.str q _)=>q | _=>""
section
variable (P:Program)(w:World)
def cY(H:Hp)(h:Heap)(a:Addr):HO->Prop
 | .lst xs=>xs.length<=sizeLine/\∃(its:List Value) (n:Nat),Vals xs its/\h.get? a=some { cls:=.type "list",data:=.seq its.toArray n}
 | .tup xs=>xs.length<=sizeLine/\∃ its:List Value,Vals xs its/\IsTup h a its.toArray
 | .dK kvs=>kvs.length<=sizeLine/\(a==sysModules)=false/\∃ vs,KV kvs vs/\h.DictOf (DY P w) a vs
 | .dT kvs=>kvs.length<=sizeLine/\(a==sysModules)=false/\∃ xs:List (List Key×Addr×Value),
  Paired (fun(p:List Key×V) (q:List Key×Addr×Value)=>p.1=q.1/\H q.2.1=some (.tup (p.1.map kV))/\RelV p.2 q.2.2) kvs xs/\
  ∃ o es ep,h.get? a=some o/\o.ExactDict/\o.data = .dict es ep/\es.toList=xs.map (entryOfKey (tupleKind (DY P w)))/\(xs.map (·.1)).Nodup
 | .set S n=>h.SetOf (intKind P w) a S n
 | .ins C dx fs=>H dx=some (.own a)/\fs.length<=1000/\dx≠a/\h.get? a=some (PySem.W.instObj C dx)/\
  ∃ mA,h.Ns1 dx mA/\(∀ f,LC (fs.lookup f) (mA f))/\PySem.Within mA (fs.map (·.1))
 | .own _=>∃ o,h.get? a=some o
 | .xd fs=>∃ mA,h.Ns1 a mA/\∀ f,LC (fs.lookup f) (mA f)
 | .Jk lo hi=>∃ t u v,h.get? a=some { cls:=.type "range",data:=.fields #[.int lo t,.int hi u,.int 1 v]}
 | .CF o u=>h.get? a=some o/\cY H h a u
 | .KZ qs=>∃ ps:Array Value,h.get? a=some { cls:=.none,data:=.fields ps}/\((qs.size=3/\(ps = #[]\/∃ c,ps = #[qs.getD 1 .none,qs.getD 2 .none,.ref c]/\H c=some (.own a)/\h.CodeRec (.ref c) (Jw qs)))\/∃ q l k,qs = #[q,l,k]++ps/\ps.size=3)
 | .met f x=>h.get? a=some (PySem.W.methodObj (.ref f) (.ref x))
 | .ext φ=>φ h/\(∃ o,h.get? a=some o)/\∀ h1 h2:Heap,φ h1->(∀ o,h1.get? a=some o->h2.get? a=some o)->φ h2
def sO(H:Hp)(h:Heap):Prop:=∀ a o,H a=some o->cY P w H h a o
end
section
variable {P:Program}{w:World}{H H' : Hp}{h h' : Heap}{a:Addr}{o:HO}
theorem cY.lt(x:cY P w H h a o):a<h.objs.size:=by
 cases o with
 | lst xs=>obtain⟨_,_,_,_,e⟩:=x;exact Heap.lt_size e
 | tup xs=>obtain⟨_,_,_,p⟩:=x;exact p.lt
 | dK kvs=>obtain⟨_,_,_,_,o,_,_,e,_⟩:=x;exact Heap.lt_size e
 | dT kvs=>obtain⟨_,_,_,_,o,_,_,e,_⟩:=x;exact Heap.lt_size e
 | set S n=>obtain⟨o,_,_,_,e,_⟩:=x;exact Heap.lt_size e
 | ins C dx fs=>obtain⟨_,_,_,e,_⟩:=x;exact Heap.lt_size e
 | own y=>obtain⟨_,e⟩:=x;exact Heap.lt_size e
 | xd fs=>obtain⟨_,⟨_,_,_,e,_⟩,_⟩:=x;exact Heap.lt_size e
 | Jk lo hi=>obtain⟨_,_,_,e⟩:=x;exact Heap.lt_size e
 | CF ob u=>obtain⟨e,_⟩:=x;exact Heap.lt_size e
 | KZ ps=>obtain⟨_,e,_⟩:=x;exact Heap.lt_size e
 | met f y=>exact Heap.lt_size (show h.get? a=some _ from x)
 | ext φ=>obtain⟨_,⟨_,e⟩,_⟩:=x;exact Heap.lt_size e
theorem Paired.LD{α β:Type}{F G:α->β->Prop}:∀{l₁:List α} {l₂:List β},Paired F l₁ l₂->(∀ a b,F a b->G a b)->Paired G l₁ l₂
 | _,_,.nil,_=>.nil
 | _,_,.cons r t,f=>.cons (f _ _ r) (Paired.LD t f)
theorem Paired.imp'{α β:Type}{F G:α->β->Prop}(f:∀ a b,F a b->G a b){l₁:List α}{l₂:List β}(r:Paired F l₁ l₂):Paired G l₁ l₂:=Paired.LD r f
theorem cY.stay(x:cY P w H h a o)(k:∀ b u,(b=a\/H b=some (.own a))->h.get? b=some u->h'.get? b=some u)
 (ho:∀ b,H b=some (.own a)->H' b=some (.own a)) (ht:∀ b xs,H b=some (.tup xs)->H' b=some (.tup xs)):cY P w H' h' a o:=by
 induction o with
 | lst xs=>obtain⟨z,its,n,r,e⟩:=x;exact⟨z,its,n,r,k _ _ (.inl rfl) e⟩
 | tup xs=>obtain⟨z,its,r,ob,e,c⟩:=x;exact⟨z,its,r,ob,k _ _ (.inl rfl) e,c⟩
 | dK kvs=>obtain⟨z,y,vs,r,ob,es,ep,e,c⟩:=x;exact⟨z,y,vs,r,ob,es,ep,k _ _ (.inl rfl) e,c⟩
 | dT kvs =>
   obtain⟨z,y,xs,r,ob,es,ep,e,c⟩:=x;exact⟨z,y,xs,Paired.LD r fun p q z=>⟨z.1,ht _ _ z.2.1,z.2.2⟩,ob,es,ep,k _ _ (.inl rfl) e,c⟩
 | set S n=>obtain⟨ob,es,ep,t,e,c⟩:=x;exact⟨ob,es,ep,t,k _ _ (.inl rfl) e,c⟩
 | ins C dx fs =>
   obtain⟨d,z,ne,e,mA,⟨od,es,ep,e2,c⟩,r⟩:=x;exact⟨ho _ d,z,ne,k _ _ (.inl rfl) e,mA,⟨od,es,ep,k _ _ (.inr d) e2,c⟩,r⟩
 | own y=>obtain⟨ob,e⟩:=x;exact⟨ob,k _ _ (.inl rfl) e⟩
 | xd fs=>obtain⟨mA,⟨od,es,ep,e,c⟩,r⟩:=x;exact⟨mA,⟨od,es,ep,k _ _ (.inl rfl) e,c⟩,r⟩
 | Jk lo hi=>obtain⟨t,u,v,e⟩:=x;exact⟨t,u,v,k _ _ (.inl rfl) e⟩
 | CF ob u ih=>obtain⟨e,q⟩:=x;exact⟨k _ _ (.inl rfl) e,ih q⟩
 | KZ qs =>
   obtain⟨ps,e,f⟩:=x;refine⟨ps,k _ _ (.inl rfl) e,?_⟩;rcases f with⟨hz,f|⟨c,e1,e2,c',oc,vs,tq,hc,ho',hd,hv⟩⟩|f
   ·exact .inl ⟨hz,.inl f⟩
   ·cases hc;exact .inl ⟨hz,.inr ⟨c,e1,ho _ e2,c,oc,vs,tq,rfl,k _ _ (.inr e2) ho',hd,hv⟩⟩
   ·exact .inr f
 | met f y =>
   have e:h.get? a=some (PySem.W.methodObj (.ref f) (.ref y)):=x;show h'.get? a=some (PySem.W.methodObj (.ref f) (.ref y));exact k a _ (.inl rfl) e
 | ext φ=>obtain⟨p,⟨o,e⟩,st⟩:=x;exact⟨st _ _ p fun o q=>k _ _ (.inl rfl) q,⟨o,k _ _ (.inl rfl) e⟩,st⟩
theorem sO.lt(x:sO P w H h)(e:H a=some o):a<h.objs.size:=(x a o e).lt
theorem sO.fresh(x:sO P w H h)(e:h.objs.size<=a):H a=none:=by
 cases q:H a with
 | none=>rfl
 | some u=>exact absurd (Nat.lt_of_lt_of_le (x.lt q) e) (Nat.lt_irrefl _)
theorem sO.kept(x:sO P w H h)(k:∀ b u,h.get? b=some u->h'.get? b=some u):sO P w H h':=fun a o e =>
 (x a o e).stay (fun b u _ q=>k b u q) (fun _ q=>q) fun _ _ q=>q
theorem sO.laid(x:sO P w H h)(k:∀ b u,h.get? b=some u->h'.get? b=some u)(hp:h.objs.size<=a)(new:cY P w (upd H a o) h' a o):sO P w (upd H a o) h':=fun b u e=>by
 have hn:=x.fresh hp
 by_cases hb:b=a
 ·subst hb;rw[aj]at e;cases e;exact new
 ·rw[aQ hb]at e;exact(x b u e).stay (fun c v _ q=>k c v q) (fun c q=>by rw[aQ (cC q hn)];exact q) fun c xs q=>by rw[aQ (cC q hn)];exact q
end
def Rd(H:Hp)(a:Addr)(u:HO):Prop:=H a=some u\/∃ o,H a=some (.CF o u)
theorem Rd.ok{P:Program}{w:World}{H:Hp}{h:Heap}{a:Addr}{u:HO}(r:Rd H a u)(x:sO P w H h):cY P w H h a u:=by
 rcases r with r|⟨o,r⟩
 ·exact x a u r
 ·obtain⟨_,q⟩:=x a _ r;exact q
def QH:Option HO->Prop
 | some (.lst _)=>True
 | some (.dK _)=>True
 | some (.dT _)=>True
 | some (.set _ _)=>True
 | some (.ins _ _ _)=>True
 | some (.ext _)=>True
 | _=>False
section
variable {P:Program}{w:World}{H:Hp}{h h' : Heap}{x e:Addr}{o' : HO}
theorem sO.write(ok:sO P w H h)(mu:QH (H x))(he:e=x\/H e=some (.own x))(k:∀ b u,b≠e->h.get? b=some u->h'.get? b=some u)(Nk:∃ u,h'.get? e=some u)
 (new:cY P w (upd H x o') h' x o'):sO P w (upd H x o') h':=fun b u q=>by
 have Ny:∀ c y,H c=some (.own y)->c≠x:=fun c y r z=>by subst z;rw[r]at mu;exact mu
 have Sn:∀ c xs,H c=some (.tup xs)->c≠x:=fun c xs r z=>by subst z;rw[r]at mu;exact mu
 by_cases hb:b=x
 ·subst hb;rw[aj]at q;cases q;exact new
 ·rw[aQ hb]at q
  by_cases LF:b=e
  ·have q' : H b=some (.own x):=by
    rcases he with z|z
    ·exact absurd (LF.trans z) hb
    ·rw[LF];exact z
   rw[q]at q';cases q';obtain⟨v,hv⟩:=Nk;exact⟨v,by rw[LF];exact hv⟩
  ·refine(ok b u q).stay (fun c v hc r=>k c v ?_ r) (fun c r=>by rw[aQ (Ny c b r)];exact r) fun c xs r=>by rw[aQ (Sn c xs r)];exact r
   rcases hc with rfl|hc
   ·exact LF
   ·rintro rfl;rcases he with z|z
    ·exact Ny c b hc z
    ·rw[hc]at z;cases z;exact hb rfl
end
structure Un(fs ex:List Addr)(H H' : Hp)(h h' : Heap):Prop where
 keep:∀ b o,h.get? b=some o->H b=none->b∉fs->b∉ex->h'.get? b=some o
 slot:∀ b o,h.get? b=some o->H b=none->b∈fs->b∉ex->∃ sl,h'.get? b=some { o with slots:=sl}
 free:∀ b o,h.get? b=some o->H b=none->b∉ex->H' b=none
 there:∀ b o,h.get? b=some o->b∉ex->∃ o',h'.get? b=some o'
 tups:∀ b xs,H b=some (.tup xs)->H' b=some (.tup xs)
 sP:∀ b o u,H b=some (.CF o u)->H' b=some (.CF o u)
 u4:∀ b ps,H b=some (.KZ ps)->∃ more,H' b=some (.KZ (ps++more))
section
variable {fs fs' ex ex' : List Addr}{H H1 H2:Hp}{h h1 h2 h' : Heap}{a x e:Addr}{o:HO}
theorem Un.any(u:Un fs ex H H1 h h1){b:Addr}{ob:Obj}(q:h.get? b=some ob)(n:H b=none)(hx:b∉ex):∃ sl,h1.get? b=some { ob with slots:=sl}:=by
 by_cases hb:b∈fs
 ·exact u.slot b ob q n hb hx
 ·exact⟨ob.slots,u.keep b ob q n hb hx⟩
theorem Un.kept(k:∀ b u,h.get? b=some u->h'.get? b=some u):Un fs ex H H h h' :=
 ⟨fun b ob q _ _ _=>k b ob q,fun b ob q _ _ _=>⟨ob.slots,k b ob q⟩,fun _ _ _ n _=>n,fun b ob q _=>⟨ob,k b ob q⟩,fun _ _ q=>q,fun _ _ _ q=>q,fun _ ps q=>⟨#[],by rw[q];simp⟩⟩
theorem Un.refl:Un fs ex H H h h:=Un.kept fun _ _ q=>q
theorem Un.laid(k:∀ b u,h.get? b=some u->h'.get? b=some u)(hp:h.objs.size<=a)(hn:H a=none):Un fs ex H (upd H a o) h h' where
 keep:=fun b u q _ _ _=>k b u q
 slot:=fun b u q _ _ _=>⟨u.slots,k b u q⟩
 free:=fun b u q n _=>by rw[aQ (Nat.ne_of_lt (Nat.lt_of_lt_of_le (Heap.lt_size q) hp))];exact n
 there:=fun b u q _=>⟨u,k b u q⟩
 tups:=fun b xs q=>by rw[aQ (cC q hn)];exact q
 sP:=fun b u xs q=>by rw[aQ (cC q hn)];exact q
 u4:=fun b ps q=>⟨#[],by rw[aQ (cC q hn),q];simp⟩
theorem Un.write(mu:QH (H x))(he:e=x\/H e=some (.own x))(k:∀ b u,b≠e->h.get? b=some u->h'.get? b=some u)(Nk:∃ u,h'.get? e=some u):Un fs ex H (upd H x o) h h':=by
 have hx:∀ b,H b=none->b≠x:=fun b n z=>by subst z;rw[n]at mu;exact mu
 have hb:∀ b,H b=none->b≠e:=fun b n z=>by
  subst z;rcases he with r|r
  ·exact hx b n r
  ·rw[n]at r;cases r
 have hm:∀ b u,H b=some u->¬ QH (some u)->b≠x:=fun b u q nm z=>by subst z;rw[q]at mu;exact nm mu
 refine⟨fun b u q n _ _=>k b u (hb b n) q,fun b u q n _ _=>⟨u.slots,k b u (hb b n) q⟩,fun b u q n _=>by rw[aQ (hx b n)];exact n,fun b u q _=>?_,
  fun b xs q=>by rw[aQ (hm b _ q fun z=>z)];exact q,fun b u xs q=>by rw[aQ (hm b _ q fun z=>z)];exact q,fun b ps q=>⟨#[],by rw[aQ (hm b _ q fun z=>z),q];simp⟩⟩
 by_cases LF:b=e
 ·subst LF;exact Nk
 ·exact⟨u,k b u LF q⟩
end
def Nl(h:Heap)(H:Hp):List Addr:=(List.range h.objs.size).filter fun a=>(H a).isSome
def zT(h:Heap)(H:Hp):Heap:=PySem.W.hideAll h (Nl h H)
theorem EN(h:Heap)(H:Hp):(zT h H).objs.size=h.objs.size:=PySem.W.hideAll_size _ _
theorem GD{h:Heap}{H:Hp}{b:Addr}{o:Obj}(e:h.get? b=some o)(n:H b=none):(zT h H).get? b=some o :=
 PySem.W.hideAll_get _ e fun hm=>by
  have q:(H b).isSome=true:=(List.mem_filter.mp hm).2;rw[n]at q;simp at q
theorem Jx{h:Heap}{H:Hp}{b:Addr}{o:Obj}(e:(zT h H).get? b=some o):h.get? b=some o/\H b=none:=by
 have e' : h.get? b=some o:=PySem.W.of_hideAll (Nl h H) e;refine⟨e',?_⟩;cases q:H b with
 | none=>rfl
 | some x =>
   have hm:b∈Nl h H:=List.mem_filter.mpr ⟨List.mem_range.mpr (Heap.lt_size e'),by simp[q]⟩
   have z:(zT h H).get? b=none:=PySem.W.hideAll_none (Nl h H) hm;rw[z]at e;cases e
structure Mod(K:bI)(mg:iI)(base:Heap):Prop where
 Nm:K.In base
 glob:base.Ns mainGlobals mg
 blt:∃ mb,base.Ns builtinsNs mb/\∀ x:Str,x≠"__name__"->mb x=bootBuiltins x
 nolimit:base.NoLimit
 bmain:∃ bm ob,mg "__builtins__"=some (.ref bm)/\bm≠builtinsNs/\base.get? bm=some ob/\ob.cls = .type "module"/\ob.dict=some builtinsNs/\ob.data = .plain
structure Cx where
 prog:Program
 w:World
 K:bI
 mg:Str->Option Value
 base:Heap
 A:Around
 N:List Str
 s₀:Shared
 H₀:Hp
 env:Env
 outer:List Env
 stack:List Env
 ex:List Addr
 fn:Str->Bool
 calm:Bool
 pn:bF
 xe:Value->Shared->Prop
def frs(l:List Env):List Addr:=l.filterMap (·.frame)
abbrev Cx.fs(X:Cx):List Addr:=frs X.outer
def QI(sc:Scope)(x:Str):Prop:=sc.names.lookup x=some .local\/sc.names.lookup x=some .cell\/sc.names.lookup x=some .free
def Loc(sc:Scope)(x:Str):Prop:=sc.names.lookup x=some .local\/sc.names.lookup x=some .cell
def Look(env:Env)(h:Heap)(m:iI)(x:Str)(u:Value):Prop :=
 (env.kindOf x=some .local/\m x=some u)\/((env.kindOf x=some .cell\/env.kindOf x=some .free)/\∃ c,env.cells.lookup x=some c/\h.IsCell c (some u))
structure Cx.Ok(X:Cx):Prop where
 mod:Mod X.K X.mg X.base
 kind:X.env.scope.kind = .function
 glob:X.env.globals=mainGlobals
 blt:X.env.builtins=builtinsNs
 above:X.s₀.heap.objs.size<=X.env.locals
 inj:∀ x y c,X.env.cells.lookup x=some c->X.env.cells.lookup y=some c->x=y
 has:∀ x,(X.env.kindOf x=some .cell\/X.env.kindOf x=some .free)->∃ c,X.env.cells.lookup x=some c
 Nn:∀ x c,X.fn x=true->X.env.cells.lookup x=some c->X.s₀.heap.objs.size<=c
 hd:X.calm=true->X.A.handled=none
 frames:X.A.frames=some X.stack
 Jl:X.stack=X.outer\/(X.stack=X.env::X.outer/\X.env.frame=some X.env.locals)
 So:∀ b∈X.ex,b≠X.env.locals/\∀ x c,X.env.cells.lookup x=some c->c≠b
 bs:∀ b o,X.base.get? b=some o->X.s₀.heap.get? b=some o/\X.H₀ b=none
 Jy:X.base.objs.size<=X.s₀.heap.objs.size
 EO:∀ b o,X.base.get? b=some o->b∉X.ex
 GF:∀ b∈X.ex,b∉X.fs
 funs:X.s₀.heap.FunFrames X.base X.outer
 Jz:∀ b∈X.fs,X.H₀ b=none
structure Inv(X:Cx)(pq:bF)(σ:List (Option V))(H:Hp)(s:Shared):Prop where
 ok:X.Ok
 os:s.os=X.s₀.os
 bare:AllBare s.gens
 base:Un X.fs X.ex X.H₀ H X.s₀.heap s.heap
 loc:∃ m,s.heap.Ns X.env.locals m/\∀(i:Nat) (x:Str) (v:V),X.N[i]?=some x->σ[i]?=some (some v)->QI X.env.scope x->∃ u,RelV v u/\Look X.env s.heap m x u
 cell:∀ x c,X.env.cells.lookup x=some c->∃ v,s.heap.IsCell c v
 free:H X.env.locals=none
 ku:∀ x c,X.env.cells.lookup x=some c->H c=none
 pin:∀ p∈X.pn++pq,s.heap.get? p.1=some p.2/\H p.1=none/\p.1≠X.env.locals/\p.1∉X.fs/\∀ v,p.2.data≠.cell v
 hok:sO X.prog X.w H s.heap
 len:σ.length=X.N.length
section
variable {X:Cx}{pq:bF}{σ:List (Option V)}{H H' : Hp}{s:Shared}{h' : Heap}
theorem Cx.Ok.Sq(ok:X.Ok){b:Addr}{o:Obj}(e:X.base.get? b=some o):b∉X.fs:=fun hb=>by
 have:=(ok.funs.mem hb).1;rw[e]at this;cases this
theorem Inv.bs(I:Inv X pq σ H s):∀ b o,X.base.get? b=some o->s.heap.get? b=some o/\H b=none:=fun b o e =>
 ⟨I.base.keep b o (I.ok.bs b o e).1 (I.ok.bs b o e).2 (I.ok.Sq e) (I.ok.EO b o e),I.base.free b o (I.ok.bs b o e).1 (I.ok.bs b o e).2 (I.ok.EO b o e)⟩
theorem Inv.bk(I:Inv X pq σ H s):∀ b o,X.base.get? b=some o->s.heap.get? b=some o:=fun b o e=>(I.bs b o e).1
theorem Inv.mod(I:Inv X pq σ H s):Mod X.K X.mg X.base:=I.ok.mod
theorem Inv.x8(I:Inv X pq σ H s):X.K.In s.heap:=I.ok.mod.Nm.keeps I.bk
theorem Inv.lt(I:Inv X pq σ H s):X.env.locals<s.heap.objs.size:=let⟨_,hn,_⟩:=I.loc;hn.lt
theorem Inv.sz(I:Inv X pq σ H s):X.s₀.heap.objs.size<=s.heap.objs.size:=Nat.le_trans I.ok.above (Nat.le_of_lt I.lt)
theorem Inv.Ss(I:Inv X pq σ H s){a:Addr}(h:s.heap.objs.size<=a):a∉X.fs:=fun hb=>by
 obtain⟨_,o,ho,_⟩:=I.ok.funs.mem hb;exact absurd (Nat.lt_of_lt_of_le (Heap.lt_size ho) (Nat.le_trans I.sz h)) (Nat.lt_irrefl _)
theorem Inv.JA(I:Inv X pq σ H s):∀ x c,X.env.cells.lookup x=some c->c≠X.env.locals:=fun x c e z=>by
 obtain⟨v,o,ho,hd⟩:=I.cell x c e;obtain⟨m,⟨o',es,ep,ho',hd',_⟩,_⟩:=I.loc;rw[z,ho']at ho;cases ho;rw[hd']at hd;cases hd
theorem Inv.funs(I:Inv X pq σ H s):s.heap.FunFrames X.base X.outer:=by
 have all:∀(l:List Env),(∀ b∈frs l,b∈X.fs)->X.s₀.heap.FunFrames X.base l->s.heap.FunFrames X.base l:=by
  intro l
  induction l with
  | nil=>intro _ _;trivial
  | cons env r ih =>
    intro hs hl;obtain⟨hk,⟨L,o,hf,hn,ho,hd⟩,hr⟩:=hl;have hL:L∈X.fs:=hs L (by unfold frs;rw[List.filterMap_cons,hf];exact List.mem_cons_self)
    obtain⟨sl,e⟩:=I.base.slot L o ho (I.ok.Jz L hL) hL fun z=>I.ok.GF L z hL
    exact⟨hk,⟨L,_,hf,hn,e,hd⟩,ih (fun b hb=>hs b (by unfold frs;rw[List.filterMap_cons,hf];exact CB _ hb)) hr⟩
 exact all X.outer (fun _ hb=>hb) I.ok.funs
theorem Inv.stack(I:Inv X pq σ H s):s.heap.FunFrames X.base X.stack:=by
 rcases I.ok.Jl with e|⟨e,hf⟩
 ·rw[e];exact I.funs
 ·rw[e];obtain⟨m,hn,_⟩:=I.loc;refine .cons (by rw[I.ok.kind];decide) hf hn ?_ I.funs
  exact Heap.get?_none_of_le (Nat.le_trans I.ok.Jy I.ok.above)
theorem Inv.vy(I:Inv X pq σ H s):∀ b∈frs X.stack,b∈X.env.locals::X.fs:=fun b hb=>by
 rcases I.ok.Jl with e|⟨e,hf⟩
 ·rw[e]at hb;exact CB _ hb
 ·rw[e]at hb;unfold frs at hb;rw[List.filterMap_cons,hf]at hb;exact hb
theorem Inv.zU(I:Inv X pq σ H s):∀ b∈frs X.stack,H b=none:=fun b hb=>by
 rcases List.mem_cons.mp (I.vy b hb) with e|hb
 ·rw[e];exact I.free
 ·obtain⟨_,o,ho,_⟩:=I.ok.funs.mem hb;exact I.base.free b o ho (I.ok.Jz b hb) fun z=>I.ok.GF b z hb
theorem Inv.step{g' : Array GenState}{t' : Nat}{d' : Drawn}{ch:List Addr}(I:Inv X pq σ H s)
 (hch:∀ b∈ch,(b∈X.ex\/X.s₀.heap.objs.size<=b)/\b≠X.env.locals/\(∀ x c,X.env.cells.lookup x=some c->c≠b)/\∀ p∈X.pn++pq,p.1≠b)
 (keep:∀ b o,b≠X.env.locals->b∉X.fs->b∉ch->s.heap.get? b=some o->H b=none->h'.get? b=some o)
 (slot:∀ b o,b≠X.env.locals->b∈X.fs->b∉ch->s.heap.get? b=some o->H b=none->∃ sl,h'.get? b=some { o with slots:=sl}) (free:∀ b o,b∉ch->s.heap.get? b=some o->H b=none->H' b=none)
 (there:∀ b o,b∉ch->s.heap.get? b=some o->∃ o',h'.get? b=some o')
 (tups:∀ b xs,H b=some (.tup xs)->H' b=some (.tup xs)) (sP:∀ b o u,H b=some (.CF o u)->H' b=some (.CF o u)) (u4:∀ b ps,H b=some (.KZ ps)->∃ more,H' b=some (.KZ (ps++more)))
 (ns:∀ m,s.heap.Ns X.env.locals m->h'.Ns X.env.locals m) (hok:sO X.prog X.w H' h') (hg:AllBare g') :
 Inv X pq σ H' { s with heap:=h',gens:=g',drawn:=d',toks:=t'}:=by
 have neL:∀ b o,X.s₀.heap.get? b=some o->b≠X.env.locals:=fun b o e=>Nat.ne_of_lt (Nat.lt_of_lt_of_le (Heap.lt_size e) I.ok.above)
 have QJ:∀ b o,X.s₀.heap.get? b=some o->b∉X.ex->b∉ch:=fun b o e hx hb=>by
  rcases(hch b hb).1 with z|z
  ·exact hx z
  ·exact absurd (Nat.lt_of_lt_of_le (Heap.lt_size e) z) (Nat.lt_irrefl _)
 have cellK:∀ x c,X.env.cells.lookup x=some c->∀ v,s.heap.IsCell c v->h'.IsCell c v:=fun x c e v ⟨o,ho,hd⟩=>by
  have Nz:c∉ch:=fun z=>(hch c z).2.2.1 x c e rfl
  by_cases hc:c∈X.fs
  ·obtain⟨sl,q⟩:=slot c o (I.JA x c e) hc Nz ho (I.ku x c e);exact⟨_,q,hd⟩
  ·exact⟨o,keep c o (I.JA x c e) hc Nz ho (I.ku x c e),hd⟩
 refine⟨I.ok,I.os,hg,⟨fun b o e n hb hx=>?_,fun b o e n hb hx=>?_,fun b o e n hx=>?_,fun b o e hx=>?_,fun b xs e=>tups b xs (I.base.tups b xs e),fun b o xs e=>sP b o xs (I.base.sP b o xs e),fun b ps e=>?_⟩,?_,fun x c e=>?_,?_,fun x c e=>?_,fun p hp=>?_,hok,I.len⟩
 ·exact keep b o (neL b o e) hb (QJ b o e hx) (I.base.keep b o e n hb hx) (I.base.free b o e n hx)
 ·obtain⟨sl,e1⟩:=I.base.slot b o e n hb hx;obtain⟨QK,e2⟩:=slot b _ (neL b o e) hb (QJ b o e hx) e1 (I.base.free b o e n hx);exact⟨QK,e2⟩
 ·obtain⟨o',e1⟩:=I.base.there b o e hx;exact free b o' (QJ b o e hx) e1 (I.base.free b o e n hx)
 ·obtain⟨o',e1⟩:=I.base.there b o e hx;exact there b o' (QJ b o e hx) e1
 ·obtain⟨m1,e1⟩:=I.base.u4 b ps e;obtain⟨m2,e2⟩:=u4 b _ e1;exact⟨m1++m2,by rw[e2,Array.append_assoc]⟩
 ·obtain⟨m,hn,hl⟩:=I.loc;refine⟨m,ns m hn,fun i x v e1 e2 e3=>?_⟩
  obtain⟨u,r,l⟩:=hl i x v e1 e2 e3;refine⟨u,r,?_⟩;rcases l with l|⟨k,c,e,z⟩
  ·exact .inl l
  ·exact .inr ⟨k,c,e,cellK x c e _ z⟩
 ·obtain⟨v,z⟩:=I.cell x c e;exact⟨v,cellK x c e v z⟩
 ·obtain⟨m,⟨o,_,_,ho,_⟩,_⟩:=I.loc;exact free _ o (fun z=>(hch _ z).2.1 rfl) ho I.free
 ·obtain⟨v,o,ho,hd⟩:=I.cell x c e;exact free c o (fun z=>(hch c z).2.2.1 x c e rfl) ho (I.ku x c e)
 ·obtain⟨e,n,ne,nf,d⟩:=I.pin p hp;have Nz:p.1∉ch:=fun z=>(hch p.1 z).2.2.2 p hp rfl
  exact⟨keep p.1 p.2 ne nf Nz e n,free p.1 p.2 Nz e n,ne,nf,d⟩
theorem Inv.un{t' : Nat}(I:Inv X pq σ H s)(u:Un X.fs [] H H' s.heap h')(hok:sO X.prog X.w H' h'):Inv X pq σ H' { s with heap:=h',toks:=t'}:=by
 obtain⟨m,⟨o,es,ep,ho,r⟩,_⟩:=id I.loc;obtain⟨sl,hL⟩:=u.any ho I.free (by simp)
 exact I.step (g':=s.gens) (d':=s.drawn) (ch:=[]) (fun _ z=>nomatch z) (fun b o _ hb _ e n=>u.keep b o e n hb (by simp)) (fun b o _ hb _ e n=>u.slot b o e n hb (by simp)) (fun b o _ e n=>u.free b o e n (by simp)) (fun b o _ e=>u.there b o e (by simp)) u.tups u.sP u.u4 (fun m' hm=>by
  obtain⟨o',es',Su,ho',r'⟩:=hm;rw[ho]at ho';cases ho';exact⟨_,es',Su,hL,r'⟩) hok I.bare
theorem Inv.call{g' : Array GenState}{t' : Nat}{d' : Drawn}{ch:List Addr}(I:Inv X pq σ H s)(u:Un (frs X.stack) ch H H' s.heap h')(hok:sO X.prog X.w H' h')(hg:AllBare g')
 (hch:∀ b∈ch,(b∈X.ex\/X.s₀.heap.objs.size<=b)/\b≠X.env.locals/\(∀ x c,X.env.cells.lookup x=some c->c≠b)/\∀ p∈X.pn++pq,p.1≠b) :
 Inv X pq σ H' { s with heap:=h',gens:=g',drawn:=d',toks:=t'}:=by
 obtain⟨m,⟨o,es,ep,ho,r⟩,_⟩:=id I.loc;obtain⟨sl,hL⟩:=u.any ho I.free fun z=>(hch _ z).2.1 rfl
 exact I.step (ch:=ch) hch (fun b o hL hb hc e n=>u.keep b o e n (fun z=>(List.mem_cons.mp (I.vy b z)).elim hL hb) hc) (fun b o _ _ hc e n=>u.any e n hc) (fun b o hc e n=>u.free b o e n hc) (fun b o hc e=>u.there b o e hc) u.tups u.sP u.u4 (fun m' hm=>by
  obtain⟨o',es',Su,ho',r'⟩:=hm;rw[ho]at ho';cases ho';exact⟨_,es',Su,hL,r'⟩) hok hg
theorem Inv.turned{t' : Nat}{it:Addr}(I:Inv X pq σ H s)(k:∀ b o,b≠it->s.heap.get? b=some o->h'.get? b=some o)(hn:H it=none)(hL:it≠X.env.locals)
 (h1:it∈X.ex\/X.s₀.heap.objs.size<=it) (h2:∀ x c,X.env.cells.lookup x=some c->c≠it) (h3:∀ p∈X.pn++pq,p.1≠it):Inv X pq σ H { s with heap:=h',toks:=t'}:=by
 have nit:∀ b u,H b=some u->b≠it:=fun b u e z=>by rw[z,hn]at e;cases e
 refine I.step (g':=s.gens) (d':=s.drawn) (ch:=[it]) (fun b hb=>?_) (fun b o _ _ hc e _=>k b o (fun z=>hc (by simp[z])) e) (fun b o _ _ hc e _=>⟨o.slots,k b o (fun z=>hc (by simp[z])) e⟩) (fun _ _ _ _ n=>n)
  (fun b o hc e=>⟨o,k b o (fun z=>hc (by simp[z])) e⟩) (fun _ _ e=>e) (fun _ _ _ e=>e) (fun b ps e=>⟨#[],by rw[e];simp⟩) (fun m hm=>?_) (fun b u e=>?_) I.bare
 ·have e:b=it:=by simpa using hb
  subst e;exact⟨h1,hL,h2,h3⟩
 ·obtain⟨o,es,ep,ho,r⟩:=hm;exact⟨o,es,ep,k _ o (Ne.symm hL) ho,r⟩
 ·refine(I.hok b u e).stay (fun c v hc q=>k c v ?_ q) (fun _ q=>q) fun _ _ q=>q
  rcases hc with z|z
  ·rw[z];exact nit b u e
  ·exact nit c _ z
theorem Inv.tok(I:Inv X pq σ H s)(t:Nat):Inv X pq σ H { s with toks:=t}:=I.un (h':=s.heap) (t':=t) Un.refl I.hok
theorem Inv.kept{t' : Nat}(I:Inv X pq σ H s)(k:∀ b u,s.heap.get? b=some u->h'.get? b=some u):Inv X pq σ H { s with heap:=h',toks:=t'}:=I.un (Un.kept k) (I.hok.kept k)
theorem Inv.laid{a:Addr}{o:HO}{t' : Nat}(I:Inv X pq σ H s)(k:∀ b u,s.heap.get? b=some u->h'.get? b=some u)(hp:s.heap.objs.size<=a)(new:cY X.prog X.w (upd H a o) h' a o):
 Inv X pq σ (upd H a o) { s with heap:=h',toks:=t'}:=I.un (Un.laid k hp (I.hok.fresh hp)) (I.hok.laid k hp new)
theorem Inv.write{x e:Addr}{o:HO}{t' : Nat}(I:Inv X pq σ H s)(mu:QH (H x))(he:e=x\/H e=some (.own x))(k:∀ b u,b≠e->s.heap.get? b=some u->h'.get? b=some u)(Nk:∃ u,h'.get? e=some u)
 (new:cY X.prog X.w (upd H x o) h' x o):Inv X pq σ (upd H x o) { s with heap:=h',toks:=t'}:=I.un (Un.write mu he k Nk) (I.hok.write mu he k Nk new)
theorem Inv.weak{σ' : List (Option V)}(I:Inv X pq σ H s)(hl:σ'.length=σ.length)(w:∀(i:Nat) v,σ'[i]?=some (some v)->σ[i]?=some (some v)):Inv X pq σ' H s :=
 ⟨I.ok,I.os,I.bare,I.base,let⟨m,hn,hl'⟩:=I.loc;⟨m,hn,fun i x v e1 e2 e3=>hl' i x v e1 (w i v e2) e3⟩,I.cell,I.free,I.ku,I.pin,I.hok,hl.trans I.len⟩
theorem Inv.vc{vd:bF}(I:Inv X pq σ H s)(h:∀ p∈vd,s.heap.get? p.1=some p.2/\H p.1=none/\p.1≠X.env.locals/\p.1∉X.fs/\∀ v,p.2.data≠.cell v):Inv X vd σ H s :=
 ⟨I.ok,I.os,I.bare,I.base,I.loc,I.cell,I.free,I.ku,fun p hp=>(List.mem_append.mp hp).elim (fun z=>I.pin p (Ni _ z)) (h p),I.hok,I.len⟩
theorem vz{N:List Str}(hN:N.Nodup){i j:Nat}{x:Str}(a:N[i]?=some x)(b:N[j]?=some x):i=j:=by
 obtain⟨h1,e1⟩:=xZ.mp a;obtain⟨h2,e2⟩:=xZ.mp b;exact(List.getElem_inj hN).mp (e1.trans e2.symm)
theorem ER{M:Model}{A:Around}{E:gj}{i:Nat}{x:Str}{v:V}{u:Value}{Q:Unit->Shared->Prop}(I:Inv X pq σ H s)(hN:X.N.Nodup)(hi:X.N[i]?=some x)(hx:Loc X.env.scope x)(r:RelV v u)
 (h:∀ s',Inv X pq (σ.set i (some v)) H s'->(∃ a,Heap.SameBut a s.heap s'.heap/\(a=X.env.locals\/X.env.cells.lookup x=some a))->Q () s') (hf:X.fn x=true\/X.env.scope.names.lookup x=some .local:=by first | exact .inl rfl | exact .inr rfl | assumption):wpAny M A (storeName X.env x u) Q E s:=by
 obtain⟨m,hn,hl⟩:=id I.loc;have hcls:(X.env.scope.kind == .class || (X.env.scope.kind == .module&&X.env.locals != X.env.globals))=false:=by rw[I.ok.kind];rfl
 have hiσ:i<σ.length:=by rw[I.len];exact(xZ.mp hi).1
 have JA:=I.JA;have tracked:∀{a:Addr} {h' : Heap},(∃ o,s.heap.get? a=some o/\H a=none)->Heap.SameBut a s.heap h'->sO X.prog X.w H h':=fun {a h'} ha hs b ob e=>by
  obtain⟨_,_,hfree⟩:=ha;refine(I.hok b ob e).stay (fun c w' hc q=>(hs.2 c ?_).trans q) (fun _ q=>q) fun _ _ q=>q
  rintro rfl;rcases hc with rfl|hc
  ·rw[hfree]at e;cases e
  ·rw[hfree]at hc;cases hc
 rcases hx with hk|hk
 ·refine wpAny_storeName_local hk hn (fun h' hn' hs=>?_) hcls
  obtain⟨oL,_,_,NB,_⟩:=id hn;refine h _ ⟨I.ok,I.os,I.bare,⟨fun b o e n hb hx=>?_,fun b o e n hb hx=>?_,I.base.free,fun b o e hx=>?_,I.base.tups,I.base.sP,I.base.u4⟩,⟨_,hn',fun j y v' e1 e2 e3=>?_⟩,fun y c e=>?_,I.free,I.ku,fun p hp=>?_,tracked ⟨oL,NB,I.free⟩ hs,by simpa using I.len⟩ ⟨_,hs,.inl rfl⟩
  ·exact(hs.2 b (Nat.ne_of_lt (Nat.lt_of_lt_of_le (Heap.lt_size e) I.ok.above))).trans (I.base.keep b o e n hb hx)
  ·obtain⟨sl,e1⟩:=I.base.slot b o e n hb hx;exact⟨sl,(hs.2 b (Nat.ne_of_lt (Nat.lt_of_lt_of_le (Heap.lt_size e) I.ok.above))).trans e1⟩
  ·obtain⟨o',e1⟩:=I.base.there b o e hx;exact⟨o',(hs.2 b (Nat.ne_of_lt (Nat.lt_of_lt_of_le (Heap.lt_size e) I.ok.above))).trans e1⟩
  ·by_cases hj:j=i
   ·subst hj;rw[hi]at e1;cases e1;rw[List.getElem?_set_self hiσ]at e2;cases e2;exact⟨u,r,.inl ⟨hk,by simp⟩⟩
   ·rw[List.getElem?_set_ne (Ne.symm hj)]at e2;obtain⟨u',r',q⟩:=hl j y v' e1 e2 e3;refine⟨u',r',?_⟩;rcases q with⟨k,e⟩|⟨k,c,e,z⟩
    ·refine .inl ⟨k,?_⟩;have:y≠x:=fun e=>hj (vz hN e1 (e▸hi))
     simp[this,e]
    ·exact .inr ⟨k,c,e,z.sameBut hs (JA y c e)⟩
  ·obtain⟨w',z⟩:=I.cell y c e;exact⟨w',z.sameBut hs (JA y c e)⟩
  ·obtain⟨e,n,ne,nf,d⟩:=I.pin p hp;exact⟨(hs.2 p.1 ne).trans e,n,ne,nf,d⟩
 ·have hfn:X.fn x=true:=by
   rcases hf with z|z
   ·exact z
   ·rw[z]at hk;cases hk
  obtain⟨c,hc⟩:=I.ok.has x (.inl hk);obtain⟨w',z⟩:=I.cell x c hc;refine wpAny_storeName_cell I.ok.kind hk hc z (fun h' hc' hs=>?_)
  obtain⟨oc,hoc,Sv⟩:=id z;refine h { s with heap:=h'} ⟨I.ok,I.os,I.bare,⟨fun b o e n hb hx=>?_,fun b o e n hb hx=>?_,I.base.free,fun b o e hx=>?_,I.base.tups,I.base.sP,I.base.u4⟩,⟨m,hn.sameBut hs (Ne.symm (JA x c hc)),fun j y v' e1 e2 e3=>?_⟩,fun y c' e=>?_,I.free,I.ku,fun p hp=>?_,tracked ⟨oc,hoc,I.ku x c hc⟩ hs,by simpa using I.len⟩ ⟨c,hs,.inr hc⟩
  ·exact(hs.2 b (Nat.ne_of_lt (Nat.lt_of_lt_of_le (Heap.lt_size e) (I.ok.Nn x c hfn hc)))).trans (I.base.keep b o e n hb hx)
  ·obtain⟨sl,e1⟩:=I.base.slot b o e n hb hx;exact⟨sl,(hs.2 b (Nat.ne_of_lt (Nat.lt_of_lt_of_le (Heap.lt_size e) (I.ok.Nn x c hfn hc)))).trans e1⟩
  ·obtain⟨o',e1⟩:=I.base.there b o e hx;exact⟨o',(hs.2 b (Nat.ne_of_lt (Nat.lt_of_lt_of_le (Heap.lt_size e) (I.ok.Nn x c hfn hc)))).trans e1⟩
  ·by_cases hj:j=i
   ·subst hj;rw[hi]at e1;cases e1;rw[List.getElem?_set_self hiσ]at e2;cases e2;exact⟨u,r,.inr ⟨.inl hk,c,hc,hc'⟩⟩
   ·rw[List.getElem?_set_ne (Ne.symm hj)]at e2;obtain⟨u',r',q⟩:=hl j y v' e1 e2 e3;refine⟨u',r',?_⟩;rcases q with q|⟨k,c',e,z'⟩
    ·exact .inl q
    ·refine .inr ⟨k,c',e,z'.sameBut hs ?_⟩;rintro rfl;exact hj (vz hN e1 (I.ok.inj _ _ _ e hc▸hi))
  ·by_cases hcc:c' = c
   ·subst hcc;exact⟨_,hc'⟩
   ·obtain⟨w2,z2⟩:=I.cell y c' e;exact⟨w2,z2.sameBut hs hcc⟩
  ·obtain⟨e,n,ne,nf,d⟩:=I.pin p hp;refine⟨(hs.2 p.1 ?_).trans e,n,ne,nf,d⟩;intro q;rw[q,hoc]at e;have q' : oc=p.2:=Option.some.inj e;exact d w' (by rw[<-q'];exact Sv)
theorem nD{M:Model}{A:Around}{E:gj}{i:Nat}{x:Str}{v:V}{u:Value}{Q:Unit->Shared->Prop}(I:Inv X pq σ H s)(hN:X.N.Nodup)(hi:X.N[i]?=some x)(hx:Loc X.env.scope x)(r:RelV v u)
 (h:∀ s',Inv X pq (σ.set i (some v)) H s'->Q () s') (hf:X.fn x=true\/X.env.scope.names.lookup x=some .local:=by first | exact .inl rfl | exact .inr rfl | assumption):wpAny M A (storeName X.env x u) Q E s :=
 ER I hN hi hx r (fun s' I' _=>h s' I') hf
theorem Inv.K1{s' : Shared}{ch:List Addr}(I:Inv X pq σ H s)(ho:s'.os=s.os)(u:Un (frs X.stack) ch H H' s.heap s'.heap)(hok:sO X.prog X.w H' s'.heap)(hg:AllBare s'.gens)
 (hch:∀ b∈ch,(b∈X.ex\/X.s₀.heap.objs.size<=b)/\b≠X.env.locals/\(∀ x c,X.env.cells.lookup x=some c->c≠b)/\∀ p∈X.pn++pq,p.1≠b):Inv X pq σ H' s':=by
 obtain⟨h',g',d',t',o'⟩:=s';have e:o' = s.os:=ho;subst e;exact I.call (g':=g') (t':=t') (d':=d') u hok hg hch
end
abbrev XK:=Value->Option Addr->Hp->Prop
abbrev St:=List (Option V)
abbrev VK:=V->Hp->Prop
abbrev TE:=St->Hp->VK->Prop
abbrev TT:=St->Hp->(Bool->Hp->Prop)->Prop
abbrev TA:=St->Hp->(List V->Hp->Prop)->Prop
structure Ends where
 nx:St->Hp->Prop
 rt:VK
 bk:St->Hp->Prop:=fun _ _=>False
 ct:St->Hp->Prop:=fun _ _=>False
abbrev TS:=Ends->St->Hp->Prop
def EP(X:Cx)(pq:bF)(σ:St)(Q:VK)(u:Value)(s' : Shared):Prop:=∃ v H',Inv X pq σ H' s'/\RelV v u/\Q v H'
def TP(X:Cx)(pq:bF)(σ:St)(Q:Bool->Hp->Prop)(b:Bool)(s' : Shared):Prop:=∃ H',Inv X pq σ H' s'/\Q b H'
def AP(X:Cx)(pq:bF)(σ:St)(Q:List V->Hp->Prop)(us:List Value)(s' : Shared):Prop:=∃ vs H',Inv X pq σ H' s'/\Vals vs us/\Q vs H'
def SP(X:Cx)(pq:bF)(D:Ends)(f:Flow)(s' : Shared):Prop :=
 match f with
 | .next=>∃ σ' H',Inv X pq σ' H' s'/\D.nx σ' H'
 | .brk=>∃ σ' H',Inv X pq σ' H' s'/\D.bk σ' H'
 | .cont=>∃ σ' H',Inv X pq σ' H' s'/\D.ct σ' H'
 | .ret u=>∃ v σ' H',Inv X pq σ' H' s'/\RelV v u/\D.rt v H'
def PE(X:Cx)(e:Expr)(t:TE):Prop :=
 ∀(pq:bF) (s:Shared) (σ:St) (H:Hp) (Q:VK),Inv X pq σ H s->t σ H Q->wpAny (model X.prog X.w) X.A (eval e X.env) (EP X pq σ Q) X.xe s
def PT(X:Cx)(e:Expr)(t:TT):Prop :=
 ∀(pq:bF) (s:Shared) (σ:St) (H:Hp) (Q:Bool->Hp->Prop),Inv X pq σ H s->t σ H Q->wpAny (model X.prog X.w) X.A (isTrue e X.env (eval e X.env)) (TP X pq σ Q) X.xe s
def PW(X:Cx)(e:Expr)(t:TT):Prop :=
 ∀(whole:Sem Value) (pq:bF) (s:Shared) (σ:St) (H:Hp) (Q:Bool->Hp->Prop),Inv X pq σ H s->t σ H Q->wpAny (model X.prog X.w) X.A (isTrue e X.env whole) (TP X pq σ Q) X.xe s
theorem PW.pt{X:Cx}{e:Expr}{t:TT}(h:PW X e t):PT X e t:=h _
def PA(X:Cx)(es:List Expr)(t:TA):Prop :=
 ∀(pos:Pos) (pq:bF) (s:Shared) (σ:St) (H:Hp) (Q:List V->Hp->Prop),Inv X pq σ H s->t σ H Q->wpAny (model X.prog X.w) X.A (spliced (backTo pos (starEach es X.env))) (AP X pq σ Q) X.xe s
def PS(X:Cx)(st:Stmt)(t:TS):Prop :=
 ∀(pq:bF) (s:Shared) (σ:St) (H:Hp) (D:Ends),Inv X pq σ H s->t D σ H->wpAny (model X.prog X.w) X.A (exec st X.env) (SP X pq D) X.xe s
def x6(X:Cx)(st:List Stmt)(t:TS):Prop :=
 ∀(pq:bF) (s:Shared) (σ:St) (H:Hp) (D:Ends),Inv X pq σ H s->t D σ H->wpAny (model X.prog X.w) X.A (execs st X.env) (SP X pq D) X.xe s
theorem fP{α:Type}{t:Sem α}{Q Q' : α->Shared->Prop}{M:Model}{A:Around}{E:gj}{s:Shared}(h:wpAny M A t Q E s)(hQ:∀ a s,Q a s->Q' a s):wpAny M A t Q' E s:=wpAny_mono h hQ fun _ _ x=>x
section
variable {X:Cx}
def Be(i:Nat):TE:=fun σ H Q=>∃ v,σ[i]?=some (some v)/\Q v H
def tC(v:V):TE:=fun _ H Q=>Q v H
theorem LG{i:Nat}{x:Str}{pos:Pos}(hN:X.N[i]?=some x)(hv:QI X.env.scope x)(hd:(x==("__debug__":Str))=false:=by decide)(hcd:(x==("__classdict__":Str))=false:=by decide):PE X (.Name x pos) (Be i):=by
 intro pq s σ H Q I h;obtain⟨v,e,h⟩:=h;obtain⟨m,hn,hl⟩:=I.loc;obtain⟨u,r,l⟩:=hl i x v hN e hv;have fin:EP X pq σ Q u s:=⟨v,H,I,r,h⟩;rcases l with⟨hk,hm⟩|⟨hk,c,hc,hcell⟩
 ·exact wpAny_Name (wpAny_loadName_local I.ok.kind hk hn hm fin) hd
 ·rcases hk with hk|hk
  ·exact wpAny_Name (wpAny_loadName_cell I.ok.kind hk hc hcell fin) hd
  ·exact wpAny_Name (wpAny_loadName_free I.ok.kind hk hc hcell fin hcd) hd
theorem ae{i j pos}:PE X (.Constant (.int i) j pos) (tC (.int i)):=fun _ _ _ H _ I h=>wpAny_Constant_int ⟨.int i,H,I.tok _,⟨_,rfl⟩,h⟩
theorem gE{b j pos}:PE X (.Constant (.bool b) j pos) (tC (.bl b)):=fun _ _ _ H _ I h=>Constant_bool ⟨.bl b,H,I,rfl,h⟩
theorem cu{j pos}:PE X (.Constant .none j pos) (tC .eS):=fun _ _ _ H _ I h=>Constant_none ⟨.eS,H,I,rfl,h⟩
theorem ie{x j pos}:PE X (.Constant (.str x) j pos) (tC (.str x)):=fun _ _ _ H _ I h=>Calls.Constant_str ⟨.str x,H,I.tok _,⟨_,rfl⟩,h⟩
def Gl(X:Cx)(x:Str):Prop:=X.env.kindOf x=some .globalImplicit
theorem qK{E:gj}{pq:bF}{s:Shared}{σ:St}{H:Hp}{x:Str}{u:Value}{pos:Pos}{Q:gj}(I:Inv X pq σ H s)(hg:Gl X x)(hm:X.mg x=some u)(h:Q u s)
 (hd:(x==("__debug__":Str))=false:=by decide):wpAny (model X.prog X.w) X.A (eval (.Name x pos) X.env) Q E s :=
 Calls.Name_function_global I.ok.kind hg (Calls.loadGlobal_global (by rw[I.ok.glob];exact I.mod.glob.keeps I.bk) hm h) hd
theorem lX{E:gj}{pq:bF}{s:Shared}{σ:St}{H:Hp}{x:Str}{u:Value}{pos:Pos}{Q:gj}(I:Inv X pq σ H s)(hg:Gl X x)(hm:X.mg x=none)(hv:bootBuiltins x=some u)(h:Q u s)
 (hn:x≠"__name__":=by decide) (hd:(x==("__debug__":Str))=false:=by decide):wpAny (model X.prog X.w) X.A (eval (.Name x pos) X.env) Q E s:=by
 obtain⟨mb,h1,h2⟩:=I.mod.blt;exact Calls.Name_function_global I.ok.kind hg (Calls.loadGlobal_builtin (by rw[I.ok.glob];exact I.mod.glob.keeps I.bk) hm (by rw[I.ok.blt];exact h1.keeps I.bk) ((h2 x hn).trans hv) h) hd
theorem JB{x:Str}{v:V}{u:Value}{pos:Pos}(hg:Gl X x)(hm:X.mg x=some u)(r:RelV v u)(hd:(x==("__debug__":Str))=false:=by decide):PE X (.Name x pos) (tC v) :=
 fun _ _ _ H _ I h=>qK I hg hm ⟨v,H,I,r,h⟩ hd
theorem JC{x:Str}{v:V}{u:Value}{pos:Pos}(hg:Gl X x)(hm:X.mg x=none)(hv:bootBuiltins x=some u)(r:RelV v u)(hn:x≠"__name__":=by decide)(hd:(x==("__debug__":Str))=false:=by decide):PE X (.Name x pos) (tC v) :=
 fun _ _ _ H _ I h=>lX I hg hm hv ⟨v,H,I,r,h⟩ hn hd
variable {a b:Expr}{ta tb:TE}{pos:Pos}
def tB(t:TE):TT:=fun σ H Q=>t σ H fun x H1=>∃ c,x = .bl c/\Q c H1
theorem gk{e:Expr}{t:TE}(h:PE X e t)(he:∀ whole,isTrue e X.env whole=(do let v←whole;standAt e.pos;holding [v] (truthy v)):=by intro _;rfl):PT X e (tB t):=by
 intro pq s σ H Q I hw;refine isTrue_plain (fP (h pq s σ H _ I hw) fun v s1 ⟨x,H1,I1,r1,q1⟩=>?_) (he _)
 obtain⟨d,rfl,q⟩:=q1;cases r1;exact wpAny_truthy_bool ⟨H1,I1,q⟩
variable {tA QL:TT}{rest:List Expr}
def Sw(t u:TT):TT:=fun σ H Q=>t σ H fun c H1=>if c=true then u σ H1 Q else Q false H1
def tOr(t u:TT):TT:=fun σ H Q=>t σ H fun c H1=>if c=true then Q true H1 else u σ H1 Q
def Sx(t:TT):TT:=fun σ H Q=>t σ H fun c H1=>Q (!c) H1
theorem ve(ha:PT X a tA):PW X (.BoolOp .And [a] pos) tA:=by
 intro wh pq s σ H Q I h;refine isTrue_and (fP (ha pq s σ H Q I h) fun c s1 e=>?_)
 cases c with
 | true=>exact isTrue_and_nil e
 | false=>exact e
theorem jc(ha:PT X a tA):PW X (.BoolOp .Or [a] pos) tA:=by
 intro wh pq s σ H Q I h;refine isTrue_or (fP (ha pq s σ H Q I h) fun c s1 e=>?_)
 cases c with
 | false=>exact isTrue_or_nil e
 | true=>exact e
theorem zV(ha:PT X a tA)(hb:PW X (.BoolOp .And (b::rest) pos) QL):PW X (.BoolOp .And (a::b::rest) pos) (Sw tA QL):=by
 intro wh pq s σ H Q I h;refine isTrue_and (fP (ha pq s σ H _ I h) fun c s1 ⟨H1,I1,q1⟩=>?_)
 cases c with
 | true=>exact hb wh pq s1 σ H1 Q I1 q1
 | false=>exact⟨H1,I1,q1⟩
theorem mY(ha:PT X a tA)(hb:PW X (.BoolOp .Or (b::rest) pos) QL):PW X (.BoolOp .Or (a::b::rest) pos) (tOr tA QL):=by
 intro wh pq s σ H Q I h;refine isTrue_or (fP (ha pq s σ H _ I h) fun c s1 ⟨H1,I1,q1⟩=>?_)
 cases c with
 | true=>exact⟨H1,I1,q1⟩
 | false=>exact hb wh pq s1 σ H1 Q I1 q1
theorem kN(ha:PT X a tA):PT X (.UnaryOp .Not a pos) (Sx tA):=by
 intro pq s σ H Q I h;exact isTrue_not (ha pq s σ H (fun c H1=>Q (!c) H1) I h)
def NC(ta tb:TE):TE:=fun σ H Q=>ta σ H fun x H1=>∃ c,x = .bl c/\if c=true then tb σ H1 Q else Q (.bl false) H1
def Sy(ta tb:TE):TE:=fun σ H Q=>ta σ H fun x H1=>∃ c,x = .bl c/\if c=true then Q (.bl true) H1 else tb σ H1 Q
theorem kO{op}{t:TE}(h:PE X a t):PE X (.BoolOp op [a] pos) t:=fun pq s σ H Q I hw=>BoolOp_one (h pq s σ H Q I hw)
theorem lY(ha:PE X a ta)(hb:PE X (.BoolOp .And (b::rest) pos) tb):PE X (.BoolOp .And (a::b::rest) pos) (NC ta tb):=by
 intro pq s σ H Q I h;refine BoolOp_and (fP (ha pq s σ H _ I h) fun v s1 ⟨x,H1,I1,r1,q1⟩=>?_)
 obtain⟨c,rfl,q1⟩:=q1;cases r1;refine wpAny_truthy_bool ?_;cases c with
 | true=>exact hb pq s1 σ H1 Q I1 q1
 | false=>exact⟨.bl false,H1,I1,rfl,q1⟩
theorem ND(ha:PE X a ta)(hb:PE X (.BoolOp .Or (b::rest) pos) tb):PE X (.BoolOp .Or (a::b::rest) pos) (Sy ta tb):=by
 intro pq s σ H Q I h;refine BoolOp_or (fP (ha pq s σ H _ I h) fun v s1 ⟨x,H1,I1,r1,q1⟩=>?_)
 obtain⟨c,rfl,q1⟩:=q1;cases r1;refine wpAny_truthy_bool ?_;cases c with
 | false=>exact hb pq s1 σ H1 Q I1 q1
 | true=>exact⟨.bl true,H1,I1,rfl,q1⟩
def tIf(t:TT)(ta tb:TE):TE:=fun σ H Q=>t σ H fun c H1=>if c=true then ta σ H1 Q else tb σ H1 Q
theorem Bf{c:Expr}(hc:PT X c tA)(ha:PE X a ta)(hb:PE X b tb):PE X (.IfExp c a b pos) (tIf tA ta tb):=by
 intro pq s σ H Q I h;refine wpAny_IfExp (fP (hc pq s σ H _ I h) fun d s1 ⟨H1,I1,q1⟩=>?_)
 cases d with
 | true=>exact ha pq s1 σ H1 Q I1 q1
 | false=>exact hb pq s1 σ H1 Q I1 q1
end
def aZ(K:bI)(H:Hp)(a:Addr)(xs:List V):Prop :=
 Rd H a (.lst xs)\/
  ∃(o:Obj) (its:Array Value) (n:Nat),K.lookup a=some o/\o.cls = .type "list"/\o.dict=none/\o.data = .seq its n/\its.size<=sizeLine/\Vals xs its.toList
def aT(K:bI)(H:Hp)(a:Addr)(xs:List V):Prop :=
 Rd H a (.tup xs)\/
  ∃(o:Obj) (its:Array Value) (n:Nat),K.lookup a=some o/\o.cls = .type "tuple"/\o.data = .seq its n/\its.size<=sizeLine/\Vals xs its.toList
def Sz:Value->Option V
 | .none=>some .eS
 | .bool b=>some (.bl b)
 | .int i _=>some (.int i)
 | .str x _=>some (.str x)
 | .bytes b _=>some (.GC b)
 | .float b _=>some (.Nj b)
 | .ref a=>some (.ref a)
 | .type n=>some (.ty n)
 | _=>none
theorem RelV.abs{x:V}{u:Value}(r:RelV x u):Sz u=some x:=by
 cases x with
 | eS=>cases r;rfl
 | bl _=>cases r;rfl
 | int _=>obtain⟨t,rfl⟩:=r;rfl
 | str _=>obtain⟨t,rfl⟩:=r;rfl
 | GC _=>obtain⟨t,rfl⟩:=r;rfl
 | Nj _=>obtain⟨t,rfl⟩:=r;rfl
 | ref _=>cases r;rfl
 | ty _=>cases r;rfl
theorem RelV.inj{x y:V}{u:Value}(r:RelV x u)(q:RelV y u):x=y:=Option.some.inj (r.abs.symm.trans q.abs)
theorem Vals.inj:∀{xs ys:List V} {us:List Value},Vals xs us->Vals ys us->xs=ys
 | _,_,_,.nil,.nil=>rfl
 | _,_,_,.cons r t,.cons r' t'=>by rw[r.inj r',Vals.inj t t']
section
variable {X:Cx}{pq:bF}{σ:St}{H:Hp}{s:Shared}{a:Addr}{xs ys:List V}
theorem aZ.of{K:bI}(h:H a=some (.lst xs)):aZ K H a xs:=.inl (.inl h)
theorem aT.of{K:bI}(h:H a=some (.tup xs)):aT K H a xs:=.inl (.inl h)
theorem Inv.list(I:Inv X pq σ H s)(h:aZ X.K H a xs):∃ its:List Value,Vals xs its/\PlainL s.heap a its.toArray/\xs.length<=sizeLine:=by
 rcases h with h|⟨o,its,n,hk,hc,hd,hs,hz,r⟩
 ·obtain⟨z,its,n,r,e⟩:=h.ok I.hok;exact⟨its,r,⟨_,n,e,rfl,rfl,rfl⟩,z⟩
 ·refine⟨its.toList,r,⟨o,n,I.x8 a o hk,hc,hd,by simpa using hs⟩,?_⟩
  have e:=r.length;simp only[Array.length_toList]at e
  lia
theorem Inv.tuple(I:Inv X pq σ H s)(h:aT X.K H a xs):∃ its:List Value,Vals xs its/\IsTup s.heap a its.toArray/\xs.length<=sizeLine:=by
 rcases h with h|⟨o,its,n,hk,hc,hs,hz,r⟩
 ·obtain⟨z,its,r,p⟩:=h.ok I.hok;exact⟨its,r,p,z⟩
 ·refine⟨its.toList,r,⟨o,I.x8 a o hk,hc,n,by simpa using hs⟩,?_⟩
  have e:=r.length;simp only[Array.length_toList]at e
  lia
theorem Inv.GG(I:Inv X pq σ H s)(h:aZ X.K H a xs)(h' : aZ X.K H a ys):xs=ys:=by
 obtain⟨its,r,⟨o,n,e,_,_,d⟩,_⟩:=I.list h;obtain⟨its',r',⟨o',n',e',_,_,d'⟩,_⟩:=I.list h';rw[e]at e';cases e';rw[d]at d';injection d' with d1 _
 have:its=its':=by simpa using congrArg Array.toList d1
 subst this;exact r.inj r'
theorem Inv.yI(I:Inv X pq σ H s)(h:aT X.K H a xs)(h' : aT X.K H a ys):xs=ys:=by
 obtain⟨its,r,⟨o,e,_,n,d⟩,_⟩:=I.tuple h;obtain⟨its',r',⟨o',e',_,n',d'⟩,_⟩:=I.tuple h';rw[e]at e';cases e';rw[d]at d';injection d' with d1 _
 have:its=its':=by simpa using congrArg Array.toList d1
 subst this;exact r.inj r'
end
abbrev Cx.vA(X:Cx)(E:gj):Cx:={ X with xe:=E}
abbrev Cx.Gx(X:Cx):Cx:=X.vA fun _ _=>False
theorem Cx.Ok.vA{X:Cx}(ok:X.Ok)(E:gj):(X.vA E).Ok :=
 ⟨ok.mod,ok.kind,ok.glob,ok.blt,ok.above,ok.inj,ok.has,ok.Nn,ok.hd,ok.frames,ok.Jl,ok.So,ok.bs,ok.Jy,ok.EO,ok.GF,ok.funs,ok.Jz⟩
theorem Cx.Ok.jQ{X:Cx}{E:gj}(ok:(X.vA E).Ok):X.Ok :=
 ⟨ok.mod,ok.kind,ok.glob,ok.blt,ok.above,ok.inj,ok.has,ok.Nn,ok.hd,ok.frames,ok.Jl,ok.So,ok.bs,ok.Jy,ok.EO,ok.GF,ok.funs,ok.Jz⟩
section
variable {X:Cx}{pq:bF}{σ:St}{H:Hp}{s:Shared}{E:gj}
theorem Inv.vA(I:Inv X pq σ H s)(E:gj):Inv (X.vA E) pq σ H s:=⟨I.ok.vA E,I.os,I.bare,I.base,I.loc,I.cell,I.free,I.ku,I.pin,I.hok,I.len⟩
theorem Inv.jQ(I:Inv (X.vA E) pq σ H s):Inv X pq σ H s:=⟨I.ok.jQ,I.os,I.bare,I.base,I.loc,I.cell,I.free,I.ku,I.pin,I.hok,I.len⟩
theorem SP.jQ{D:Ends}{f:Flow}{s' : Shared}(h:SP (X.vA E) pq D f s'):SP X pq D f s':=by
 cases f with
 | next=>obtain⟨σ',H',I,q⟩:=h;exact⟨σ',H',I.jQ,q⟩
 | brk=>obtain⟨σ',H',I,q⟩:=h;exact⟨σ',H',I.jQ,q⟩
 | cont=>obtain⟨σ',H',I,q⟩:=h;exact⟨σ',H',I.jQ,q⟩
 | ret u=>obtain⟨v,σ',H',I,r,q⟩:=h;exact⟨v,σ',H',I.jQ,r,q⟩
theorem x6.Gx{st:List Stmt}{t:TS}(h:x6 X.Gx st t):x6 X st t:=fun pq s σ H D I hw =>
 wpAny_mono (h pq s σ H D (I.vA _) hw) (fun _ _ q=>q.jQ) fun _ _ z=>False.elim z
end
section
variable {X:Cx}{st:Stmt}{rest:List Stmt}{t u:TS}{e:Expr}{te:TE}{pos:Pos}
def aM:TS:=fun D σ H=>D.nx σ H
def Ends.on(D:Ends)(u:TS):Ends:={ D with nx:=u D}
def av(t u:TS):TS:=fun D σ H=>t (D.on u) σ H
theorem aR:x6 X [] aM:=fun _ _ σ H _ I h=>wpAny_execs_nil ⟨σ,H,I,h⟩
theorem ak(h1:PS X st t)(h2:x6 X rest u):x6 X (st::rest) (av t u):=by
 intro pq s σ H D I h;refine wpAny_execs_cons (fP (h1 pq s σ H { D with nx:=u D} I h) fun f s1 q=>?_)
 cases f with
 | next =>
   obtain⟨σ',H',I',q⟩:=q;exact h2 pq s1 σ' H' D I' q
 | ret v=>exact q
 | brk=>exact q
 | cont=>exact q
theorem au(h1:PS X st t):x6 X [st] t:=by
 intro pq s σ H D I h;refine wpAny_execs_cons (fP (h1 pq s σ H D I h) fun f s1 q=>?_)
 cases f with
 | next=>exact wpAny_execs_nil q
 | ret v=>exact q
 | brk=>exact q
 | cont=>exact q
theorem Inv.quiet{pq:bF}{σ:St}{H:Hp}{s:Shared}(I:Inv X pq σ H s):interactive X.env=false:=by simp[interactive,I.ok.kind]
def NF(te:TE):TS:=fun D σ H=>te σ H fun _ H1=>D.nx σ H1
theorem iJ(he:PE X e te)(hs:swapsWith e none pos.line X.env=pure false:=by rfl):PS X (.Expr e pos) (NF te):=by
 intro pq s σ H D I h;exact wpAny_Expr_any (fP (he pq s σ H _ I h) fun v s1 ⟨x,H1,I1,r1,q1⟩=>⟨σ,H1,I1,q1⟩) I.quiet hs
def NG(te:TE):TS:=fun D σ H=>te σ H D.rt
theorem aE(he:PE X e te):PS X (.Return (some e) pos) (NG te):=by
 intro pq s σ H D I h;exact wpAny_Return_some (fP (he pq s σ H _ I h) fun v s1 ⟨x,H1,I1,r1,q1⟩=>⟨x,σ,H1,I1,r1,q1⟩)
def aW(c:TT)(t u:TS):TS:=fun D σ H=>c σ H fun b H1=>if b=true then t D σ H1 else u D σ H1
theorem bx{c:Expr}{a b:List Stmt}{tc:TT}(hc:PT X c tc)(ha:x6 X a t)(hb:x6 X b u):PS X (.If c a b pos) (aW tc t u):=by
 intro pq s σ H D I h;refine wpAny_If (fP (hc pq s σ H _ I h) fun d s1 ⟨H1,I1,q1⟩=>?_)
 cases d with
 | true=>exact ha pq s1 σ H1 D I1 q1
 | false=>exact hb pq s1 σ H1 D I1 q1
def LH:TS:=fun _ _ _=>False
theorem yJ{sts:List Stmt}:x6 X sts LH:=fun _ _ _ _ _ _ h=>h.elim
end
abbrev TG:=V->St->Hp->(St->Hp->Prop)->Prop
abbrev K2:=List V->St->Hp->(St->Hp->Prop)->Prop
def PG(X:Cx)(target:Expr)(t:TG):Prop :=
 ∀(pq:bF) (s:Shared) (σ:St) (H:Hp) (v:V) (u:Value) (Q:St->Hp->Prop),Inv X pq σ H s->RelV v u->t v σ H Q->
  wpAny (model X.prog X.w) X.A (assign target X.env u) (fun _ s'=>∃ σ' H',Inv X pq σ' H' s'/\Q σ' H') X.xe s
def NH(X:Cx)(ts:List Expr)(t:K2):Prop :=
 ∀(pq:bF) (s:Shared) (σ:St) (H:Hp) (vs:List V) (us:List Value) (Q:St->Hp->Prop),Inv X pq σ H s->Vals vs us->t vs σ H Q->
  wpAny (model X.prog X.w) X.A (assignInOrder ((assignEach ts X.env).map (·.2)) us) (fun _ s'=>∃ σ' H',Inv X pq σ' H' s'/\Q σ' H') X.xe s
abbrev GH:=V->V->V->Hp->(Hp->Prop)->Prop
def LI(X:Cx)(t:GH):Prop :=
 ∀(pq:bF) (s:Shared) (σ:St) (H:Hp) (o i v:V) (ov iv u:Value) (Q:Hp->Prop),Inv X pq σ H s->RelV o ov->RelV i iv->RelV v u->t o i v H Q->
  wpAny (model X.prog X.w) X.A (setItem ov iv u) (fun _ s'=>∃ H',Inv X pq σ H' s'/\Q H') X.xe s
abbrev NI:=V->V->Hp->VK->Prop
def PIp(X:Cx)(op:Operator)(t:NI):Prop :=
 ∀(pq:bF) (s:Shared) (σ:St) (H:Hp) (x y:V) (v u:Value) (Q:VK),Inv X pq σ H s->RelV x v->RelV y u->t x y H Q->
  wpAny (model X.prog X.w) X.A (inplaceOp op v u) (EP X pq σ Q) X.xe s
section
variable {X:Cx}{pos:Pos}
def K3(i:Nat):TG:=fun v σ H Q=>Q (σ.set i (some v)) H
theorem aA{i:Nat}{x:Str}(hN:X.N.Nodup)(hi:X.N[i]?=some x)(hx:Loc X.env.scope x)(hf:X.fn x=true\/X.env.scope.names.lookup x=some .local:=by first | exact .inl rfl | exact .inr rfl | assumption):PG X (.Name x pos) (K3 i):=by
 intro pq s σ H v u Q I r h;exact wpAny_assign_Name (nD I hN hi hx r (fun s' I'=>⟨_,H,I',h⟩) hf)
def SA:K2:=fun vs σ H Q=>vs=[]/\Q σ H
def NJ(t:TG)(u:K2):K2:=fun vs σ H Q=>∃ v r,vs=v::r/\t v σ H fun σ' H'=>u r σ' H' Q
theorem gf:NH X [] SA:=by
 intro pq s σ H vs us Q I r h;obtain⟨e,h⟩:=h;subst e;cases r;exact assignInOrder_nil ⟨σ,H,I,h⟩
theorem bh{e:Expr}{es:List Expr}{t:TG}{u:K2}(h1:PG X e t)(h2:NH X es u)
 (hs:(assignEach (e::es) X.env).map (·.2)=assign e X.env::(assignEach es X.env).map (·.2):=by rfl):NH X (e::es) (NJ t u):=by
 intro pq s σ H vs us Q I r h;obtain⟨v,vr,e1,h⟩:=h;subst e1;cases r with
 | cons r rr =>
   rw[hs];refine assignInOrder_cons (fP (h1 pq s σ H _ _ _ I r h) fun _ s1 ⟨σ1,H1,I1,q1⟩=>?_)
   exact h2 pq s1 σ1 H1 _ _ Q I1 rr q1
def NK(K:bI)(n:Nat)(t:K2):TG:=fun v σ H Q=>∃ a xs,v = .ref a/\aT K H a xs/\xs.length=n/\t xs σ H Q
theorem LJ{es:List Expr}{k:Nat}{t:K2}{n:Nat}(hc:X.calm=true)(h:NH X es t)
 (hn:(assignEach es X.env).length=n:=by rfl) (hst:(assignEach es X.env).findIdx? (·.1)=none:=by rfl):PG X (.Tuple es k pos) (NK X.K n t):=by
 intro pq s σ H v u Q I r hw;obtain⟨a,xs,e1,hq,hl,hw⟩:=hw;subst e1;cases r;obtain⟨its,rv,ht,hz⟩:=I.tuple hq;refine assign_Tuple_tuple (I.ok.hd hc) ht (by simp[hn,<-hl,rv.length]) hst fun h' hx=>?_
 have I1:Inv X pq σ H { s with heap:=h'}:=I.kept (t':=s.toks) fun b o e=>hx b o (Nat.ne_of_lt (Heap.lt_size e)) e
 exact h pq _ σ H xs _ Q I1 (by simpa using rv) hw
def SD(to ti:TE)(t:GH):TG:=fun v σ H Q=>to σ H fun o H1=>ti σ H1 fun i H2=>t o i v H2 fun H3=>Q σ H3
theorem sQ{o i:Expr}{to ti:TE}{t:GH}(ho:PE X o to)(hi:PE X i ti)(hs:LI X t)
 (ha:∀ v,assign (.Subscript o i pos) X.env v=(do
  let ov←holding [v] (eval o X.env)
  let iv←holding [v,ov] (eval i X.env)
  standAt pos
  holding [v,ov,iv] (setItem ov iv v)
  release [v,ov,iv] []):=by intro _;rfl):PG X (.Subscript o i pos) (SD to ti t):=by
 intro pq s σ H v u Q I r h;rw[ha];refine dO (wpAny_holding (fP (ho pq s σ H _ I h) fun ov s1 ⟨x,H1,I1,r1,q1⟩=>?_))
 refine dO (wpAny_holding (fP (hi pq s1 σ H1 _ I1 q1) fun iv s2 ⟨y,H2,I2,r2,q2⟩=>?_))
 refine dO (wpAny_standAt (dO (wpAny_holding (fP (hs pq s2 σ H2 x y v ov iv u _ I2 r1 r2 r q2) fun _ s3 ⟨H3,I3,q3⟩=>?_))))
 exact wpAny_release ⟨σ,H3,I3,q3⟩
def NL(te:TE)(g:TG):TS:=fun D σ H=>te σ H fun x H1=>g x σ H1 D.nx
theorem jd{tg e:Expr}{te:TE}{g:TG}(he:PE X e te)(hg:PG X tg g)(hs:swapsWithSole [tg] e pos.line X.env=pure false:=by rfl)(hw:swappedStores [tg] e X.env=pure none:=by rfl)
 (h1:(assignEach [tg] X.env).map (·.2)=[assign tg X.env]:=by rfl):PS X (.Assign [tg] e pos) (NL te g):=by
 intro pq s σ H D I h;refine wpAny_Assign_stores (fP (he pq s σ H _ I h) fun v s1 ⟨x,H1,I1,r1,q1⟩=>?_) hs hw
 rw[h1];exact fP (hg pq s1 σ H1 x v _ I1 r1 q1) fun _ s2 q=>q
theorem aG{i:Nat}{x:Str}{e:Expr}{te:TE}{pos' : Pos}(hN:X.N.Nodup)(hi:X.N[i]?=some x)(hx:Loc X.env.scope x)(he:PE X e te)(hs:swapsWith e (some (.Name x pos')) pos.line X.env=pure false:=by rfl)(hf:X.fn x=true\/X.env.scope.names.lookup x=some .local:=by first | exact .inl rfl | exact .inr rfl | assumption):
 PS X (.Assign [.Name x pos'] e pos) (NL te (K3 i)):=by
 intro pq s σ H D I h;refine wpAny_Assign_Name (fP (he pq s σ H _ I h) fun v s1 ⟨y,H1,I1,r1,q1⟩=>?_) hs
 exact nD I1 hN hi hx r1 (fun s2 I2=>⟨_,H1,I2,q1⟩) hf
def SE(i:Nat)(te:TE)(ti:NI):TS:=fun D σ H=>∃ x,σ[i]?=some (some x)/\te σ H fun y H1=>ti x y H1 fun z H2=>D.nx (σ.set i (some z)) H2
theorem LK{i:Nat}{x:Str}{e:Expr}{te:TE}{op:Operator}{ti:NI}{pos' : Pos}(hN:X.N.Nodup)(hi:X.N[i]?=some x)(hx:Loc X.env.scope x)(he:PE X e te)(ho:PIp X op ti)(hf:X.fn x=true\/X.env.scope.names.lookup x=some .local:=by first | exact .inl rfl | exact .inr rfl | assumption):
 PS X (.AugAssign (.Name x pos') op e pos) (SE i te ti):=by
 intro pq s σ H D I h;obtain⟨v,e1,h⟩:=h;obtain⟨m,hn,hl⟩:=I.loc;have vis:QI X.env.scope x:=by rcases hx with k | k;exact .inl k;exact .inr (.inl k)
 obtain⟨u,r,l⟩:=hl i x v hi e1 vis;refine wpAny_AugAssign_Name ?_;have go:wpAny (model X.prog X.w) X.A (eval e X.env) (fun w s₂=>wpAny (model X.prog X.w) X.A (inplaceOp op u w) (fun r s₃=>wpAny (model X.prog X.w) X.A (storeName X.env x r) (fun _=>SP X pq D .next) X.xe s₃) X.xe s₂) X.xe s:=by
  refine fP (he pq s σ H _ I h) fun w s1 ⟨y,H1,I1,r1,q1⟩=>?_
  refine fP (ho pq s1 σ H1 v y u w _ I1 r r1 q1) fun z s2 ⟨zv,H2,I2,r2,q2⟩=>?_
  exact nD I2 hN hi hx r2 (fun s3 I3=>⟨_,H2,I3,q2⟩) hf
 rcases l with⟨hk,hm⟩|⟨hk,c,hc,hcell⟩
 ·exact wpAny_loadName_local I.ok.kind hk hn hm go
 ·rcases hk with hk|hk
  ·exact wpAny_loadName_cell I.ok.kind hk hc hcell go
  ·rcases hx with k|k
   ·have:X.env.scope.names.lookup x=some .free:=hk;rw[k]at this;cases this
   ·have:X.env.scope.names.lookup x=some .free:=hk;rw[k]at this;cases this
def NO(to ti te:TE)(JD:V->V->Hp->VK->Prop)(QM:NI)(JE:GH):TS:=fun D σ H=>to σ H fun o H1=>ti σ H1 fun i H2=>JD o i H2 fun x H3=>te σ H3 fun y H4=>QM x y H4 fun z H5=>JE o i z H5 fun H6=>D.nx σ H6
def NP(X:Cx)(t:V->V->Hp->VK->Prop):Prop :=
 ∀(pq:bF) (s:Shared) (σ:St) (H:Hp) (o i:V) (ov iv:Value) (Q:VK),Inv X pq σ H s->RelV o ov->RelV i iv->t o i H Q->
  wpAny (model X.prog X.w) X.A (getItem ov iv) (EP X pq σ Q) X.xe s
theorem DZ{o i e:Expr}{to ti te:TE}{JD:V->V->Hp->VK->Prop}{QM:NI}{JE:GH}{op:Operator}{tpos:Pos}(ho:PE X o to)(hi:PE X i ti)(hg:NP X JD)(he:PE X e te)(hp:PIp X op QM)(hs:LI X JE)
 (ha:∀ ov iv new,augStore i ov iv new=(do holding [new,ov,iv] (setItem ov iv new);release [new,ov,iv] [];pure .next):=by intros;rfl):PS X (.AugAssign (.Subscript o i tpos) op e pos) (NO to ti te JD QM JE):=by
 intro pq s σ H D I h;refine wpAny_AugAssign_SubscriptAny (fP (ho pq s σ H _ I h) fun ov s1 ⟨x1,H1,I1,r1,q1⟩=>?_) ha
 refine fP (hi pq s1 σ H1 _ I1 q1) fun iv s2 ⟨x2,H2,I2,r2,q2⟩=>?_
 refine fP (hg pq s2 σ H2 x1 x2 ov iv _ I2 r1 r2 q2) fun old s3 ⟨x3,H3,I3,r3,q3⟩=>?_
 refine fP (he pq s3 σ H3 _ I3 q3) fun v s4 ⟨x4,H4,I4,r4,q4⟩=>?_
 refine fP (hp pq s4 σ H4 x3 x4 old v _ I4 r3 r4 q4) fun new s5 ⟨x5,H5,I5,r5,q5⟩=>?_
 exact fP (hs pq s5 σ H5 x1 x2 x5 ov iv new _ I5 r1 r2 r5 q5) fun _ s6 ⟨H6,I6,q6⟩=>⟨σ,H6,I6,q6⟩
def vB(c:TT)(tb:TS):TS:=fun D σ H=>∃ W:Nat->St->Hp->Prop,(∃ m,W m σ H)/\∀ m σ H,W m σ H->
 c σ H fun b H1=>if b=true then ∃ N:St->Hp->Prop,(∀ σ' H',N σ' H'->∃ m',m'<m/\W m' σ' H')/\tb { D with nx:=N,ct:=N,bk:=D.nx} σ H1 else D.nx σ H1
theorem Bg{c:Expr}{body:List Stmt}{tc:TT}{tb:TS}(hp:PassesOwn (model X.prog X.w) X.A X.env X.xe)(hc:PT X c tc)(hb:x6 X body tb):PS X (.While c body [] pos) (vB tc tb):=by
 intro pq s σ H D I h;obtain⟨W,⟨m0,w0⟩,turn⟩:=h;refine wpAny_While (codeAny_whileLoop (fun n s'=>∃ σ' H',Inv X pq σ' H' s'/\W n σ' H') ?_ m0 ⟨σ,H,I,w0⟩)
 rintro n s1 ⟨σ1,H1,I1,w1⟩;refine wpAny_passesOwn hp (fP (hc pq s1 σ1 H1 _ I1 (turn n σ1 H1 w1)) fun b s2 ⟨H2,I2,q2⟩=>?_)
 cases b with
 | true =>
   obtain⟨N,hN,q2⟩:=q2;rw[if_pos rfl];refine wpAny_passesOwn hp (fP (hb pq s2 σ1 H2 _ I2 q2) fun f s3 q3=>?_)
   cases f with
   | next =>
     obtain⟨σ3,H3,I3,n3⟩:=q3;obtain⟨m',hm,w3⟩:=hN σ3 H3 n3;exact⟨m',hm,σ3,H3,I3,w3⟩
   | cont =>
     obtain⟨σ3,H3,I3,n3⟩:=q3;obtain⟨m',hm,w3⟩:=hN σ3 H3 n3;exact⟨m',hm,σ3,H3,I3,w3⟩
   | brk=>exact q3
   | ret v=>exact q3
 | false =>
   rw[if_neg Bool.false_ne_true];exact wpAny_execs_nil ⟨σ1,H2,I2,q2⟩
end
structure It where
 go:Nat->Hp->Prop
 Jm:Nat->Hp->V->Hp->Prop
 stop:Nat->Hp->Prop
def qf(X:Cx)(pq:bF)(H:Hp)(b:Addr):Prop :=
 H b=none/\b≠X.env.locals/\b∉X.fs/\(b∈X.ex\/X.s₀.heap.objs.size<=b)/\(∀ x c,X.env.cells.lookup x=some c->c≠b)/\∀ p∈X.pn++pq,p.1≠b
theorem Inv.GI{X:Cx}{pq:bF}{σ:St}{H H' : Hp}{s:Shared}{b:Addr}(I:Inv X pq σ H s)(hb:s.heap.objs.size<=b)(hn:H' b=none):qf X pq H' b:=by
 refine⟨hn,Nat.ne_of_gt (Nat.lt_of_lt_of_le I.lt hb),I.Ss hb,.inr (Nat.le_trans I.sz hb),fun x c e z=>?_,fun p hp z=>?_⟩
 ·obtain⟨v,q⟩:=I.cell x c e;exact absurd (Nat.lt_of_lt_of_le q.lt (by rw[z];exact hb)) (Nat.lt_irrefl _)
 ·exact absurd (Nat.lt_of_lt_of_le (Heap.lt_size (I.pin p hp).1) (by rw[z];exact hb)) (Nat.lt_irrefl _)
structure Turn(P:Program)(w:World)(K:bI)(tg:Expr)(J:It)(fp:List Addr)(it:Addr)(tn:Nat->Heap->Prop):Prop where
 mem:it∈fp
 obj:∀ i h,tn i h->∀ b∈fp,∃ o,h.get? b=some o/\∀ v,o.data≠.cell v
 keep:∀ i h h',tn i h->(∀ b∈fp,∀ o,h.get? b=some o->h'.get? b=some o)->tn i h'
 item:∀(X:Cx),X.prog=P->X.w=w->X.K=K->X.calm=true->∀(i:Nat) (pq:bF) (s:Shared) (σ:St) (H:Hp) (E:gj),Inv X pq σ H s->(∀ b∈fp,qf X pq H b)->tn i s.heap->J.go i H->
  wpAny (model P w) X.A (pyNext (.ref it)) (fun r s1=>∃ u,r=some u/\
   wpAny (model P w) X.A (letOwnedTupleGo tg (.ref it) u) (fun _ s2=>∃ x H',Inv X pq σ H' s2/\RelV x u/\J.Jm i H x H'/\tn (i+1) s2.heap/\∀ b∈fp,H' b=none) E s1) E s
 done:∀(X:Cx),X.prog=P->X.w=w->X.K=K->X.calm=true->∀(i:Nat) (pq:bF) (s:Shared) (σ:St) (H:Hp) (E:gj),Inv X pq σ H s->(∀ b∈fp,qf X pq H b)->tn i s.heap->J.stop i H->
  wpAny (model P w) X.A (pyNext (.ref it)) (fun r s1=>r=none/\Inv X pq σ H s1) E s
 self:∀(A:Around) (i:Nat) (s:Shared) (Q:gj) (E:gj),tn i s.heap->Q (.ref it) s->wpAny (model P w) A (pyIter (.ref it)) Q E s
abbrev TI:=St->Hp->(It->Hp->Prop)->Prop
def PIE(X:Cx)(pq:bF)(σ:St)(tg:Expr)(R:It->Hp->Prop)(itv:Value)(s2:Shared):Prop :=
 ∃(it:Addr) (fp:List Addr) (tn:Nat->Heap->Prop) (J:It) (H' : Hp),itv = .ref it/\Inv X pq σ H' s2/\Turn X.prog X.w X.K tg J fp it tn/\tn 0 s2.heap/\(∀ b∈fp,qf X pq H' b)/\R J H'
def PI(X:Cx)(tg iter:Expr)(wi:TI):Prop :=
 ∀(pq:bF) (s:Shared) (σ:St) (H:Hp) (R:It->Hp->Prop),Inv X pq σ H s->wi σ H R->
  wpAny (model X.prog X.w) X.A (eval iter X.env) (fun v s1=>wpAny (model X.prog X.w) X.A (pyIter v) (PIE X pq σ tg R) X.xe s1) X.xe s
theorem D0{M:Model}{A:Around}{E:gj}{s:Shared}{tg:Expr}{it:Addr}{u:Value}{o:Obj}{n:String}{vs:Array Value}{Q:Unit->Shared->Prop}(ho:s.heap.get? it=some o)(hc:o.cls = .type n)(hd:o.data = .fields vs)
 (hn:["enumerate","zip","dict_itemiterator","dict_reverseitemiterator","odict_iterator","itertools.zip_longest","itertools.pairwise"].contains n=false) (hQ:Q () s):wpAny M A (letOwnedTupleGo tg (.ref it) u) Q E s:=by
 unfold letOwnedTupleGo;cases tg<;>first
  | exact wpAny_pure hQ
  | (cases u<;>first
   | exact wpAny_pure hQ
   | (refine dO (wpAny_load ho ?_)
      rw[hc,hd];show wpAny M A (if(["enumerate","zip","dict_itemiterator","dict_reverseitemiterator","odict_iterator","itertools.zip_longest","itertools.pairwise"].contains n&&vs[0]? == some (rawInt _))=true then _ else _) Q E s
      rw[if_neg (by intro h;rw[hn,Bool.false_and]at h;cases h)]
      exact wpAny_pure hQ))
def JF(K:bI)(a:Addr):It :=
 ⟨fun i H=>∃ xs x,aZ K H a xs/\xs[i]?=some x,fun i H x H'=>H' = H/\∀ xs,aZ K H a xs->xs[i]?=some x,fun i H=>∃ xs,aZ K H a xs/\xs.length<=i⟩
def SG(K:bI)(a:Addr):It :=
 ⟨fun i H=>∃ xs x,aT K H a xs/\xs[i]?=some x,fun i H x H'=>H' = H/\∀ xs,aT K H a xs->xs[i]?=some x,fun i H=>∃ xs,aT K H a xs/\xs.length<=i⟩
def D5(lo:Int)(n:Nat):It:=⟨fun i _=>i<n,fun i H x H'=>H' = H/\x = .int (lo+i),fun i _=>n<=i⟩
theorem ES{P:Program}{w:World}{K:bI}{tg:Expr}(a it:Addr):Turn P w K tg (JF K a) [it] it (fun i h=>h.IsListIter it a i) where
 mem:=by simp
 obj:=fun i h st b hb=>by
  have e:b=it:=by simpa using hb
  subst e;obtain⟨o,e,c,d⟩:=st;exact⟨o,e,fun v z=>by rw[d]at z;cases z⟩
 keep:=fun i h h' st k=>st.at fun o e=>k it (by simp) o e
 item:=by
  intro X hP hw hK hc i pq s σ H E I hf st hg;subst hP hw hK;obtain⟨xs,x,hq,hx⟩:=hg;obtain⟨its,rv,p,hz⟩:=I.list hq;obtain⟨u,hu,ru⟩:=rv.get hx;obtain⟨f0,f1,f2,f3,f4,f5⟩:=hf it (by simp)
  refine wpAny_pyNext_list_item st p.isList (x:=u) (by simpa using hu) fun h' st' sb=>?_
  have I1:Inv X pq σ H { s with heap:=h'}:=I.turned (t':=s.toks) (fun b o hb e=>(sb.2 b hb).trans e) f0 f1 f3 f4 f5
  obtain⟨o,e,c,d⟩:=id st';exact⟨u,rfl,D0 (s:={ s with heap:=h'}) e c d (by decide) ⟨x,H,I1,ru,⟨rfl,fun ys hy=>by rw[I.GG hy hq];exact hx⟩,st',fun b hb=>(hf b hb).1⟩⟩
 done:=by
  intro X hP hw hK hc i pq s σ H E I hf st hg;subst hP hw hK;obtain⟨xs,hq,hx⟩:=hg;obtain⟨its,rv,p,hz⟩:=I.list hq;obtain⟨f0,f1,f2,f3,f4,f5⟩:=hf it (by simp)
  have hl:=rv.length;exact wpAny_pyNext_list_end (I.ok.hd hc) st p.isList (by simp;lia) fun h' eb=>⟨rfl,I.turned (t':=s.toks) (fun b o hb e=>eb b o hb e) f0 f1 f3 f4 f5⟩
 self:=fun _ _ _ _ _ st h=>wpAny_pyIter_listiter st h
theorem CG{P:Program}{w:World}{K:bI}{tg:Expr}(a it:Addr):Turn P w K tg (SG K a) [it] it (fun i h=>h.IsTupleIter it a i) where
 mem:=by simp
 obj:=fun i h st b hb=>by
  have e:b=it:=by simpa using hb
  subst e;obtain⟨o,e,c,d⟩:=st;exact⟨o,e,fun v z=>by rw[d]at z;cases z⟩
 keep:=fun i h h' st k=>st.at fun o e=>k it (by simp) o e
 item:=by
  intro X hP hw hK hc i pq s σ H E I hf st hg;subst hP hw hK;obtain⟨xs,x,hq,hx⟩:=hg;obtain⟨its,rv,p,hz⟩:=I.tuple hq;obtain⟨u,hu,ru⟩:=rv.get hx;obtain⟨f0,f1,f2,f3,f4,f5⟩:=hf it (by simp)
  refine wpAny_pyNext_tuple_item st (show s.heap.IsTuple a its.toArray from p) (x:=u) (by simpa using hu) fun h' st' sb=>?_
  have I1:Inv X pq σ H { s with heap:=h'}:=I.turned (t':=s.toks) (fun b o hb e=>(sb.2 b hb).trans e) f0 f1 f3 f4 f5
  obtain⟨o,e,c,d⟩:=id st';exact⟨u,rfl,D0 (s:={ s with heap:=h'}) e c d (by decide) ⟨x,H,I1,ru,⟨rfl,fun ys hy=>by rw[I.yI hy hq];exact hx⟩,st',fun b hb=>(hf b hb).1⟩⟩
 done:=by
  intro X hP hw hK hc i pq s σ H E I hf st hg;subst hP hw hK;obtain⟨xs,hq,hx⟩:=hg;obtain⟨its,rv,p,hz⟩:=I.tuple hq;obtain⟨f0,f1,f2,f3,f4,f5⟩:=hf it (by simp)
  have hl:=rv.length;exact wpAny_pyNext_tuple_end (I.ok.hd hc) st (show s.heap.IsTuple a its.toArray from p) (by simp;lia) fun h' eb=>⟨rfl,I.turned (t':=s.toks) (fun b o hb e=>eb b o hb e) f0 f1 f3 f4 f5⟩
 self:=fun _ _ _ _ _ st h=>wpAny_pyIter_tupleiter st h
theorem vC{P:Program}{w:World}{K:bI}{tg:Expr}(it:Addr)(lo:Int)(n:Nat):Turn P w K tg (D5 lo n) [it] it (fun i h=>IsRangeIter h it (lo+(i:Nat)*1) ((n:Int)-(i:Nat)) 1) where
 mem:=by simp
 obj:=fun i h st b hb=>by
  have e:b=it:=by simpa using hb
  subst e;exact⟨_,st,fun v z=>by
   have z' : Data.fields _=Data.cell v:=z;cases z'⟩
 keep:=fun i h h' st k=>k it (by simp) _ st
 item:=by
  intro X hP hw hK hc i pq s σ H E I hf st hg;subst hP hw hK;obtain⟨f0,f1,f2,f3,f4,f5⟩:=hf it (by simp)
  have W:=Walks.range (prog:=X.prog) (w:=X.w) (I.ok.hd hc) it lo 1 n;refine W.item i s _ _ hg st fun v h' tk hv st' kk=>?_
  obtain⟨t,rfl⟩:=hv;have I1:Inv X pq σ H { s with heap:=h',toks:=tk}:=I.turned (fun b o hb e=>kk b o (by simpa using hb) e) f0 f1 f3 f4 f5
  refine⟨_,rfl,D0 (s:={ s with heap:=h',toks:=tk}) (n:="range_iterator") st' rfl rfl (by decide) ⟨.int (lo+i),H,I1,⟨t,?_⟩,⟨rfl,rfl⟩,st',fun b hb=>(hf b hb).1⟩⟩
  rw[Int.mul_one]
 done:=by
  intro X hP hw hK hc i pq s σ H E I hf st hg;subst hP hw hK;obtain⟨f0,f1,f2,f3,f4,f5⟩:=hf it (by simp)
  exact wpAny_pyNext_range_end (I.ok.hd hc) st (by have:n<=i:=hg;lia) fun h' eb=>⟨rfl,I.turned (t':=s.toks) (fun b o hb e=>eb b o hb e) f0 f1 f3 f4 f5⟩
 self:=fun _ _ _ _ _ st h=>wpAny_pyIter_rangeiter st h
section
variable {X:Cx}{tg:Expr}
def K4(K:bI)(tl:TE):TI:=fun σ H R=>tl σ H fun x H1=>∃ a,x = .ref a/\(∃ xs,aZ K H1 a xs)/\R (JF K a) H1
def NQ(K:bI)(tl:TE):TI:=fun σ H R=>tl σ H fun x H1=>∃ a,x = .ref a/\(∃ xs,aT K H1 a xs)/\R (SG K a) H1
theorem JG{l:Expr}{tl:TE}(hl:PE X l tl):PI X tg l (K4 X.K tl):=by
 intro pq s σ H R I h;refine fP (hl pq s σ H _ I h) fun v s1 ⟨x,H1,I1,r1,q1⟩=>?_
 obtain⟨a,e,⟨xs,hq⟩,q⟩:=q1;subst e;cases r1;obtain⟨its,rv,p,hz⟩:=I1.list hq;refine wpAny_pyIter_list p.isList ?_;refine⟨s1.heap.objs.size,[s1.heap.objs.size],_,_,H1,rfl,I1.kept (t':=s1.toks) fun b o e=>Heap.get?_push_of_some _ e,ES a _,⟨_,Heap.get?_push_size _ rfl,rfl,rfl⟩,fun b hb=>?_,q⟩
 have e:b=s1.heap.objs.size:=by simpa using hb
 subst e;exact I1.GI (Nat.le_refl _) (I1.hok.fresh (Nat.le_refl _))
theorem LL{l:Expr}{tl:TE}(hl:PE X l tl):PI X tg l (NQ X.K tl):=by
 intro pq s σ H R I h;refine fP (hl pq s σ H _ I h) fun v s1 ⟨x,H1,I1,r1,q1⟩=>?_
 obtain⟨a,e,⟨xs,hq⟩,q⟩:=q1;subst e;cases r1;obtain⟨its,rv,p,hz⟩:=I1.tuple hq;refine wpAny_pyIter_tuple (show s1.heap.IsTuple a its.toArray from p) ?_
 refine⟨s1.heap.objs.size,[s1.heap.objs.size],_,_,H1,rfl,I1.kept (t':=s1.toks) fun b o e=>Heap.get?_push_of_some _ e,CG a _,⟨_,Heap.get?_push_size _ rfl,rfl,rfl⟩,fun b hb=>?_,q⟩
 have e:b=s1.heap.objs.size:=by simpa using hb
 subst e;exact I1.GI (Nat.le_refl _) (I1.hok.fresh (Nat.le_refl _))
theorem Bh{pq:bF}{σ:St}{H:Hp}{s:Shared}{R:It->Hp->Prop}{E:gj}{lo hi:Int}{t u v:Tok}{tk:Nat}(I:Inv X pq σ H s)(h1 : -(2^62)<=lo)(h2:lo<2^62)(h3 : -(2^62)<=hi)(h4:hi<2^62)
 (q:R (D5 lo (hi-lo).toNat) H):wpAny (model X.prog X.w) X.A (pyIter (.ref s.heap.objs.size)) (PIE X pq σ tg R) E { s with heap:=s.heap.push { cls:=.type "range",data:=.fields #[.int lo t,.int hi u,.int 1 v]},toks:=tk}:=by
 refine wpAny_pyIter_range (IsRange.new ..) (small_one h1 h2 h3 h4) ?_;have I1:Inv X pq σ H { s with heap:=s.heap.push { cls:=.type "range",data:=.fields #[.int lo t,.int hi u,.int 1 v]},toks:=tk}:=I.kept fun b o e=>Heap.get?_push_of_some _ e
 refine⟨(s.heap.push { cls:=.type "range",data:=.fields #[.int lo t,.int hi u,.int 1 v]}).objs.size,[(s.heap.push { cls:=.type "range",data:=.fields #[.int lo t,.int hi u,.int 1 v]}).objs.size],_,_,H,rfl,
  I1.kept (t':=tk) fun b o e=>Heap.get?_push_of_some _ e,vC _ lo (hi-lo).toNat,?_,fun b hb=>?_,q⟩
 ·have e1:lo+((0:Nat):Int)*1=lo:=by simp
  have e2:(((hi-lo).toNat:Nat):Int)-((0:Nat):Int)=Builtin.Range.rangeSize lo hi 1:=by rw[rangeSize_one];split<;>lia
  show IsRangeIter _ _ (lo+((0:Nat):Int)*1) ((((hi-lo).toNat:Nat):Int)-((0:Nat):Int)) 1;rw[e1,e2];exact Heap.get?_push_size _ rfl
 ·have e:b=(s.heap.push { cls:=.type "range",data:=.fields #[.int lo t,.int hi u,.int 1 v]}).objs.size:=by simpa using hb
  subst e;exact I1.GI (Nat.le_refl _) (I1.hok.fresh (Nat.le_refl _))
def NR(ta:TA):TI:=fun σ H R=>ta σ H fun vs H1=>∃ j:Int,vs=[.int j]/\-(2^62)<=j/\j<2^62/\R (D5 0 j.toNat) H1
def NS(ta:TA):TI:=fun σ H R=>ta σ H fun vs H1=>∃ i j:Int,vs=[.int i,.int j]/\(-(2^62)<=i/\i<2^62/\-(2^62)<=j/\j<2^62)/\R (D5 i (j-i).toNat) H1
theorem aV{a:Expr}{ta:TA}{p pos:Pos}(hg:Gl X "range")(hm:X.mg "range"=none)(ha:PA X [a] ta)(hs:starEach [a] X.env=[(false,eval a X.env)]:=by rfl):PI X tg (.Call (.Name "range" p) [a] [] pos) (NR ta):=by
 intro pq s σ H R I h;refine Call_ (lX I hg hm boot_range (PyProof.Rows.callWith_type1 (fP (ha pos pq s σ H _ I h) fun us s1 ⟨vs,H1,I1,r1,q1⟩=>?_) hs rfl))
 obtain⟨j,e,q1,q2,q⟩:=q1;subst e;cases r1 with
 | cons r rr =>
   cases rr;obtain⟨t,rfl⟩:=r;exact call_range_1 (Bh I1 (by lia) (by lia) q1 q2 (by simpa using q))
theorem yK{a b:Expr}{ta:TA}{p pos:Pos}(hg:Gl X "range")(hm:X.mg "range"=none)(ha:PA X [a,b] ta)(hs:starEach [a,b] X.env=[(false,eval a X.env),(false,eval b X.env)]:=by rfl)(hs2:starEach [b] X.env=[(false,eval b X.env)]:=by rfl):
 PI X tg (.Call (.Name "range" p) [a,b] [] pos) (NS ta):=by
 intro pq s σ H R I h;refine Call_ (lX I hg hm boot_range (PyProof.Rows.callWith_type1 (fP (ha pos pq s σ H _ I h) fun us s1 ⟨vs,H1,I1,r1,q1⟩=>?_) (by rw[hs,hs2]) (by rw[hs2];rfl)))
 obtain⟨i,j,e,⟨q1,q2,q3,q4⟩,q⟩:=q1;subst e;cases r1 with
 | cons r rr =>
   cases rr with
   | cons r' rr =>
     cases rr;obtain⟨t,rfl⟩:=r;obtain⟨t',rfl⟩:=r';exact call_range_2 (Bh I1 q1 q2 q3 q4 q)
def cL(wi:TI)(g:TG)(tb:TS):TS:=fun D σ H=>wi σ H fun J H1=>∃ W:Nat->Nat->St->Hp->Prop,(∃ m,W 0 m σ H1)/\∀ i m σ H,W i m σ H->
 (J.stop i H/\D.nx σ H)\/(J.go i H/\∃ N:St->Hp->Prop,(∀ σ' H',N σ' H'->∃ m',m'<m/\W (i+1) m' σ' H')/\∀ x H',J.Jm i H x H'->g x σ H' fun σ2 H2=>tb { D with nx:=N,ct:=N,bk:=D.nx} σ2 H2)
def sR(fp:List Addr)(h:Heap):bF:=fp.filterMap fun b=>(h.get? b).map fun o=>(b,o)
theorem ig{fp:List Addr}{h:Heap}{b:Addr}{o:Obj}(hb:b∈fp)(e:h.get? b=some o):(b,o)∈sR fp h:=List.mem_filterMap.mpr ⟨b,hb,by rw[e];rfl⟩
theorem ET{fp:List Addr}{h:Heap}{p:Addr×Obj}(hp:p∈sR fp h):p.1∈fp/\h.get? p.1=some p.2:=by
 obtain⟨b,hb,e⟩:=List.mem_filterMap.mp hp;cases q:h.get? b with
 | none=>rw[q]at e;cases e
 | some o =>
   rw[q]at e;have e' : (b,o)=p:=Option.some.inj e;subst e';exact⟨hb,q⟩
theorem Inv.pinned{pq:bF}{σ:St}{H:Hp}{s:Shared}{fp:List Addr}(I:Inv X pq σ H s)(hf:∀ b∈fp,qf X pq H b)(ho:∀ b∈fp,∃ o,s.heap.get? b=some o/\∀ v,o.data≠.cell v):Inv X (pq++sR fp s.heap) σ H s :=
 I.vc fun p hp=>(List.mem_append.mp hp).elim (fun z=>I.pin p (Bd _ z)) fun z=>by
  obtain⟨hb,e⟩:=ET z;obtain⟨f0,f1,f2,_⟩:=hf p.1 hb;obtain⟨o,e',d⟩:=ho p.1 hb;rw[e]at e';cases e';exact⟨e,f0,f1,f2,d⟩
theorem Inv.jR{pq pl:bF}{σ:St}{H:Hp}{s:Shared}(I:Inv X (pq++pl) σ H s):Inv X pq σ H s:=I.vc fun p hp=>I.pin p (Bd _ (Ni _ hp))
theorem dj{iter:Expr}{body:List Stmt}{wi:TI}{g:TG}{tb:TS}{pos:Pos}(hp:PassesOwn (model X.prog X.w) X.A X.env X.xe)(hc:X.calm=true)(hi:PI X tg iter wi)(hg:PG X tg g)(hb:x6 X body tb)
 (hs:∀ x,foldedSetIterable iter X.env x=pure x:=by intro _;rfl):PS X (.For tg iter body [] pos) (cL wi g tb):=by
 intro pq s σ H D I h;refine wpAny_For (fP (hi pq s σ H _ I h) fun v s1 h1=>fP h1 fun itv s2 h2=>?_) hs
 obtain⟨it,fp,tn,J,H2,e,I2,T,st2,f2,W,⟨m0,w0⟩,turn⟩:=h2;subst e;have CH:∀{H' : Hp},(∀ b∈fp,H' b=none)->∀ b∈fp,qf X pq H' b:=fun hn b hb=>⟨hn b hb,(f2 b hb).2⟩
 refine codeAny_forLoop_any (fun n s'=>∃ i σ' H',Inv X pq σ' H' s'/\tn i s'.heap/\(∀ b∈fp,H' b=none)/\W i n σ' H') ?_ m0 ⟨0,σ,H2,I2,st2,fun b hb=>(f2 b hb).1,w0⟩
 rintro n s3 ⟨i,σ3,H3,I3,st3,K5,w3⟩;rcases turn i n σ3 H3 w3 with⟨stop,qn⟩|⟨go,N,hN,step⟩
 ·refine wpAny_passesOwn hp (fP (T.done X rfl rfl rfl hc i pq s3 σ3 H3 X.xe I3 (CH K5) st3 stop) fun r s4 ⟨hr,I4⟩=>?_)
  subst hr;exact wpAny_execs_nil ⟨σ3,H3,I4,qn⟩
 ·refine wpAny_passesOwn hp (fP (T.item X rfl rfl rfl hc i pq s3 σ3 H3 X.xe I3 (CH K5) st3 go) fun r s4 ⟨u,hr,h4⟩=>?_)
  subst hr;refine wpAny_passesOwn hp (fP h4 fun _ s5 ⟨x,H5,I5,r5,y5,GJ,NT⟩=>?_)
  have NU:=I5.pinned (CH NT) (T.obj _ _ GJ);refine wpAny_passesOwn hp (fP (hg _ s5 σ3 H5 x u _ NU r5 (step x H5 y5)) fun _ s6 ⟨σ6,H6,I6,q6⟩=>?_)
  refine wpAny_passesOwn hp (fP (hb _ s6 σ6 H6 _ I6 q6) fun f s7 q7=>?_)
  have again:∀{σ7:St} {H7:Hp},Inv X (pq++sR fp s5.heap) σ7 H7 s7->N σ7 H7->∃ m,m<n/\∃ i σ' H',Inv X pq σ' H' s7/\tn i s7.heap/\(∀ b∈fp,H' b=none)/\W i m σ' H':=fun {σ7 H7} I7 n7=>by
   obtain⟨m',hm,w7⟩:=hN σ7 H7 n7;refine⟨m',hm,i+1,σ7,H7,I7.jR,T.keep _ _ _ GJ fun b hb o e=>(I7.pin (b,o) (Bd _ (Bd _ (ig hb e)))).1,fun b hb=>?_,w7⟩
   obtain⟨o,e,d⟩:=T.obj _ _ GJ b hb;exact(I7.pin (b,o) (Bd _ (Bd _ (ig hb e)))).2.1
  cases f with
  | next=>obtain⟨σ7,H7,I7,n7⟩:=q7;exact again I7 n7
  | cont=>obtain⟨σ7,H7,I7,n7⟩:=q7;exact again I7 n7
  | brk=>obtain⟨σ7,H7,I7,q7⟩:=q7;exact⟨σ7,H7,I7.jR,q7⟩
  | ret v=>obtain⟨x7,σ7,H7,I7,r7,q7⟩:=q7;exact⟨x7,σ7,H7,I7.jR,r7,q7⟩
end
theorem vD{K:bI}{a:Addr}{xs:List V}{g:TG}{tb:TS}{D:Ends}{σ:St}{H:Hp}(Pv:Nat->St->Hp->Prop)(h0:Pv 0 σ H)(hl:∀ i σ H,i<=xs.length->Pv i σ H->aZ K H a xs)
 (hs:∀ i x σ H,xs[i]?=some x->Pv i σ H->g x σ H fun σ2 H2=>tb { D with nx:=Pv (i+1),ct:=Pv (i+1),bk:=D.nx} σ2 H2) (hd:∀ σ H,Pv xs.length σ H->D.nx σ H) :
 ∃ W:Nat->Nat->St->Hp->Prop,(∃ m,W 0 m σ H)/\∀ i m σ H,W i m σ H->
   ((JF K a).stop i H/\D.nx σ H)\/((JF K a).go i H/\∃ N:St->Hp->Prop,(∀ σ' H',N σ' H'->∃ m',m'<m/\W (i+1) m' σ' H')/\∀ x H',(JF K a).Jm i H x H'->g x σ H' fun σ2 H2=>tb { D with nx:=N,ct:=N,bk:=D.nx} σ2 H2):=by
 refine⟨fun i m σ H=>m=xs.length-i/\i<=xs.length/\Pv i σ H,⟨xs.length,by simp,Nat.zero_le _,h0⟩,?_⟩
 rintro i m σ H ⟨rfl,hi,p⟩;have q:=hl i σ H hi p
 by_cases hlt:i<xs.length
 ·refine .inr ⟨⟨xs,xs[i],q,by simp[hlt]⟩,Pv (i+1),fun σ' H' p'=>⟨xs.length-(i+1),by lia,rfl,hlt,p'⟩,fun x H' y=>?_⟩
  obtain⟨e,y⟩:=y;subst e;exact hs i x σ _ (y xs q) p
 ·have e:i=xs.length:=by lia
  subst e;exact .inl ⟨⟨xs,q,Nat.le_refl _⟩,hd σ H p⟩
theorem ly{lo:Int}{n:Nat}{g:TG}{tb:TS}{D:Ends}{σ:St}{H:Hp}(Pv:Nat->St->Hp->Prop)(h0:Pv 0 σ H)
 (hs:∀ i σ H,i<n->Pv i σ H->g (.int (lo+i)) σ H fun σ2 H2=>tb { D with nx:=Pv (i+1),ct:=Pv (i+1),bk:=D.nx} σ2 H2) (hd:∀ σ H,Pv n σ H->D.nx σ H) :
 ∃ W:Nat->Nat->St->Hp->Prop,(∃ m,W 0 m σ H)/\∀ i m σ H,W i m σ H->
   ((D5 lo n).stop i H/\D.nx σ H)\/((D5 lo n).go i H/\∃ N:St->Hp->Prop,(∀ σ' H',N σ' H'->∃ m',m'<m/\W (i+1) m' σ' H')/\∀ x H',(D5 lo n).Jm i H x H'->g x σ H' fun σ2 H2=>tb { D with nx:=N,ct:=N,bk:=D.nx} σ2 H2):=by
 refine⟨fun i m σ H=>m=n-i/\i<=n/\Pv i σ H,⟨n,by simp,Nat.zero_le _,h0⟩,?_⟩
 rintro i m σ H ⟨rfl,hi,p⟩
 by_cases hlt:i<n
 ·refine .inr ⟨hlt,Pv (i+1),fun σ' H' p'=>⟨n-(i+1),by lia,rfl,hlt,p'⟩,fun x H' y=>?_⟩
  obtain⟨e,y⟩:=y;subst e y;exact hs i σ _ hlt p
 ·have e:i=n:=by lia
  subst e;exact .inl ⟨Nat.le_refl _,hd σ H p⟩
abbrev R2:=V->V->Hp->VK->Prop
def mZ(X:Cx)(f:Value->Value->Sem Value)(r:R2):Prop :=
 ∀(pq:bF) (s:Shared) (σ:St) (H:Hp) (x y:V) (v u:Value) (Q:VK),Inv X pq σ H s->RelV x v->RelV y u->r x y H Q->
  wpAny (model X.prog X.w) X.A (f v u) (EP X pq σ Q) X.xe s
def SH(X:Cx)(f:Value->Sem Value)(r:V->Hp->VK->Prop):Prop :=
 ∀(pq:bF) (s:Shared) (σ:St) (H:Hp) (x:V) (v:Value) (Q:VK),Inv X pq σ H s->RelV x v->r x H Q->
  wpAny (model X.prog X.w) X.A (f v) (EP X pq σ Q) X.xe s
def fR(X:Cx)(f:Value)(r:List V->Hp->VK->Prop):Prop :=
 ∀(pq:bF) (s:Shared) (σ:St) (H:Hp) (xs:List V) (us:List Value) (Q:VK),Inv X pq σ H s->Vals xs us->r xs H Q->
  wpAny (model X.prog X.w) X.A (call f us) (EP X pq σ Q) X.xe s
def LM(r:R2)(ta tb:TE):TE:=fun σ H Q=>ta σ H fun x H1=>tb σ H1 fun y H2=>r x y H2 Q
def tUn(r:V->Hp->VK->Prop)(ta:TE):TE:=fun σ H Q=>ta σ H fun x H1=>r x H1 Q
def rI(C:Int->Int->Prop)(g:Int->Int->V):R2:=fun x y H Q=>∃ i j,x = .int i/\y = .int j/\C i j/\Q (g i j) H
def EU(g:Int->Int->V):R2:=fun x y H Q=>∃ i j,x = .int i/\y = .int j/\Q (g i j) H
def rU(g:Int->V):V->Hp->VK->Prop:=fun x H Q=>∃ i,x = .int i/\Q (g i) H
section
variable {X:Cx}{a b c:Expr}{ta tb tc:TE}{pos:Pos}
theorem LN(ha:PE X a ta)(hb:PE X b tb){pq:bF}{s:Shared}{σ:St}{H:Hp}{R:V->V->Hp->Prop}(I:Inv X pq σ H s)
 (h:ta σ H fun x H1=>tb σ H1 fun y H2=>R x y H2) {Q:gj} {f:Value->Value->Sem Value}
 (hf:∀ v u s2 x y H2,Inv X pq σ H2 s2->RelV x v->RelV y u->R x y H2->wpAny (model X.prog X.w) X.A (f v u) Q X.xe s2) :
 wpAny (model X.prog X.w) X.A (eval a X.env) (fun v s₁=>wpAny (model X.prog X.w) X.A (eval b X.env) (fun u s₂=>wpAny (model X.prog X.w) X.A (f v u) Q X.xe s₂) X.xe s₁) X.xe s:=by
 refine fP (ha pq s σ H _ I h) fun v s1 ⟨x,H1,I1,r1,q1⟩=>?_
 refine fP (hb pq s1 σ H1 _ I1 q1) fun u s2 ⟨y,H2,I2,r2,q2⟩=>?_
 exact hf v u s2 x y H2 I2 r1 r2 q2
theorem az{op:Operator}{r:R2}(ho:mZ X (binaryOp op) r)(ha:PE X a ta)(hb:PE X b tb):PE X (.BinOp a op b pos) (LM r ta tb):=by
 intro pq s σ H Q I h;exact wpAny_BinOp (LN ha hb I h fun v u s2 x y H2 I2 rx ry q=>ho pq s2 σ H2 x y v u Q I2 rx ry q)
theorem uw{op:UnaryOp}{r:V->Hp->VK->Prop}(ho:SH X (unaryOp op) r)(ha:PE X a ta):PE X (.UnaryOp op a pos) (tUn r ta):=by
 intro pq s σ H Q I h;exact UnaryOp_ (fP (ha pq s σ H _ I h) fun v s1 ⟨x,H1,I1,r1,q1⟩=>ho pq s1 σ H1 x v Q I1 r1 q1)
theorem Np{f:Value->Value->Sem Value}{C:Int->Int->Prop}{g:Int->Int->Int}
 (rule:∀(i j:Int) (t u:Tok) (s:Shared) (Q:gj) (E:gj),C i j->Q (.int (g i j) s.toks) { s with toks:=s.toks+1}->wpAny (model X.prog X.w) X.A (f (.int i t) (.int j u)) Q E s) :
 mZ X f (rI C fun i j=>.int (g i j)):=by
 intro pq s σ H x y v u Q I rx ry h;obtain⟨i,j,rfl,rfl,hc,q⟩:=h;obtain⟨t,rfl⟩:=rx;obtain⟨t',rfl⟩:=ry;exact rule i j t t' s _ _ hc ⟨.int (g i j),H,I.tok _,⟨_,rfl⟩,q⟩
theorem EV{f:Value->Value->Sem Value}{g:Int->Int->Int}
 (rule:∀(i j:Int) (t u:Tok) (s:Shared) (Q:gj) (E:gj),Q (.int (g i j) s.toks) { s with toks:=s.toks+1}->wpAny (model X.prog X.w) X.A (f (.int i t) (.int j u)) Q E s) :
 mZ X f (EU fun i j=>.int (g i j)):=by
 intro pq s σ H x y v u Q I rx ry h;obtain⟨i,j,rfl,rfl,q⟩:=h;obtain⟨t,rfl⟩:=rx;obtain⟨t',rfl⟩:=ry;exact rule i j t t' s _ _ ⟨.int (g i j),H,I.tok _,⟨_,rfl⟩,q⟩
theorem JH{f:Value->Value->Sem Value}{g:Int->Int->Bool}
 (rule:∀(i j:Int) (t u:Tok) (s:Shared) (Q:gj) (E:gj),Q (.bool (g i j)) s->wpAny (model X.prog X.w) X.A (f (.int i t) (.int j u)) Q E s) :
 mZ X f (EU fun i j=>.bl (g i j)):=by
 intro pq s σ H x y v u Q I rx ry h;obtain⟨i,j,rfl,rfl,q⟩:=h;obtain⟨t,rfl⟩:=rx;obtain⟨t',rfl⟩:=ry;exact rule i j t t' s _ _ ⟨.bl (g i j),H,I,rfl,q⟩
def JI(i j:Int):Prop:=0<j/\j<1073741824
def NV(i j:Int):Prop:=0<=j/\j<=1000000/\i.natAbs<2^64
def LO(i j:Int):Prop:=(-(2^64)<i/\i<2^64)\/(-(2^64)<j/\j<2^64)
theorem LO.ok{i j:Int}(h:LO i j):IntMulOk i j:=by
 rcases h with⟨h1,h2⟩|⟨h1,h2⟩
 ·exact .of_left (intBits_le_64 h1 h2)
 ·exact .of_right (intBits_le_64 h1 h2)
theorem CI(k:Nat):(0:Int)<=2^k:=by
 rw[two_pow_cast];exact Int.natCast_nonneg _
theorem cG:mZ X (binaryOp .Add) (EU fun i j=>.int (i+j)):=EV fun _ _ _ _ _ _ _ q=>add_int q
theorem jS:mZ X (binaryOp .Sub) (EU fun i j=>.int (i-j)):=EV fun _ _ _ _ _ _ _ q=>sub_int q
theorem qg:mZ X (binaryOp .Mult) (rI LO fun i j=>.int (i*j)):=Np fun _ _ _ _ _ _ _ hc q=>mul_int q hc.ok
theorem cR:mZ X (binaryOp .FloorDiv) (rI JI fun i j=>.int (i/j)):=Np fun i j _ _ _ _ _ hc q=>by
 have h1:(0:Int)<j:=hc.1;have h2:j<1073741824:=hc.2;exact floordiv_int (by lia) (by rw[Int.fdiv_eq_ediv_of_nonneg i (by lia)];exact q) (.inl (PyProof.noPylong_small (by lia)))
theorem bz:mZ X (binaryOp .Mod) (rI (fun _ j=>0<j) fun i j=>.int (i%j)):=Np fun i j _ _ _ _ _ hc q=>by
 have h1:(0:Int)<j:=hc;exact mod_int' (by lia) (by rw[Int.fmod_eq_emod_of_nonneg i (by lia)];exact q)
theorem GK:mZ X (binaryOp .Pow) (rI NV fun i j=>.int (i^j.toNat)):=Np fun _ _ _ _ _ _ _ hc q=>pow_int_small hc.1 hc.2.1 hc.2.2 q
theorem je:mZ X (binaryOp .LShift) (rI NV fun i j=>.int (i*2^j.toNat)):=Np fun _ _ _ _ _ _ _ hc q=>lshift_int_small hc.1 hc.2.1 hc.2.2 q
theorem qh:mZ X (binaryOp .RShift) (rI (fun _ j=>0<=j) fun i j=>.int (i/2^j.toNat)):=Np fun i j _ _ _ _ _ hc q =>
 rshift_int hc (by rw[Int.fdiv_eq_ediv_of_nonneg i (CI _)];exact q)
theorem kP:mZ X (binaryOp .BitAnd) (EU fun i j=>.int (Builtin.bitAnd i j)):=EV fun _ _ _ _ _ _ _ q=>and_int q
theorem vE:mZ X (binaryOp .BitXor) (EU fun i j=>.int (Builtin.bitXor i j)):=EV fun _ _ _ _ _ _ _ q=>xor_int q
theorem D6:mZ X (inplaceOp .Add) (EU fun i j=>.int (i+j)):=EV fun _ _ _ _ _ _ _ q=>iadd_int q
theorem LP:mZ X (inplaceOp .BitOr) (EU fun i j=>.int (Builtin.bitOr i j)):=EV fun _ _ _ _ _ _ _ q=>ior_int q
theorem unI{f:Value->Sem Value}{g:Int->Int}
 (rule:∀(i:Int) (t:Tok) (s:Shared) (Q:gj) (E:gj),Q (.int (g i) s.toks) { s with toks:=s.toks+1}->wpAny (model X.prog X.w) X.A (f (.int i t)) Q E s) :
 SH X f (rU fun i=>.int (g i)):=by
 intro pq s σ H x v Q I rx h;obtain⟨i,rfl,q⟩:=h;obtain⟨t,rfl⟩:=rx;exact rule i t s _ _ ⟨.int (g i),H,I.tok _,⟨_,rfl⟩,q⟩
theorem nE:SH X (unaryOp .USub) (rU fun i=>.int (-i)):=unI fun _ _ _ _ _ q=>neg_int q
end
def LQ:V->V->Bool
 | .eS,.eS=>true | .eS,.int _=>true | .int _,.eS=>true | .eS,.bl _=>true | .bl _,.eS=>true | .eS,.str _=>true | .str _,.eS=>true
 | .int _,.int _=>true | .bl _,.bl _=>true | .str _,.str _=>true | .GC _,.GC _=>true
 | .int _,.str _=>true | .str _,.int _=>true | .bl _,.str _=>true | .str _,.bl _=>true
 | _,_=>false
def rEq:R2:=fun x y H Q=>LQ x y=true/\Q (.bl (decide (x=y))) H
def rNe:R2:=fun x y H Q=>LQ x y=true/\Q (.bl (!decide (x=y))) H
theorem D7{i j:Int}:decide (V.int i=V.int j)=(i==j):=by
 rw[Bool.eq_iff_iff];simp
theorem GL{i j:Bool}:decide (V.bl i=V.bl j)=(i==j):=by
 rw[Bool.eq_iff_iff];simp
theorem D8{i j:Str}:decide (V.str i=V.str j)=(i==j):=by
 rw[Bool.eq_iff_iff];simp
theorem D9{i j:Array UInt8}:decide (V.GC i=V.GC j)=(i.toList==j.toList):=by
 rw[Bool.eq_iff_iff];cases i;cases j;simp
section
variable {X:Cx}{a b c:Expr}{ta tb tc:TE}{pos:Pos}
theorem bJ{pq:bF}{σ:St}{H:Hp}{s:Shared}{Q:VK}{k k' : Bool}(I:Inv X pq σ H s)(q:Q (.bl k) H)(e:k=k'):EP X pq σ Q (.bool k') s:=by
 subst e;exact⟨.bl k,H,I,rfl,q⟩
theorem cz:mZ X (compareOp .Eq) rEq:=by
 intro pq s σ H x y v u Q I rx ry h;obtain⟨hs,q⟩:=h;cases x with
 | eS =>
   cases rx;cases y with
   | eS=>cases ry;exact PySem.EqNone.eq_none_none (bJ I q (by simp))
   | bl j=>cases ry;exact PySem.EqNone.eq_none_bool (bJ I q (by simp))
   | int j=>obtain⟨t',rfl⟩:=ry;exact PySem.EqNone.eq_none_int (bJ I q (by simp))
   | str j=>obtain⟨t',rfl⟩:=ry;exact PySem.EqNone.eq_none_str (bJ I q (by simp))
   | _=>exact absurd (show false=true from hs) Bool.false_ne_true
 | bl i =>
   cases rx;cases y with
   | eS=>cases ry;exact PySem.EqNone.eq_bool_none (bJ I q (by simp))
   | bl j=>cases ry;exact eq_bool (bJ I q GL)
   | str j=>obtain⟨t',rfl⟩:=ry;exact PySem.EqMixed.eq_bool_str (bJ I q (by simp))
   | _=>exact absurd (show false=true from hs) Bool.false_ne_true
 | int i =>
   obtain⟨t,rfl⟩:=rx;cases y with
   | eS=>cases ry;exact PySem.EqNone.eq_int_none (bJ I q (by simp))
   | int j=>obtain⟨t',rfl⟩:=ry;exact eq_int (bJ I q D7)
   | str j=>obtain⟨t',rfl⟩:=ry;exact PySem.EqMixed.eq_int_str (bJ I q (by simp))
   | _=>exact absurd (show false=true from hs) Bool.false_ne_true
 | str i =>
   obtain⟨t,rfl⟩:=rx;cases y with
   | eS=>cases ry;exact PySem.EqNone.eq_str_none (bJ I q (by simp))
   | bl j=>cases ry;exact PySem.EqMixed.eq_str_bool (bJ I q (by simp))
   | int j=>obtain⟨t',rfl⟩:=ry;exact PySem.EqMixed.eq_str_int (bJ I q (by simp))
   | str j=>obtain⟨t',rfl⟩:=ry;exact eq_str (bJ I q D8)
   | _=>exact absurd (show false=true from hs) Bool.false_ne_true
 | GC i =>
   obtain⟨t,rfl⟩:=rx;cases y with
   | GC j=>obtain⟨t',rfl⟩:=ry;exact PySem.W.eq_bytes (bJ I q D9)
   | _=>exact absurd (show false=true from hs) Bool.false_ne_true
 | _=>cases y<;>exact absurd (show false=true from hs) Bool.false_ne_true
theorem qL:mZ X (compareOp .NotEq) rNe:=by
 intro pq s σ H x y v u Q I rx ry h;obtain⟨hs,q⟩:=h;cases x with
 | eS =>
   cases rx;cases y with
   | eS=>cases ry;exact PySem.EqNone.ne_none_none (bJ I q (by simp))
   | bl j=>cases ry;exact PySem.EqNone.ne_none_bool (bJ I q (by simp))
   | int j=>obtain⟨t',rfl⟩:=ry;exact PySem.EqNone.ne_none_int (bJ I q (by simp))
   | str j=>obtain⟨t',rfl⟩:=ry;exact PySem.EqNone.ne_none_str (bJ I q (by simp))
   | _=>exact absurd (show false=true from hs) Bool.false_ne_true
 | bl i =>
   cases rx;cases y with
   | eS=>cases ry;exact PySem.EqNone.ne_bool_none (bJ I q (by simp))
   | bl j=>cases ry;exact ne_bool (bJ I q (congrArg not GL))
   | str j=>obtain⟨t',rfl⟩:=ry;exact PySem.EqMixed.ne_bool_str (bJ I q (by simp))
   | _=>exact absurd (show false=true from hs) Bool.false_ne_true
 | int i =>
   obtain⟨t,rfl⟩:=rx;cases y with
   | eS=>cases ry;exact PySem.EqNone.ne_int_none (bJ I q (by simp))
   | int j=>obtain⟨t',rfl⟩:=ry;exact ne_int (bJ I q (congrArg not D7))
   | str j=>obtain⟨t',rfl⟩:=ry;exact PySem.EqMixed.ne_int_str (bJ I q (by simp))
   | _=>exact absurd (show false=true from hs) Bool.false_ne_true
 | str i =>
   obtain⟨t,rfl⟩:=rx;cases y with
   | eS=>cases ry;exact PySem.EqNone.ne_str_none (bJ I q (by simp))
   | bl j=>cases ry;exact PySem.EqMixed.ne_str_bool (bJ I q (by simp))
   | int j=>obtain⟨t',rfl⟩:=ry;exact PySem.EqMixed.ne_str_int (bJ I q (by simp))
   | str j=>obtain⟨t',rfl⟩:=ry;exact ne_str (bJ I q (congrArg not D8))
   | _=>exact absurd (show false=true from hs) Bool.false_ne_true
 | GC i =>
   obtain⟨t,rfl⟩:=rx;cases y with
   | GC j=>obtain⟨t',rfl⟩:=ry;exact PySem.W.ne_bytes (bJ I q (congrArg not D9))
   | _=>exact absurd (show false=true from hs) Bool.false_ne_true
 | _=>cases y<;>exact absurd (show false=true from hs) Bool.false_ne_true
theorem vF:mZ X (compareOp .Lt) (EU fun i j=>.bl (decide (i<j))):=JH fun _ _ _ _ _ _ _ q=>lt_int q
theorem Ea:mZ X (compareOp .LtE) (EU fun i j=>.bl (decide (i<=j))):=JH fun _ _ _ _ _ _ _ q=>le_int q
theorem Eb:mZ X (compareOp .Gt) (EU fun i j=>.bl (decide (j<i))):=JH fun _ _ _ _ _ _ _ q=>gt_int q
theorem vG:mZ X (compareOp .GtE) (EU fun i j=>.bl (decide (j<=i))):=JH fun _ _ _ _ _ _ _ q=>ge_int q
theorem jf:mZ X (compareOp .Is) (fun x y H Q=>y = .eS/\Q (.bl (decide (x = .eS))) H):=by
 intro pq s σ H x y v u Q I rx ry h;obtain⟨rfl,q⟩:=h;cases ry;refine is_none_gen (bJ I q ?_);cases x<;>first
  | (cases rx;rfl)
  | (obtain⟨t,rfl⟩:=rx;rfl)
theorem lZ:mZ X (compareOp .IsNot) (fun x y H Q=>y = .eS/\Q (.bl (!decide (x = .eS))) H):=by
 intro pq s σ H x y v u Q I rx ry h;obtain⟨rfl,q⟩:=h;cases ry;refine isnot_none_gen (bJ I q ?_);cases x<;>first
  | (cases rx;rfl)
  | (obtain⟨t,rfl⟩:=rx;rfl)
theorem aC(b:Expr){op:CmpOp}(h:op≠.In:=by decide)(h2:op≠.NotIn:=by decide):behindInMarks op b=false:=by
 have e1:(op==CmpOp.In)=false:=by cases op<;>first | rfl | exact absurd rfl h
 have e2:(op==CmpOp.NotIn)=false:=by cases op<;>first | rfl | exact absurd rfl h2
 cases b<;>simp[behindInMarks,e1,e2]
theorem bN{op:CmpOp}{r:R2}(ho:mZ X (compareOp op) r)(ha:PE X a ta)(hb:PE X b tb)(hm:behindInMarks op b=false):PE X (.Compare a [op] [b] pos) (LM r ta tb):=by
 intro pq s σ H Q I h;exact wpAny_Compare1 (LN ha hb I h fun v u s2 x y H2 I2 rx ry q=>ho pq s2 σ H2 x y v u Q I2 rx ry q) hm
def NW(t:TE):TT:=fun σ H Q=>t σ H fun x H'=>∃ k,x = .bl k/\Q k H'
theorem aD{op:CmpOp}{r:R2}(ho:mZ X (compareOp op) r)(ha:PE X a ta)(hb:PE X b tb)(hm:behindInMarks op b=false):PT X (.Compare a [op] [b] pos) (NW (LM r ta tb)):=by
 intro pq s σ H Q I h;refine wpAny_isTrue_Compare1 (fP (ha pq s σ H _ I h) fun v s1 ⟨x,H1,I1,r1,q1⟩=>fP (hb pq s1 σ H1 _ I1 q1) fun u s2 ⟨y,H2,I2,r2,q2⟩ =>
  fP (ho pq s2 σ H2 x y v u _ I2 r1 r2 q2) fun c s3 ⟨z,H3,I3,r3,k,e,q3⟩=>?_) hm
 subst e;cases r3;exact wpAny_truthy_bool ⟨H3,I3,q3⟩
theorem vH:(sizeLine:Nat)<2^63:=by rw[sizeLine_eq];decide
theorem vals1{x:V}{us:List Value}(r:Vals [x] us):∃ u,us=[u]/\RelV x u:=by
 cases r with
 | cons r1 r2=>cases r2;exact⟨_,rfl,r1⟩
theorem vals2{x y:V}{us:List Value}(r:Vals [x,y] us):∃ u w',us=[u,w']/\RelV x u/\RelV y w':=by
 cases r with
 | cons r1 r2 =>
   cases r2 with
   | cons r3 r4=>cases r4;exact⟨_,_,rfl,r1,r3⟩
theorem Bj:fR X (.builtin "abs") (fun xs H Q=>∃ i,xs=[.int i]/\Q (.int (if i<0 then -i else i)) H):=by
 intro pq s σ H xs us Q I r h;obtain⟨i,rfl,q⟩:=h;obtain⟨u,rfl,t,rfl⟩:=vals1 r;exact call_abs_int fun u tk=>⟨.int (if i<0 then -i else i),H,I.tok _,⟨_,rfl⟩,q⟩
theorem EW(hc:X.calm=true):fR X (.builtin "max") (fun xs H Q=>∃ i j,xs=[.int i,.int j]/\Q (.int (if j > i then j else i)) H):=by
 intro pq s σ H xs us Q I r h;obtain⟨i,j,rfl,q⟩:=h;obtain⟨u,w',rfl,⟨t,rfl⟩,⟨t',rfl⟩⟩:=vals2 r;refine max_two_ints (I.ok.hd hc) fun h' tk k=>⟨_,H,I.kept k,?_,q⟩
 by_cases hj:j > i
 ·rw[if_pos hj,if_pos hj];exact⟨_,rfl⟩
 ·rw[if_neg hj,if_neg hj];exact⟨_,rfl⟩
theorem EX(hc:X.calm=true):fR X (.builtin "min") (fun xs H Q=>∃ i j,xs=[.int i,.int j]/\Q (.int (if j<i then j else i)) H):=by
 intro pq s σ H xs us Q I r h;obtain⟨i,j,rfl,q⟩:=h;obtain⟨u,w',rfl,⟨t,rfl⟩,⟨t',rfl⟩⟩:=vals2 r;refine min_two_ints (I.ok.hd hc) fun h' tk k=>⟨_,H,I.kept k,?_,q⟩
 by_cases hj:j<i
 ·rw[if_pos hj,if_pos hj];exact⟨_,rfl⟩
 ·rw[if_neg hj,if_neg hj];exact⟨_,rfl⟩
theorem EY:fR X (.type "int") (fun xs H Q=>(∃ i,xs=[.int i]/\Q (.int i) H)\/∃ k,xs=[.bl k]/\Q (.int (if k then 1 else 0)) H):=by
 intro pq s σ H xs us Q I r h;rcases h with⟨i,rfl,q⟩|⟨k,rfl,q⟩
 ·obtain⟨u,rfl,t,rfl⟩:=vals1 r;exact call_int_int ⟨.int i,H,I,⟨_,rfl⟩,q⟩
 ·obtain⟨u,rfl,r1⟩:=vals1 r;cases r1;exact call_int_bool ⟨.int (if k then 1 else 0),H,I.tok _,⟨_,rfl⟩,q⟩
end
structure LR(h:Heap)(x dx C:Addr)(mA:iI):Prop where
 obj:h.get? x=some (PySem.W.instObj C dx)
 ns:h.Ns1 dx mA
 ne:dx≠x
theorem EZ{h:Heap}{dx:Addr}{mA:iI}(n:h.Ns1 dx mA):∃ od,h.get? dx=some od/\∀ name,PySem.W.lookIn name od=some (mA name):=by
 obtain⟨o,es,ep,ho,hd,hk,_,hm⟩:=n;refine⟨o,ho,fun name=>?_⟩
 have e:=hm name;unfold nsFind findBy at e;rw[<-Array.find?_toList]at e;unfold PySem.W.lookIn;rw[hd];dsimp only
 split
 ·rename_i y q
  rw[q]at e;exact congrArg some e
 ·rename_i q
  rw[q]at e;have a:es.toList.any (·.refKey)=false:=by
   rw[List.any_eq_false];intro y hy;obtain⟨z,t,hkey⟩:=hk y (Array.mem_toList_iff.mp hy);simp[DictEntry.refKey,hkey]
  have a' : ¬ es.toList.any (·.refKey)=true:=by rw[a];exact Bool.false_ne_true
  rw[if_neg a'];exact congrArg some e
theorem LR.look{h:Heap}{x dx C:Addr}{mA:iI}(I:LR h x dx C mA):∃ od,PySem.W.InstAt h x (PySem.W.instObj C dx) C (some od)/\∀ name,PySem.W.lookIn name od=some (mA name) :=
 let⟨od,ho,hl⟩:=EZ I.ns
 ⟨od,⟨I.obj,rfl,rfl,ho⟩,hl⟩
section
variable {P:Program}{w:World}{H H' : Hp}{h h' : Heap}{a C dx:Addr}{fs fs' : List (Str×V)}
theorem JJ(hok:sO P w H h)(e:H a=some (.ins C dx fs)):∃ mA,LR h a dx C mA/\(∀ f,LC (fs.lookup f) (mA f))/\PySem.Within mA (fs.map (·.1))/\fs.length<=1000/\H dx=some (.own a):=by
 obtain⟨d,z,ne,ob,mA,n,r,q⟩:=(show cY P w H h a (.ins C dx fs) from hok a _ e)
 exact⟨mA,⟨ob,n,ne⟩,r,q,z,d⟩
end
structure SI(K:bI)(C:Addr):Prop where
 pg:PySem.W.plainGet K C Str.empty=true
 hd:PySem.W.hasDictIn K C=true
 po:PySem.W.plainOver K C=true
 sa:PySem.W.findIn K (.ref C) "__setattr__"=some (some (.builtin "object.__setattr__"))
theorem SI.get{K:bI}{C:Addr}(c:SI K C)(f:Str):PySem.W.plainGet K C f=true:=c.pg
section
variable {X:Cx}{pq:bF}{σ:St}{H:Hp}{s:Shared}{A:Around}{E:gj}{Q:gj}{c:Value}{b:Bool}
inductive sS(K:bI)(H:Hp):V->Value->Prop where
 | eS:sS K H .eS (.type "NoneType")
 | bl (x:Bool):sS K H (.bl x) (.type "bool")
 | int (i:Int):sS K H (.int i) (.type "int")
 | str (x:Str):sS K H (.str x) (.type "str")
 | Nj (x:UInt64):sS K H (.Nj x) (.type "float")
 | lst {a:Addr} {xs:List V} (e:H a=some (.lst xs)):sS K H (.ref a) (.type "list")
 | CF {a:Addr} {o:Obj} {xs:List V} (e:H a=some (.CF o (.lst xs))):sS K H (.ref a) (.type "list")
 | tup {a:Addr} {xs:List V} (e:H a=some (.tup xs)):sS K H (.ref a) (.type "tuple")
 | dK {a:Addr} {kvs:List (Key×V)} (e:H a=some (.dK kvs)):sS K H (.ref a) (.type "dict")
 | dT {a:Addr} {kvs:List (List Key×V)} (e:H a=some (.dT kvs)):sS K H (.ref a) (.type "dict")
 | ins {a C dx:Addr} {fs:List (Str×V)} (e:H a=some (.ins C dx fs)) (cl:SI K C) (ha:PySem.W.findIn K (.ref C) "__class__"=some (some (.builtin "object.__class__")))
  (hn:PySem.W.specialIn K (.builtin "object.__class__") "__get__"=some (some (.builtin "getset_descriptor.__get__"))) (htk:PySem.W.takesIn K (.builtin "object.__class__")=some true)
  (hm:PySem.W.mroIn K C (.type "object")=some true):sS K H (.ref a) (.ref C)
theorem E2{x:V}{u t:Value}(I:Inv X pq σ H s)(rx:RelV x u)(ty:sS X.K H x t)(e:PySem.W.kitOne X.K t c=some b)(h:∀ tk,Q (.bool b) { s with toks:=tk}):
 wpAny (model X.prog X.w) A (call (.builtin "isinstance") [u,c]) Q E s:=by
 cases ty with
 | eS=>cases(show u=Value.none from rx);exact PySem.W.kia_one PySem.W.kitx_none I.x8 True.intro e (fun z=>nomatch z) h
 | bl y=>cases(show u=Value.bool y from rx);exact PySem.W.kia_one PySem.W.kitx_bool I.x8 True.intro e (fun z=>nomatch z) h
 | int i=>obtain⟨t,q⟩:=(show ∃ t,u=Value.int i t from rx);cases q;exact PySem.W.kia_one PySem.W.kitx_int I.x8 True.intro e (fun z=>nomatch z) h
 | str y=>obtain⟨t,q⟩:=(show ∃ t,u=Value.str y t from rx);cases q;exact PySem.W.kia_one PySem.W.kitx_str I.x8 True.intro e (fun z=>nomatch z) h
 | Nj y=>obtain⟨t,q⟩:=(show ∃ t,u=Value.float y t from rx);cases q;exact PySem.W.kia_one PySem.W.kitx_float I.x8 True.intro e (fun z=>nomatch z) h
 | @lst a xs ea =>
   cases(show u=Value.ref a from rx)
   obtain⟨_,_,n,_,h1⟩:=(show cY X.prog X.w H s.heap a (.lst xs) from I.hok a _ ea)
   exact PySem.W.kia_one PySem.W.kitx_list I.x8 ⟨_,h1,rfl⟩ e (fun z=>nomatch z) h
 | @CF a ob xs ea =>
   cases(show u=Value.ref a from rx)
   obtain⟨_,_,_,n,_,h1⟩:=(show cY X.prog X.w H s.heap a (.CF ob (.lst xs)) from I.hok a _ ea)
   exact PySem.W.kia_one PySem.W.kitx_list I.x8 ⟨_,h1,rfl⟩ e (fun z=>nomatch z) h
 | @tup a xs ea =>
   cases(show u=Value.ref a from rx)
   obtain⟨_,_,_,p⟩:=(show cY X.prog X.w H s.heap a (.tup xs) from I.hok a _ ea)
   obtain⟨o,h1,h2,_⟩:=p;exact PySem.W.kia_one PySem.W.kitx_tuple I.x8 ⟨o,h1,h2⟩ e (fun z=>nomatch z) h
 | @dK a kvs ea =>
   cases(show u=Value.ref a from rx)
   obtain⟨_,_,vs,_,p⟩:=(show cY X.prog X.w H s.heap a (.dK kvs) from I.hok a _ ea)
   obtain⟨o,es,ep,h1,h2,_⟩:=p;exact PySem.W.kia_one PySem.W.kitx_dict I.x8 ⟨o,h1,h2.1⟩ e (fun z=>nomatch z) h
 | @dT a kvs ea =>
   cases(show u=Value.ref a from rx)
   obtain⟨_,_,xs,_,o,es,ep,h1,h2,_⟩:=(show cY X.prog X.w H s.heap a (.dT kvs) from I.hok a _ ea)
   exact PySem.W.kia_one PySem.W.kitx_dict I.x8 ⟨o,h1,h2.1⟩ e (fun z=>nomatch z) h
 | @ins a C dx fs ea cl ha hn htk hm =>
   cases(show u=Value.ref a from rx)
   obtain⟨mA,O,_⟩:=JJ I.hok ea;obtain⟨od,J,_⟩:=O.look;exact PySem.W.kia_one (PySem.W.kitx_own (cl.get _) cl.hd ha hn htk hm) I.x8 J e (fun z=>nomatch z) h
end
structure lz(k:Nat)(A:Around):Prop where
 hd:A.handled=none
 dp:A.depth+3*k+5<recursionLimit
 un:A.units+16*k+200<cLine
theorem lz.mono{j k:Nat}{A:Around}(r:lz k A)(h:j<=k):lz j A:=⟨r.hd,by have:=r.dp;lia,by have:=r.un;lia⟩
theorem lz.deeper{k:Nat}{A:Around}(r:lz (k+1) A)(env:Env):lz k (A.deeper env) :=
 ⟨r.hd,by have:=r.dp;show A.depth+1+3*k+5<_;lia,by have:=r.un;show A.units+3+16*k+200<_;lia⟩
theorem lz.depth{k:Nat}{A:Around}(r:lz k A):A.depth<recursionLimit:=by have:=r.dp;lia
theorem lz.units{k:Nat}{A:Around}(r:lz k A):A.units+64<cLine:=by have:=r.un;lia
def LS:TA:=fun _ H Q=>Q [] H
def Bk(ta:TE)(tr:TA):TA:=fun σ H Q=>ta σ H fun x H1=>tr σ H1 fun xs H2=>Q (x::xs) H2
section
variable {X:Cx}{e:Expr}{es:List Expr}{te:TE}{t:TA}{pos:Pos}
theorem af:PA X [] LS:=fun _ _ _ _ H Q I h=>Calls.spliced_nil ⟨[],H,I,.nil,h⟩
theorem aa(ha:PE X e te)(hr:PA X es t)(hs:starEach (e::es) X.env=(false,eval e X.env)::starEach es X.env:=by rfl):PA X (e::es) (Bk te t):=by
 intro pos pq s σ H Q I h;rw[hs];show wpAny _ _ (spliced ((false,eval e X.env)::backTo pos (starEach es X.env))) _ _ s;refine Calls.spliced_cons (fP (ha pq s σ H _ I h) fun u s1 ⟨x,H1,I1,r1,q1⟩=>?_)
 exact fP (hr pos pq s1 σ H1 _ I1 q1) fun us s2 ⟨xs,H2,I2,r2,q2⟩=>⟨x::xs,H2,I2,.cons r1 r2,q2⟩
def LU(t:TA):TE:=fun σ H Q=>t σ H fun xs H1=>xs.length<=sizeLine/\∀ p,H1 p=none->Q (.ref p) (upd H1 p (.tup xs))
def SJ(t:TA):TE:=fun σ H Q=>t σ H fun xs H1=>xs.length<=sizeLine/\∀ p,H1 p=none->Q (.ref p) (upd H1 p (.lst xs))
theorem cZ{x1}(h:PA X es t):PE X (.Tuple es x1 pos) (LU t):=by
 intro pq s σ H Q I hq;refine wpAny_Tuple_spliced (fP (h pos pq s σ H _ I hq) fun us s1 ⟨xs,H1,I1,r,z,q⟩=>⟨by rw[<-r.length];exact z,?_⟩)
 have hf:H1 s1.heap.objs.size=none:=I1.hok.fresh (Nat.le_refl _);refine⟨.ref s1.heap.objs.size,upd H1 s1.heap.objs.size (.tup xs),I1.laid (t':=s1.toks) (fun b u e=>Heap.get?_push_of_some _ e) (Nat.le_refl _) ?_,rfl,q _ hf⟩
 exact⟨z,us,r,⟨_,Heap.get?_push_size _ rfl,rfl,_,rfl⟩⟩
theorem bQ(h:PA X es t):PE X (.List es pos) (SJ t):=by
 intro pq s σ H Q I hq;refine wpAny_List_spliced (fP (h pos pq s σ H _ I hq) fun us s1 ⟨xs,H1,I1,r,z,q⟩=>⟨by rw[<-r.length];exact z,?_⟩)
 have hf:H1 s1.heap.objs.size=none:=I1.hok.fresh (Nat.le_refl _);refine⟨.ref s1.heap.objs.size,upd H1 s1.heap.objs.size (.lst xs),I1.laid (t':=s1.toks) (fun b u e=>Heap.get?_push_of_some _ e) (Nat.le_refl _) ?_,rfl,q _ hf⟩
 exact⟨z,us,0,r,Heap.get?_push_size _ rfl⟩
end
abbrev Sp:=List V->Hp->VK->XK->Prop
abbrev GN:=List Env->Hp->Shared->XK->Value->Shared->Prop
structure E3(P:Program)(w:World)(K:bI)(mg:iI)(base:Heap)(A:Around)(outer:List Env)(s:Shared)(H:Hp):Prop where
 frames:A.frames=some outer
 mod:Mod K mg base
 bs:∀ b o,base.get? b=some o->s.heap.get? b=some o/\H b=none
 Jy:base.objs.size<=s.heap.objs.size
 funs:s.heap.FunFrames base outer
 Jz:∀ b∈frs outer,H b=none
 hok:sO P w H s.heap
 bare:AllBare s.gens
def CE(outer:List Env)(P:Program)(w:World)(H:Hp)(s:Shared)(Q:VK)(u:Value)(s' : Shared):Prop :=
 ∃ v H',s'.os=s.os/\AllBare s'.gens/\Un (frs outer) [] H H' s.heap s'.heap/\sO P w H' s'.heap/\RelV v u/\Q v H'
def CR(CX:GN)(outer:List Env)(P:Program)(w:World)(H:Hp)(s:Shared)(Q:VK)(E:XK)(r:Result)(s' : Shared):Prop :=
 match r with
 | .ok (.ret u)=>CE outer P w H s Q u s'
 | .ok _=>False
 | .error e=>CX outer H s E e s'
structure aP(P:Program)(w:World)(K:bI)(mg:iI)(base:Heap)(CX:GN)(k:Nat)(f:Addr)(fd:FuncData)(ps:List Str)(sp:Sp):Prop where
 len:∀ vs H Q E,sp vs H Q E->vs.length=ps.length
 run:∀(A:Around) (outer:List Env) (s:Shared) (H:Hp) (args:Args) (us:List Value) (vs:List V) (Q:VK) (E:XK),lz k A->E3 P w K mg base A outer s H->BindsTo s fd args (ps.zip us)->Vals vs us->sp vs H Q E->
  codeAny (model P w) A (.call (.ref f) args) (CR CX outer P w H s Q E) s
section
variable {X:Cx}{pq:bF}{σ:St}{H:Hp}{s s' : Shared}
theorem Inv.NX(I:Inv X pq σ H s):E3 X.prog X.w X.K X.mg X.base X.A X.stack s H :=
 ⟨I.ok.frames,I.ok.mod,I.bs,Nat.le_trans I.ok.Jy I.sz,I.stack,I.zU,I.hok,I.bare⟩
theorem Inv.after{Q:VK}{u:Value}(I:Inv X pq σ H s)(h:CE X.stack X.prog X.w H s Q u s'):EP X pq σ Q u s':=by
 obtain⟨v,H',os,bare,un,hok,r,q⟩:=h;obtain⟨hh,g,d,t,os'⟩:=s';obtain rfl:os' = s.os:=os;exact⟨v,H',I.call (h':=hh) (g':=g) (d':=d) (t':=t) (ch:=[]) un hok bare (fun b z=>absurd z (by simp)),r,q⟩
end
def K6(sp:Sp)(E4:List V)(E:XK)(t:TA):TE:=fun σ H Q=>t σ H fun vs H1=>sp (vs++E4) H1 Q E
def Binds(K:bI)(fd:FuncData)(ps:List Str)(ds:List Value):Prop :=
 ∀(s:Shared) (us:List Value),K.In s.heap->(us++ds).length=ps.length->BindsTo s fd ⟨us,[]⟩ (ps.zip (us++ds))
theorem Binds.all{K:bI}{fd:FuncData}{ps:List Str}(h:∀ us:List Value,us.length=ps.length->bindArgs fd ⟨us,[]⟩=pure (ps.zip us)):Binds K fd ps []:=fun s us _ hl=>by
 rw[List.append_nil]at hl ⊢;exact .of_eq (h us hl)
def Passes(CX:GN)(X:Cx)(E:XK):Prop:=∀(pq:bF) (σ:St) (H:Hp) (s:Shared) (e:Value) (s' : Shared),Inv X pq σ H s->CX X.stack H s E e s'->X.xe e s'
section
variable {X:Cx}{CX:GN}{k:Nat}{f C:Addr}{fd:FuncData}{ps:List Str}{sp:Sp}{E4:List V}{ds:List Value}{E:XK}{x m:Str}{p pos apos:Pos}{e o:Expr}{es:List Expr}{ta:TE}{t:TA}
theorem LV{pq:bF}{σ:St}{H:Hp}{s:Shared}{Q:VK}{us:List Value}{vs:List V}(F:aP X.prog X.w X.K X.mg X.base CX k f fd ps sp)(hr:lz k X.A)(hb:Binds X.K fd ps ds)(hd:Vals E4 ds)(hx:Passes CX X E)
 (I:Inv X pq σ H s) (r:Vals vs us) (h:sp (vs++E4) H Q E):wpAny (model X.prog X.w) X.A (call (.ref f) us) (EP X pq σ Q) X.xe s:=by
 have r2:Vals (vs++E4) (us++ds):=r.append hd;have hl:(us++ds).length=ps.length:=by rw[<-r2.length];exact F.len _ _ _ _ h
 refine wpAny_call (codeAny_mono (F.run X.A X.stack s H ⟨us,[]⟩ (us++ds) (vs++E4) Q E hr I.NX (hb s us I.x8 hl) r2 h) fun r s' hq=>?_)
 cases r with
 | error e=>exact hx pq σ H s e s' I hq
 | ok fl =>
   cases fl with
   | ret u=>exact I.after hq
   | next=>exact False.elim hq
   | brk=>exact False.elim hq
   | cont=>exact False.elim hq
theorem aB(F:aP X.prog X.w X.K X.mg X.base CX k f fd ps sp)(hr:lz k X.A)(hg:Gl X x)(hm:X.mg x=some (.ref f))(hk:PySem.W.keepIn X.K (.ref f)=true)(hb:Binds X.K fd ps ds)(hd:Vals E4 ds)(hx:Passes CX X E)
 (ha:PA X (e::es) t) (hdb:(x==("__debug__":Str))=false:=by decide) (he:starEach (e::es) X.env=(false,eval e X.env)::starEach es X.env:=by rfl) (hpl:(backTo pos (starEach es X.env)).any (·.1)=false:=by rfl) :
 PE X (.Call (.Name x p) (e::es) [] pos) (K6 sp E4 E t):=by
 intro pq s σ H Q I h;refine wpAny_Call_Name_kw (qK I hg hm ?_ hdb);refine PySem.W.callWith_K (h₀:=X.base) I.ok.mod.Nm hk (fP (ha pos pq s σ H _ I h) fun us s1 ⟨vs,H1,I1,r,q⟩=>⟨I1.x8,?_⟩) he hpl
 exact LV F hr hb hd hx I1 r q
end
structure aI(N P:List Str)(sc:Scope):Prop where
 kind:sc.kind = .function
 co:sc.isCoroutine=false
 gen:sc.isGenerator=false
 nd:N.Nodup
 pre:N.take P.length=P
 par:∀ x∈P,sc.names.lookup x=some .local\/sc.names.lookup x=some .cell
 LW:∀ y∈sc.names,y.2≠.free
theorem yL{kindOf:Str->Option NameKind}{x:Str}:∀{binds:List (Str×Value)} {m:iI},(∀ v,(x,v)∉binds)->bindL kindOf binds m x=m x
 | [],_,_=>rfl
 | (n,v)::r,m,h=>by
   unfold bindL;rw[yL fun w hw=>h w (CB _ hw)]
   split
   ·have:x≠n:=by rintro rfl;exact h v List.mem_cons_self
    simp[this]
   ·rfl
theorem yM{kindOf:Str->Option NameKind}{x:Str}:∀{binds:List (Str×Value)} {m:iI},(∀ v,(x,v)∉binds)->bindC kindOf binds m x=m x
 | [],_,_=>rfl
 | (n,v)::r,m,h=>by
   unfold bindC;rw[yM fun w hw=>h w (CB _ hw)]
   split
   ·rfl
   ·have:x≠n:=by rintro rfl;exact h v List.mem_cons_self
    simp[this]
theorem yN{kindOf:Str->Option NameKind}{x:Str}{v:Value}:∀{P:List Str} {vs:List Value} {i:Nat} {m:iI},P.Nodup->P[i]?=some x->vs[i]?=some v->kindOf x=some .local->
 bindL kindOf (P.zip vs) m x=some v
 | [],_,_,_,_,h,_,_=>by simp at h
 | _::_,[],_,_,_,_,h,_=>by simp at h
 | p::P,w::vs,0,m,nd,h1,h2,hk=>by
   simp at h1 h2;subst h1;subst h2;show bindL kindOf ((p,w)::P.zip vs) m p=_;unfold bindL;rw[yL fun v hv=>(List.nodup_cons.mp nd).1 (List.of_mem_zip hv).1,if_pos hk]
   simp
 | p::P,w::vs,i+1,m,nd,h1,h2,hk=>by
   show bindL kindOf ((p,w)::P.zip vs) m x=_;unfold bindL;exact yN (i:=i) (List.nodup_cons.mp nd).2 (by simpa using h1) (by simpa using h2) hk
theorem yO{kindOf:Str->Option NameKind}{x:Str}{v:Value}:∀{P:List Str} {vs:List Value} {i:Nat} {m:iI},P.Nodup->P[i]?=some x->vs[i]?=some v->kindOf x≠some .local->
 bindC kindOf (P.zip vs) m x=some v
 | [],_,_,_,_,h,_,_=>by simp at h
 | _::_,[],_,_,_,_,h,_=>by simp at h
 | p::P,w::vs,0,m,nd,h1,h2,hk=>by
   simp at h1 h2;subst h1;subst h2;show bindC kindOf ((p,w)::P.zip vs) m p=_;unfold bindC;rw[yM fun v hv=>(List.nodup_cons.mp nd).1 (List.of_mem_zip hv).1,if_neg hk]
   simp
 | p::P,w::vs,i+1,m,nd,h1,h2,hk=>by
   show bindC kindOf ((p,w)::P.zip vs) m x=_;unfold bindC;exact yO (i:=i) (List.nodup_cons.mp nd).2 (by simpa using h1) (by simpa using h2) hk
def start(N:List Str)(vs:List V):St:=vs.map some++List.replicate (N.length-vs.length) none
def qM(CX:GN)(P:Program)(w:World)(K:bI)(mg:iI)(base:Heap)(N:List Str)(qual:Str)(scope:Scope)(f:Addr)(cd:Value)(A:Around)(outer:List Env)(s:Shared)(H:Hp)(E:XK):Cx where
 prog:=P
 w:=w
 K:=K
 mg:=mg
 base:=base
 A:=A.deeper (envOfC qual scope s.heap.objs.size f cd)
 N:=N
 s₀:=s
 H₀:=H
 env:=envOfC qual scope s.heap.objs.size f cd
 outer:=outer
 stack:=envOfC qual scope s.heap.objs.size f cd::outer
 ex:=[]
 calm:=true
 fn:=fun _=>true
 pn:=[]
 xe:=fun e s'=>wpAny (model P w) (A.deeper (envOfC qual scope s.heap.objs.size f cd)) (leaving (envOfC qual scope s.heap.objs.size f cd) e) (fun _ s''=>CX outer H s E e s'') (fun e' s''=>CX outer H s E e' s'') s'
theorem Bl{sc:Scope}{n:Nat}{x:Str}(h:sc.names.lookup x=some .cell):∃ c,(cellsFrom n sc.names []).lookup x=some c:=by
 have q:=PySem.W.cellsFrom_some sc.names n [] (.inl h);exact Option.isSome_iff_exists.mp q
theorem yP{CX:GN}{P:Program}{w:World}{K:bI}{mg:iI}{base:Heap}{N ps:List Str}{qual:Str}{scope:Scope}{f:Addr}{cd:Value}{A:Around}{outer:List Env}{s s1:Shared}{H:Hp}{E:XK}{us:List Value}{vs:List V}
 (S:aI N ps scope) (hd:A.handled=none) (e0:E3 P w K mg base A outer s H) (hl:vs.length=ps.length) (r:Vals vs us)
 (x:InCallC s s.heap.objs.size (bindL (envOfC qual scope s.heap.objs.size f cd).kindOf (ps.zip us) fun _=>none) (cellsFrom (s.heap.objs.size+1) scope.names []) (bindC (envOfC qual scope s.heap.objs.size f cd).kindOf (ps.zip us) fun _=>none) s1) :
 Inv (qM CX P w K mg base N qual scope f cd A outer s H E) [] (start N vs) H s1:=by
 have hpl:ps.length<=N.length:=by have:=congrArg List.length S.pre;rw[List.length_take]at this;lia
 obtain⟨h1,tk,rfl,hk⟩:=x.done;have NY:∀ b:Addr,b∉(qM CX P w K mg base N qual scope f cd A outer s H E).ex:=fun b z=>absurd (show b∈([]:List Addr) from z) (by simp)
 refine⟨⟨e0.mod,S.kind,rfl,rfl,Nat.le_refl _,fun y z c h1 h2=>?_,fun y hy=>?_,fun y c _ h=>?_,fun _=>hd,Around.frames_deeper e0.frames,.inr ⟨rfl,rfl⟩,fun b z=>absurd z (NY b),e0.bs,e0.Jy,fun b _ _=>NY b,fun b z=>absurd z (NY b),e0.funs,e0.Jz⟩,
  rfl,e0.bare,Un.kept hk,⟨_,x.toInCall.ns,fun i y v h1 h2 h3=>?_⟩,fun y c h=>⟨_,x.cell y c h⟩,e0.hok.fresh (Nat.le_refl _),fun y c h=>?_,fun p hp=>absurd (show p∈([]:bF) from hp) (by simp),e0.hok.kept hk,?_⟩
 ·exact name_of_addr x.apart (PySem.mem_of_lookup h1) (PySem.mem_of_lookup h2)
 ·have hy:scope.names.lookup y=some .cell\/scope.names.lookup y=some .free:=hy;rcases hy with hy|hy
  ·exact Bl hy
  ·exact absurd rfl (S.LW _ (PySem.mem_of_lookup hy))
 ·exact Nat.le_of_lt (x.above y c (PySem.mem_of_lookup h))
 ·have hi:i<vs.length:=by
   unfold start at h2
   by_cases hi:i<vs.length
   ·exact hi
   ·rw[List.getElem?_append_right (by simpa using hi)]at h2
    rw[List.getElem?_replicate]at h2
    split at h2<;>cases h2
  have ha:vs[i]?=some v:=by
   unfold start at h2;rw[List.getElem?_append_left (by simpa using hi),List.getElem?_map]at h2
   cases e:vs[i]? with
   | none=>rw[e]at h2;cases h2
   | some a=>rw[e]at h2;cases h2;rfl
  obtain⟨u,hu,rv⟩:=r.get ha;have hp:ps[i]?=some y:=by
   rw[<-S.pre,List.getElem?_take_of_lt (by lia)];exact h1
  have ndP:ps.Nodup:=by rw[<-S.pre];exact S.nd.sublist (List.take_sublist _ _)
  refine⟨u,rv,?_⟩;rcases S.par y (nB hp) with k|k
  ·exact .inl ⟨k,yN ndP hp hu k⟩
  ·obtain⟨c,e⟩:=Bl (n:=s.heap.objs.size+1) k;refine .inr ⟨.inl k,c,e,?_⟩;have q:=x.cell y c e;rw[yO ndP hp hu (by show scope.names.lookup y≠_;rw[k];decide)]at q
   exact q
 ·exact e0.hok.fresh (Nat.le_of_lt (x.above y c (PySem.mem_of_lookup h)))
 ·unfold start;show _=N.length;rw[List.length_append,List.length_map,List.length_replicate]
  lia
theorem K7{CX:GN}{P:Program}{w:World}{K:bI}{mg:iI}{base:Heap}{k:Nat}{f:Addr}{name qual:Str}{params:Arguments}{body:List Stmt}{scope:Scope}{dV kV doc pm cdv ct oc:Value}{an od:Option Addr}
 {osl:Array (Option Value)} {N ps:List Str} {sp:Sp} (lk:K.lookup f=some ⟨oc,od,.func (PySem.W.fnOf name qual params body scope dV kV doc pm an cdv ct),osl⟩) (hcd:PySem.W.codeIn K cdv qual=true) (S:aI N ps scope)
 (len:∀ vs H Q E,sp vs H Q E->vs.length=ps.length)
 (hbody:∀(A:Around) (outer:List Env) (s:Shared) (H:Hp) (vs:List V) (Q:VK) (E:XK),lz k (A.deeper (envOfC qual scope s.heap.objs.size f cdv))->sp vs H Q E->
  ∃ t,x6 (qM CX P w K mg base N qual scope f cdv A outer s H E) body t/\t { nx:=fun _ H'=>Q .eS H',rt:=Q} (start N vs) H) :
 aP P w K mg base CX (k+1) f (PySem.W.fnOf name qual params body scope dV kV doc pm an cdv ct) ps sp:=by
 refine⟨len,fun A outer s H args us vs Q E hr e0 hb r zX=>?_⟩
 have hl:=len _ _ _ _ zX;have KX:K.In s.heap:=e0.mod.Nm.keeps fun b o e=>(e0.bs b o e).1
 have lim:s.heap.NoLimit:=e0.mod.nolimit.keeps fun b o e=>(e0.bs b o e).1
 have hkind:∀ y∈ps.zip us,scope.names.lookup y.1=some .local\/(scope.names.lookup y.1=some .cell/\((cellsFrom (s.heap.objs.size+1) scope.names []).lookup y.1).isSome=true):=fun⟨n,v⟩ hy=>by
  rcases S.par n (List.of_mem_zip hy).1 with q|q
  ·exact .inl q
  ·exact .inr ⟨q,PySem.W.cellsFrom_some _ _ _ (.inl q)⟩
 refine codeAny_call_function hr.depth (KX _ _ lk) rfl S.co S.gen rfl (PySem.W.codeRec_of KX hcd) (hb _ _ _ _ ?_);refine wpAny_newFunctionEnv_cells S.kind hkind fun env he s1 x=>?_
 subst he;refine⟨lim.keeps x.toInCall.keep,codeAny_func ?_⟩;obtain⟨t,ht,hq⟩:=hbody A outer s H vs Q E (hr.deeper _) zX;have I:Inv (qM CX P w K mg base N qual scope f cdv A outer s H E) [] (start N vs) H s1:=yP S hr.hd e0 hl r x;refine wpAny_mono (ht [] s1 (start N vs) H _ I hq) (fun fl s' hs=>?_) fun e s' hs=>hs
 have fin:∀{σ' : St} {H' : Hp} {v:V} {u:Value},Inv (qM CX P w K mg base N qual scope f cdv A outer s H E) [] σ' H' s'->RelV v u->Q v H'->CE outer P w H s Q u s' :=
  fun {σ' H' v u} J rv q=>⟨v,H',J.os,J.bare,J.base,J.hok,rv,q⟩
 cases fl with
 | ret u =>
   obtain⟨v,σ',H',J,rv,q⟩:=hs;exact fin J rv q
 | next =>
   obtain⟨σ',H',J,q⟩:=hs;exact fin (v:=V.eS) (u:=Value.none) J rfl q
 | brk =>
   obtain⟨_,_,_,q⟩:=hs;exact False.elim q
 | cont =>
   obtain⟨_,_,_,q⟩:=hs;exact False.elim q
section
variable {X:Cx}{x:Str}{p pos:Pos}{e:Expr}{es:List Expr}{t:TA}{id T:String}{r:List V->Hp->VK->Prop}
def tCB(r:List V->Hp->VK->Prop)(t:TA):TE:=fun σ H Q=>t σ H fun vs H1=>r vs H1 Q
theorem aF(hc:fR X (.builtin id) r)(hg:Gl X x)(hm:X.mg x=none)(hv:bootBuiltins x=some (.builtin id))(ha:PA X (e::es) t)(hn:x≠"__name__":=by decide)(hdb:(x==("__debug__":Str))=false:=by decide)
 (he:starEach (e::es) X.env=(false,eval e X.env)::starEach es X.env:=by rfl) (hpl:(backTo pos (starEach es X.env)).any (·.1)=false:=by rfl):PE X (.Call (.Name x p) (e::es) [] pos) (tCB r t):=by
 intro pq s σ H Q I h;refine wpAny_Call_Name_kw (lX I hg hm hv ?_ hn hdb);exact PyProof.Rows.callWith_builtin1 (fP (ha pos pq s σ H _ I h) fun us s1 ⟨vs,H1,I1,r1,q1⟩=>hc pq s1 σ H1 vs us Q I1 r1 q1) he hpl
theorem cD(hc:fR X (.type T) r)(hg:Gl X x)(hm:X.mg x=none)(hv:bootBuiltins x=some (.type T))(ha:PA X (e::es) t)(hn:x≠"__name__":=by decide)(hdb:(x==("__debug__":Str))=false:=by decide)
 (he:starEach (e::es) X.env=(false,eval e X.env)::starEach es X.env:=by rfl) (hpl:(backTo pos (starEach es X.env)).any (·.1)=false:=by rfl):PE X (.Call (.Name x p) (e::es) [] pos) (tCB r t):=by
 intro pq s σ H Q I h;refine wpAny_Call_Name_kw (lX I hg hm hv ?_ hn hdb);exact PyProof.Rows.callWith_type1 (fP (ha pos pq s σ H _ I h) fun us s1 ⟨vs,H1,I1,r1,q1⟩=>hc pq s1 σ H1 vs us Q I1 r1 q1) he hpl
end
end L2
namespace HT
open PySem PyProof.Rows
section
variable {prog:Program}{w:World}{A:Around}{E:gj}{s:Shared}
theorem JK{t b:Addr}{vs ws:List Value}{Q:gj}(ht:IsTup s.heap t vs.toArray)(hb:IsTup s.heap b ws.toArray)(hv:vs≠[])
 (h1:ws=[]->Q (.ref t) s) (h2:ws≠[]->Q (.ref s.heap.objs.size) { s with heap:=s.heap.push { cls:=.type "tuple",data:=.seq (vs++ws).toArray}})
 (hsz:vs.length+ws.length<=sizeLine):wpAny (model prog w) A (binaryOp .Add (.ref t) (.ref b)) Q E s:=by
 obtain⟨⟨cls,dd,data,sl⟩,ho,hc,n,hd⟩:=id ht;obtain⟨⟨NZ,dd2,data2,sl2⟩,ho2,hc2,n2,hd2⟩:=id hb;simp only at hc hd hc2 hd2;subst hc hd hc2 hd2;have e:vs.toArray++ws.toArray=(vs++ws).toArray:=by simp
 by_cases hw:ws=[]
 ·exact concat_meets ⟨_,ho,rfl⟩ ⟨_,ho2,rfl⟩ noFill_tuple_add seq_tuple_add PySem.F.slot_tuple_add PySem.F.entry_tuple_add (PySem.F.args_tuple_add_2 _ _)
   (tuple_addW1 t b vs.toArray ws.toArray n n2 dd dd2 sl sl2 (by simpa using hv) (by simp[hw])) ⟨ho,ho2,h1 hw⟩
 ·refine concat_meets ⟨_,ho,rfl⟩ ⟨_,ho2,rfl⟩ noFill_tuple_add seq_tuple_add PySem.F.slot_tuple_add PySem.F.entry_tuple_add (PySem.F.args_tuple_add_2 _ _)
   (tuple_addW2 t b vs.toArray ws.toArray n n2 dd dd2 sl sl2 (by simpa using hv) (by simpa using hw) (by rw[List.size_toArray,List.size_toArray];exact hsz)) ⟨ho,ho2,?_⟩
  rw[e];exact h2 hw
def eU(n d:Nat):Option Int->Nat
 | none=>d
 | some v=>if v<0 then(v+(n:Int)).toNat else min v.toNat n
theorem vI(n d:Nat):eU n d none=d:=rfl
theorem vf(n d k:Nat):eU n d (some (k:Int))=min k n:=by
 show(if(k:Int)<0 then((k:Int)+(n:Int)).toNat else min (k:Int).toNat n)=min k n
 rw[if_neg (by lia),Int.toNat_natCast]
theorem LX(n d:Nat)(hd:d<=n)(o:Option Int):eU n d o<=n:=by
 cases o with
 | none=>exact hd
 | some v =>
   show(if v<0 then(v+(n:Int)).toNat else min v.toNat n)<=n
   by_cases hv:v<0
   ·rw[if_pos hv];lia
   ·rw[if_neg hv];exact Nat.min_le_right _ _
theorem Ec(v:Int)(n d:Nat):(if v<0 then max (v+(n:Int)) 0 else min v (n:Int))=((eU n d (some v):Nat):Int):=by
 show(if v<0 then max (v+(n:Int)) 0 else min v (n:Int))=(((if v<0 then(v+(n:Int)).toNat else min v.toNat n):Nat):Int)
 by_cases hv:v<0
 ·simp only[if_pos hv];lia
 ·simp only[if_neg hv];lia
theorem CJ(lo hi:Option Int)(n:Nat):Builtin.Slice.sliceAdjust lo hi 1 (n:Int)=(((eU n 0 lo:Nat):Int),((eU n n hi:Nat):Int)):=by
 have h1 : ¬((1:Int)<0):=by lia
 unfold Builtin.Slice.sliceAdjust;simp only[h1,if_false];refine Prod.ext ?_ ?_
 ·cases lo with
  | none=>rfl
  | some v=>exact Ec v n 0
 ·cases hi with
  | none=>rfl
  | some v=>exact Ec v n n
theorem CK(i j:Nat):Builtin.Slice.slicePlaces (i:Int) (j:Int) 1=j-i:=by
 unfold Builtin.Slice.slicePlaces;have h1:(1:Int) > 0:=by lia
 simp only[h1,if_true,Int.ediv_one]
 split<;>lia
theorem vJ{v:Value}{o:Option Int}{Q:Option Int->Shared->Prop}(p:IsPart v o)(h:Q o s):wpAny (model prog w) A (Builtin.Slice.slicePartIndex v) Q E s:=by
 cases p with
 | none=>exact slicePart_none h
 | int i t=>exact slicePart_int h
theorem lA{sl:Addr}{vl vu:Value}{lo hi:Option Int}{n:Nat}{Q:Int×Int×Nat->Shared->Prop}(hs:s.heap.IsSliceOf sl vl vu .none)(pl:IsPart vl lo)(pu:IsPart vu hi)
 (h:Q (((eU n 0 lo:Nat):Int),1,eU n n hi-eU n 0 lo) s):wpAny (model prog w) A (Builtin.Slice.sliceApplied (.ref sl) (pure (n:Int))) Q E s:=by
 obtain⟨os,hos,hcs,hds⟩:=id hs;unfold Builtin.Slice.sliceApplied Builtin.Slice.sliceFields;refine wpAny_bind (wpAny_bind (wpAny_field hos hds (x:=vl) rfl (wpAny_bind (wpAny_field hos hds (x:=vu) rfl (wpAny_bind (wpAny_field hos hds (x:=.none) rfl (wpAny_pure ?_)))))));refine wpAny_bind (slicePart_none ?_);show wpAny _ _ (if((1:Int)==0)=true then _ else _) _ _ s
 rw[if_neg (by decide)]
 refine wpAny_bind (vJ pl (wpAny_bind (vJ pu (wpAny_bind (wpAny_pure ?_)))));show wpAny _ _ (match Builtin.Slice.sliceAdjust lo hi 1 (n:Int) with | (lo,hi)=>pure (lo,(1:Int),Builtin.Slice.slicePlaces lo hi 1)) _ _ s
 rw[CJ lo hi n];show wpAny _ _ (pure (((eU n 0 lo:Nat):Int),(1:Int),Builtin.Slice.slicePlaces ((eU n 0 lo:Nat):Int) ((eU n n hi:Nat):Int) 1)) _ _ s;rw[CK];exact wpAny_pure h
theorem GO(xs:Array Value)(i k:Nat):((List.range k).filterMap fun(m:Nat)=>xs[((i:Int)+(m:Int)*1).toNat]?).toArray=((xs.toList.drop i).take k).toArray:=by
 have e:(fun(m:Nat)=>xs[((i:Int)+(m:Int)*1).toNat]?)=fun m=>xs[i+m]?:=by
  funext m
  have:((i:Int)+(m:Int)*1).toNat=i+m:=by lia
  rw[this]
 rw[e];have:=pick_run xs i k;rw[List.filterMap_map]at this;have e2:((fun x=>xs[x]?)∘fun x=>i+x)=fun m=>xs[i+m]?:=rfl
 rw[e2]at this;rw[this]
theorem qN{t sl:Addr}{items:Array Value}{vl vu:Value}{lo hi:Option Int}{Q:gj}(ht:IsTup s.heap t items)(hs:s.heap.IsSliceOf sl vl vu .none)(pl:IsPart vl lo)(pu:IsPart vu hi)
 (hw : ¬(eU items.size 0 lo=0/\eU items.size items.size hi=items.size))
 (h:Q (.ref s.heap.objs.size) { s with heap:=s.heap.push { cls:=.type "tuple",data:=.seq ((items.toList.drop (eU items.size 0 lo)).take (eU items.size items.size hi-eU items.size 0 lo)).toArray}})
 (hsz:items.size<=sizeLine):wpAny (model prog w) A (getItem (.ref t) (.ref sl)) Q E s:=by
 have Ed:sizeOk (.seq ((items.toList.drop (eU items.size 0 lo)).take (eU items.size items.size hi-eU items.size 0 lo)).toArray):=by
  show((items.toList.drop (eU items.size 0 lo)).take (eU items.size items.size hi-eU items.size 0 lo)).toArray.size<=sizeLine;rw[List.size_toArray,List.length_take,List.length_drop,Array.length_toList]
  lia
 have hj:eU items.size items.size hi<=items.size:=LX _ _ (Nat.le_refl _) hi;obtain⟨os,hos,hcs,hds⟩:=id hs;have SK:s.TypeIs (.ref sl) "slice":=⟨os,hos,hcs⟩;unfold getItem
 try with_reducible refine wpAny_holding ?_
 first | refine wpAny_bind (wpAny_pure ?_) | skip
 refine wpAny_bind (wpAny_sequenceKey ht.typeIs (by decide) ?_)
 refine wpAny_bind (wpAny_callSpecial?_slot (name:=Str.ofString "__getitem__") ht.typeIs PyProof.Rows.slot_tuple_getitem
  (wpAny_call_entry PyProof.Rows.slot_tuple_getitem ht.typeIs entry_tuple_getitem ?_ (args_tuple_getitem _ _)))
 show wpAny _ _ (Builtin.Tuple.tupleItemsOf (.ref t) >>= _) _ _ s;refine wpAny_bind (tupleItemsOf_ ht ?_);refine wpAny_bind (wpAny_typeOf SK ?_);rw[if_pos (by decide)]
 refine wpAny_bind (lA hs pl pu ?_);have hno : ¬((((eU items.size 0 lo:Nat):Int)==0&&(1:Int)==1&&(eU items.size items.size hi-eU items.size 0 lo)==items.size)=true):=by
  intro q;rw[Bool.and_eq_true,Bool.and_eq_true]at q;have q1:((eU items.size 0 lo:Nat):Int)=0:=eq_of_beq q.1.1;have q2:eU items.size items.size hi-eU items.size 0 lo=items.size:=eq_of_beq q.2;exact hw ⟨by lia,by lia⟩
 show wpAny _ _ (if(((eU items.size 0 lo:Nat):Int)==0&&(1:Int)==1&&(eU items.size items.size hi-eU items.size 0 lo)==items.size)=true then _ else _) _ _ s
 rw[if_neg hno,GO]
 first
  | exact wpAny_bind (m:=Builtin.Tuple.tupleExact _) (wpAny_newObj_type (wpAny_pure ⟨_,rfl,wpAny_pure h⟩) Ed)
  | exact wpAny_bind (m:=Builtin.Tuple.tupleExact _) (wpAny_newObj_type (wpAny_bind (wpAny_pure (wpAny_pure ⟨_,rfl,wpAny_pure h⟩))) Ed)
  | exact wpAny_bind (wpAny_bind (m:=Builtin.Tuple.tupleExact _) (wpAny_newObj_type (wpAny_pure (wpAny_pure ⟨_,rfl,wpAny_pure h⟩)) Ed))
  | exact wpAny_bind (wpAny_bind (m:=Builtin.Tuple.tupleExact _) (wpAny_newObj_type (wpAny_pure ⟨_,rfl,wpAny_pure h⟩) Ed))
end
end HT
namespace L2
open PySem PySem.Spec PyProof.Rows
abbrev TO:=St->Hp->(Option Int->Hp->Prop)->Prop
def PO(X:Cx)(e:Option Expr)(t:TO):Prop :=
 ∀(pq:bF) (s:Shared) (σ:St) (H:Hp) (Q:Option Int->Hp->Prop),Inv X pq σ H s->t σ H Q->
  wpAny (model X.prog X.w) X.A (evalPart e X.env) (fun u s'=>∃ o H',Inv X pq σ H' s'/\IsPart u o/\Q o H') X.xe s
def zY:TO:=fun _ H Q=>Q none H
def GP(t:TE):TO:=fun σ H Q=>t σ H fun x H1=>∃ i,x = .int i/\Q (some i) H1
theorem intsAre_of{ns:List Int}:∀{us:List Value},Vals (ns.map V.int) us->IntsAre us ns:=by
 induction ns with
 | nil=>intro us r;rw[List.map_nil]at r;cases r;exact .nil
 | cons n ns ih =>
   intro us r;rw[List.map_cons]at r;cases r with
   | cons r1 r2 =>
     obtain⟨t,e⟩:=r1;subst e;exact .cons n t (ih r2)
section
variable {X:Cx}{e:Expr}{te:TE}{lo hi:Option Expr}{tl th:TO}{pos p2:Pos}
theorem kA:PO X none zY:=by
 intro pq s σ H Q I h;rw[evalPart_none];exact wpAny_pure ⟨none,H,I,.none,h⟩
theorem iK(h:PE X e te):PO X (some e) (GP te):=by
 intro pq s σ H Q I hw;rw[evalPart_some];refine fP (h pq s σ H _ I hw) fun u s1 ⟨x,H1,I1,r1,q1⟩=>?_
 obtain⟨i,rfl,q⟩:=q1;obtain⟨t,rfl⟩:=r1;exact⟨some i,H1,I1,.int i t,q⟩
def QN(X:Cx)(r:V->Option Int->Option Int->Hp->VK->Prop):Prop :=
 ∀(pq:bF) (s:Shared) (σ:St) (H:Hp) (x:V) (v vl vu:Value) (lo hi:Option Int) (sl:Addr) (Q:VK),Inv X pq σ H s->RelV x v->s.heap.IsSliceOf sl vl vu .none->IsPart vl lo->IsPart vu hi->r x lo hi H Q->
  ∃ T id,typeLookup (.type T) "__getitem__"=pure (some (.builtin id))/\s.TypeIs v T/\wpAny (model X.prog X.w) X.A (getItem v (.ref sl)) (EP X pq σ Q) X.xe s
def SM(r:V->Option Int->Option Int->Hp->VK->Prop)(te:TE)(tl th:TO):TE:=fun σ H Q=>te σ H fun x H1=>tl σ H1 fun l H2=>th σ H2 fun u H3=>r x l u H3 Q
theorem gF{r:V->Option Int->Option Int->Hp->VK->Prop}(hr:QN X r)(he:PE X e te)(hl:PO X lo tl)(hu:PO X hi th):PE X (.Subscript e (.Slice lo hi none p2) pos) (SM r te tl th):=by
 intro pq s σ H Q I h;refine Subscript_ (fP (he pq s σ H _ I h) fun v s1 ⟨x,H1,I1,r1,q1⟩=>?_)
 refine wpAny_Slice (fP (hl pq s1 σ H1 _ I1 q1) fun vl s2 ⟨l,H2,I2,pl,q2⟩=>fP (hu pq s2 σ H2 _ I2 q2) fun vu s3 ⟨u,H3,I3,pu,q3⟩=>?_)
 rw[evalPart_none];refine wpAny_pure ?_;have I4:Inv X pq σ H3 { s3 with heap:=s3.heap.push { cls:=.type "slice",data:=.fields #[vl,vu,.none]}}:=I3.kept (t':=s3.toks) fun b ob q=>Heap.get?_push_of_some _ q
 obtain⟨T,id,hT,ht,hg⟩:=hr pq { s3 with heap:=s3.heap.push { cls:=.type "slice",data:=.fields #[vl,vu,.none]}} σ H3 x v vl vu l u s3.heap.objs.size Q I4 r1 (Heap.IsSliceOf.new ..) pl pu q3
 show wpAny (model X.prog X.w) X.A (subscriptTail e (.Slice lo hi none p2) v (.ref s3.heap.objs.size)) (EP X pq σ Q) X.xe { s3 with heap:=s3.heap.push { cls:=.type "slice",data:=.fields #[vl,vu,.none]}}
 exact tail_any (ops:=[.ref s3.heap.objs.size,v]) ht hT hg (by with_unfolding_all rfl)
def pG(xs:List V)(lo hi:Option Int):List V:=(xs.drop (HT.eU xs.length 0 lo)).take (HT.eU xs.length xs.length hi-HT.eU xs.length 0 lo)
theorem ux(xs:List V)(lo hi:Option Int):(pG xs lo hi).length<=xs.length:=by
 unfold pG;rw[List.length_take,List.length_drop]
 lia
def N1(K:bI):R2:=fun x y H Q=>∃ a b xs ys,x = .ref a/\y = .ref b/\aT K H a xs/\aT K H b ys/\xs≠[]/\xs.length+ys.length<=sizeLine/\
 (ys=[]->Q (.ref a) H)/\(ys≠[]->∀ p,H p=none->Q (.ref p) (upd H p (.tup (xs++ys))))
theorem Vals.zZ{xs:List V}{us:List Value}(r:Vals xs us):us=[]↔xs=[]:=by
 cases r with
 | nil=>simp
 | cons _ _=>simp
theorem JL:mZ X (binaryOp .Add) (N1 X.K):=by
 intro pq s σ H x y v u Q I rx ry h;obtain⟨a,b,xs,ys,rfl,rfl,ha,hb,hx,hz,q1,q2⟩:=h;cases rx;cases ry;obtain⟨its,r1,p1,_⟩:=I.tuple ha;obtain⟨its2,r2,p2,_⟩:=I.tuple hb;refine HT.JK p1 p2 (fun z=>hx (r1.zZ.mp z)) (fun z=>⟨.ref a,H,I,rfl,q1 (r2.zZ.mp z)⟩) (fun z=>?_) (by rw[<-r1.length,<-r2.length];exact hz)
 refine⟨.ref s.heap.objs.size,_,I.laid (t':=s.toks) (o:=.tup (xs++ys)) (fun b ob q=>Heap.get?_push_of_some _ q) (Nat.le_refl _) ?_,rfl,q2 (fun w=>z (r2.zZ.mpr w)) _ (I.hok.fresh (Nat.le_refl _))⟩
 exact⟨by rw[List.length_append];exact hz,_,r1.append r2,IsTup.new _ _⟩
end
def Jo(n:Nat)(i:Int):Option Nat:=if 0<=i then(if i<n then some i.toNat else none) else if -(n:Int)<=i then some (i+n).toNat else none
def z7{α:Type}(xs:List α)(i:Int):Option α:=(Jo xs.length i).bind fun j=>xs[j]?
theorem Ef{n:Nat}{i:Int}{j:Nat}(h:Jo n i=some j):seqIndex? i n=some j/\j<n/\-(n:Int)<=i/\i<n:=by
 unfold Jo at h
 by_cases h0:0<=i
 ·rw[if_pos h0]at h
  by_cases h1:i<n
  ·rw[if_pos h1]at h;have e:i.toNat=j:=Option.some.inj h;exact⟨by rw[seqIndex_of h0 h1,e],by lia,by lia,h1⟩
  ·rw[if_neg h1]at h;cases h
 ·rw[if_neg h0]at h
  by_cases h1 : -(n:Int)<=i
  ·rw[if_pos h1]at h;have e:(i+n).toNat=j:=Option.some.inj h;exact⟨by rw[seqIndex_neg (by lia) h1,e],by lia,h1,by lia⟩
  ·rw[if_neg h1]at h;cases h
theorem Eg{α:Type}{xs:List α}{i:Int}{v:α}(h:z7 xs i=some v):∃ j,seqIndex? i xs.length=some j/\xs[j]?=some v/\j<xs.length/\-(xs.length:Int)<=i/\i<xs.length:=by
 unfold z7 at h;cases e:Jo xs.length i with
 | none=>rw[e]at h;cases h
 | some j =>
   rw[e]at h;obtain⟨h1,h2,h3,h4⟩:=Ef e;exact⟨j,h1,h,h2,h3,h4⟩
theorem ai{α:Type}{xs:List α}{j:Nat}{v:α}(h:xs[j]?=some v):z7 xs (j:Int)=some v:=by
 have hj:j<xs.length:=(xZ.mp h).1;have e:Jo xs.length (j:Int)=some j:=by
  unfold Jo;rw[if_pos (by lia),if_pos (by lia)];simp
 unfold z7;rw[e];exact h
def JM(b:Expr):Prop:=∀ o i,subscripted b false o i=operate [o,i] (getItem o i)
def N2(X:Cx)(r:R2):Prop :=
 ∀(value slice:Expr) (pq:bF) (s:Shared) (σ:St) (H:Hp) (x y:V) (v u:Value) (Q:VK),Inv X pq σ H s->RelV x v->RelV y u->r x y H Q->
  subscripted slice false v u=operate [v,u] (getItem v u)->wpAny (model X.prog X.w) X.A (subscriptTail value slice v u) (EP X pq σ Q) X.xe s
def SN(X:Cx)(id:String)(r:V->List V->Hp->VK->Prop):Prop :=
 ∀(pq:bF) (s:Shared) (σ:St) (H:Hp) (x:V) (xs:List V) (v:Value) (us:List Value) (Q:VK),Inv X pq σ H s->RelV x v->Vals xs us->r x xs H Q->
  wpAny (model X.prog X.w) X.A (call (.builtin id) (v::us)) (EP X pq σ Q) X.xe s
section
variable {X:Cx}{a b:Expr}{ta tb:TE}{pos:Pos}
theorem ay{r:R2}(hr:N2 X r)(ha:PE X a ta)(hb:PE X b tb)(hs:JM b):PE X (.Subscript a b pos) (LM r ta tb):=by
 intro pq s σ H Q I h;exact Subscript_ (LN ha hb I h fun v u s2 x y H2 I2 rx ry q=>hr a b pq s2 σ H2 x y v u Q I2 rx ry q (hs _ _))
def N3(K:bI):R2:=fun x y H Q=>∃ p xs i v,x = .ref p/\y = .int i/\aZ K H p xs/\z7 xs i=some v/\Q v H
def N4(K:bI):R2:=fun x y H Q=>∃ p xs i v,x = .ref p/\y = .int i/\aT K H p xs/\z7 xs i=some v/\Q v H
theorem JN:N2 X (N3 X.K):=by
 intro value slice pq s σ H x y v u Q I rx ry h hs;obtain⟨p,xs,i,z,rfl,rfl,hq,he,q⟩:=h;cases rx;obtain⟨t,rfl⟩:=ry;obtain⟨its,r,pl,hz⟩:=I.list hq;obtain⟨j,h1,h2,h3,h4,h5⟩:=Eg he;obtain⟨w,ew,rw'⟩:=r.get h2;have hl:=r.length;have hn:=vH;have fin:EP X pq σ Q w s:=⟨z,H,I,rw',q⟩
 by_cases h0:0<=i
 ·have hj:i.toNat=j:=by
   rw[seqIndex_of h0 h5]at h1;exact Option.some.inj h1
  exact item_listR pl.isList h0 (by lia) (by rw[hj];simpa using ew) fin hs
 ·have hj:(i+(its.toArray.size:Int)).toNat=j:=by
   rw[seqIndex_neg (by lia) h4]at h1
   rw[List.size_toArray,<-hl];exact Option.some.inj h1
  exact subscriptTail_builtinR (x:=w) pl.isList.typeIs slot_list_getitem.lookup
   (wpAny_getItem_list_neg (Q:=fun r s'=>r=w/\EP X pq σ Q r s') pl.isList (by lia) (by rw[List.size_toArray]<;>lia) (by lia) (by rw[hj];simpa using ew) ⟨rfl,fin⟩) hs
theorem LY:N2 X (N4 X.K):=by
 intro value slice pq s σ H x y v u Q I rx ry h hs;obtain⟨p,xs,i,z,rfl,rfl,hq,he,q⟩:=h;cases rx;obtain⟨t,rfl⟩:=ry;obtain⟨its,r,pl,hz⟩:=I.tuple hq;obtain⟨j,h1,h2,h3,h4,h5⟩:=Eg he;obtain⟨w,ew,rw'⟩:=r.get h2;have hl:=r.length;have hn:=vH;have fin:EP X pq σ Q w s:=⟨z,H,I,rw',q⟩;exact subscriptTail_builtinR (x:=w) pl.typeIs slot_tuple_getitem.lookup
  (getItem_tuple (j:=j) (Q:=fun r s'=>r=w/\EP X pq σ Q r s') pl (by lia) (by lia) (by rw[List.size_toArray,<-hl];exact h1) (by simpa using ew) ⟨rfl,fin⟩) hs
theorem CL(its:List Value)(n j:Nat)(u:Value):Obj.mapSeq (·.setIfInBounds j u) { cls:=.type "list",data:=.seq its.toArray n}={ cls:=.type "list",data:=.seq (its.set j u).toArray n}:=by
 simp[Obj.mapSeq]
theorem Inv.lst{pq:bF}{σ:St}{H:Hp}{s:Shared}{p:Addr}{xs:List V}(I:Inv X pq σ H s)(h:H p=some (.lst xs)):
 ∃(its:List Value) (n:Nat),Vals xs its/\s.heap.get? p=some { cls:=.type "list",data:=.seq its.toArray n}/\xs.length<=sizeLine:=by
 obtain⟨z,its,n,r,e⟩:=I.hok p _ h;exact⟨its,n,r,e,z⟩
theorem Inv.LZ{pq:bF}{σ:St}{H:Hp}{s:Shared}{p:Addr}{xs ys:List V}{its its' : List Value}{n n' : Nat}{f:Obj->Obj}(I:Inv X pq σ H s)(h:H p=some (.lst xs))
 (ho:s.heap.get? p=some { cls:=.type "list",data:=.seq its.toArray n}) (hf:f { cls:=.type "list",data:=.seq its.toArray n}={ cls:=.type "list",data:=.seq its'.toArray n'}) (r:Vals ys its') (hz:ys.length<=sizeLine) (t:Nat) :
 Inv X pq σ (upd H p (.lst ys)) { s with heap:=s.heap.update p f,toks:=t}:=by
 have e:(s.heap.update p f).get? p=some { cls:=.type "list",data:=.seq its'.toArray n'}:=by
  rw[Heap.get?_update_self f ho (by rw[hf]<;>rfl),hf]
 refine I.write (x:=p) (e:=p) (by rw[h];trivial) (.inl rfl) (fun b u hb q=>(Heap.get?_update_other _ _ (Ne.symm hb)).trans q) ⟨_,e⟩ ?_
 exact⟨hz,its',n',r,e⟩
def N5:V->V->V->Hp->(Hp->Prop)->Prop:=fun o i v H Q=>∃ p xs k j,o = .ref p/\i = .int k/\H p=some (.lst xs)/\Jo xs.length k=some j/\Q (upd H p (.lst (xs.set j v)))
theorem set_list:LI X N5:=by
 intro pq s σ H o i v ov iv u Q I ro ri rv h;obtain⟨p,xs,k,j,rfl,rfl,hp,hj,q⟩:=h;cases ro;obtain⟨t,rfl⟩:=ri;obtain⟨its,n,r,ho,hz⟩:=I.lst hp;obtain⟨h1,h2,h3,h4⟩:=Ef hj;have hl:=r.length;have hn:=vH;have I' : Inv X pq σ (upd H p (.lst (xs.set j v))) { s with heap:=s.heap.update p (Obj.mapSeq (·.setIfInBounds j u))} :=
  I.LZ hp ho (CL its n j u) (r.set rv j) (by rw[List.length_set];exact hz) s.toks
 by_cases h0:0<=k
 ·have hk:k.toNat=j:=by
   rw[seqIndex_of h0 h4]at h1;exact Option.some.inj h1
  exact PySem.W.ki_setAt ho h0 (by lia) (by rw[List.size_toArray,<-hl];exact h4) (by rw[hk];exact⟨_,I',q⟩)
 ·have hk:(k+(its.toArray.size:Int)).toNat=j:=by
   rw[seqIndex_neg (by lia) h3]at h1
   rw[List.size_toArray,<-hl];exact Option.some.inj h1
  exact PySem.W.ki_setBack ho (by lia) (by rw[List.size_toArray,<-hl];exact h3) (by lia) (by rw[hk];exact⟨_,I',q⟩)
theorem z8(lo hi:Option Int)(n:Nat):(sliceBounds lo hi none n).1=((HT.eU n 0 lo:Nat):Int)/\(sliceBounds lo hi none n).2.1=((HT.eU n n hi:Nat):Int)/\(sliceBounds lo hi none n).2.2=1:=by
 refine⟨?_,?_,rfl⟩
 ·cases lo with
  | none=>simp[sliceBounds,HT.eU]
  | some i =>
    simp only[sliceBounds,HT.eU,Option.getD_none,show(1:Int) > 0 by decide,if_true]
    by_cases h:i<0
    ·simp only[h,if_true]<;>lia
    ·simp only[h,if_false]<;>lia
 ·cases hi with
  | none=>simp[sliceBounds,HT.eU]
  | some i =>
    simp only[sliceBounds,HT.eU,Option.getD_none,show(1:Int) > 0 by decide,if_true]
    by_cases h:i<0
    ·simp only[h,if_true]<;>lia
    ·simp only[h,if_false]<;>lia
theorem x9(its:List Value)(lo hi:Option Int):slicePick its.toArray lo hi none=((its.drop (HT.eU its.length 0 lo)).take (HT.eU its.length its.length hi-HT.eU its.length 0 lo)).toArray:=by
 obtain⟨h1,h2,h3⟩:=z8 lo hi its.toArray.size;unfold slicePick;rw[h1,h2,h3];simp only[sliceRange_one,pick_run,List.size_toArray]<;>rfl
def N6(K:bI):V->Option Int->Option Int->Hp->VK->Prop:=fun x lo hi H Q=>∃ a xs,x = .ref a/\aZ K H a xs/\∀ p,H p=none->Q (.ref p) (upd H p (.lst (pG xs lo hi)))
theorem JO:QN X (N6 X.K):=by
 intro pq s σ H x v vl vu lo hi sl Q I rx hs pl pu h;obtain⟨a,xs,rfl,hx,q⟩:=h;cases rx;obtain⟨its,r,ht,hz⟩:=I.list hx;have hlen:=r.length;refine⟨"list",_,slot_list_getitem.lookup,ht.isList.typeIs,?_⟩;refine wpAny_getItem_list_slice ht.isList hs pl pu .none (by simp) ?_ (by rw[List.size_toArray]<;>lia)
 rw[x9,<-hlen];refine⟨.ref s.heap.objs.size,_,I.laid (t':=s.toks) (o:=.lst (pG xs lo hi)) (fun b ob q=>Heap.get?_push_of_some _ q) (Nat.le_refl _) ?_,rfl,q _ (I.hok.fresh (Nat.le_refl _))⟩
 exact⟨Nat.le_trans (ux xs lo hi) hz,_,0,(r.drop (HT.eU xs.length 0 lo)).take (HT.eU xs.length xs.length hi-HT.eU xs.length 0 lo),Heap.get?_push_size _ rfl⟩
def qO:V->Bool
 | .eS=>true
 | .bl _=>true
 | .int _=>true
 | .str _=>true
 | _=>false
def JP:V->V->Bool
 | .eS,.eS=>true
 | .bl a,.bl b=>a==b
 | .bl a,.int b=>(if a then 1 else 0)==b
 | .int a,.bl b=>a==(if b then 1 else 0)
 | .int a,.int b=>a==b
 | .str a,.str b=>a==b
 | _,_=>false
theorem L6{A:Around}{s:Shared}{y x:V}{u v:Value}(ry:RelV y u)(rx:RelV x v)(fy:qO y=true)(fx:qO x=true):SeqAt.EqAt A s u v (JP y x):=by
 cases y with
 | eS =>
   cases ry;cases x with
   | eS=>cases rx;exact SeqAt.EqAt.same _
   | bl b=>cases rx;exact SeqAt.EqAt.none_bool b
   | int b=>obtain⟨t,rfl⟩:=rx;exact SeqAt.EqAt.none_int b t
   | str b=>obtain⟨t,rfl⟩:=rx;exact SeqAt.EqAt.none_str b t
   | _=>exact absurd (show false=true from fx) Bool.false_ne_true
 | bl a =>
   cases ry;cases x with
   | eS=>cases rx;exact SeqAt.EqAt.bool_none a
   | bl b=>cases rx;exact SeqAt.EqAt.bool_bool a b
   | int b=>obtain⟨t,rfl⟩:=rx;exact SeqAt.EqAt.bool_int a b t
   | str b=>obtain⟨t,rfl⟩:=rx;exact SeqAt.EqAt.bool_str a b t
   | _=>exact absurd (show false=true from fx) Bool.false_ne_true
 | int a =>
   obtain⟨t',rfl⟩:=ry;cases x with
   | eS=>cases rx;exact SeqAt.EqAt.int_none a t'
   | bl b=>cases rx;exact SeqAt.EqAt.int_bool a t' b
   | int b=>obtain⟨t,rfl⟩:=rx;exact SeqAt.EqAt.int_int a t' b t
   | str b=>obtain⟨t,rfl⟩:=rx;exact SeqAt.EqAt.int_str a t' b t
   | _=>exact absurd (show false=true from fx) Bool.false_ne_true
 | str a =>
   obtain⟨t',rfl⟩:=ry;cases x with
   | eS=>cases rx;exact SeqAt.EqAt.str_none a t'
   | bl b=>cases rx;exact SeqAt.EqAt.str_bool a t' b
   | int b=>obtain⟨t,rfl⟩:=rx;exact SeqAt.EqAt.str_int a t' b t
   | str b=>obtain⟨t,rfl⟩:=rx;exact SeqAt.EqAt.str_str a t' b t
   | _=>exact absurd (show false=true from fx) Bool.false_ne_true
 | _=>exact absurd (show false=true from fy) Bool.false_ne_true
def CM(x:V)(u:Value):Bool:=match u with
 | .none=>JP .eS x
 | .bool b=>JP (.bl b) x
 | .int i _=>JP (.int i) x
 | .str z _=>JP (.str z) x
 | _=>false
theorem GQ{x y:V}{u:Value}(r:RelV y u)(f:qO y=true):CM x u=JP y x:=by
 cases y with
 | eS=>cases r;rfl
 | bl b=>cases r;rfl
 | int i=>obtain⟨t,rfl⟩:=r;rfl
 | str z=>obtain⟨t,rfl⟩:=r;rfl
 | _=>exact absurd (show false=true from f) Bool.false_ne_true
theorem qP{x:V}:∀{xs:List V} {us:List Value},Vals xs us->xs.all qO=true->us.any (CM x)=xs.any fun y=>JP y x
 | _,_,.nil,_=>rfl
 | y::xs,u::us,.cons r t,f=>by
   rw[List.all_cons,Bool.and_eq_true]at f;rw[List.any_cons,List.any_cons,GQ r f.1,qP t f.2]
theorem nF{A:Around}{s:Shared}{x:V}{v:Value}(rx:RelV x v)(fx:qO x=true):∀{xs:List V} {us:List Value},Vals xs us->xs.all qO=true->∀ u∈us,SeqAt.EqAt A s u v (CM x u)
 | _,_,.nil,_=>fun u hu=>by cases hu
 | y::xs,u::us,.cons r t,f=>fun u' hu=>by
   rw[List.all_cons,Bool.and_eq_true]at f;rcases List.mem_cons.mp hu with rfl|hu
   ·rw[GQ r f.1];exact L6 r rx f.1 fx
   ·exact nF rx fx t f.2 u' hu
def JQ(x:V)(xs:List V):Bool:=xs.any fun y=>JP y x
def QO(K:bI)(neg:Bool):R2:=fun x y H Q=>∃ p xs,y = .ref p/\(aZ K H p xs\/aT K H p xs)/\qO x=true/\xs.all qO=true/\Q (.bl (if neg then !JQ x xs else JQ x xs)) H
theorem E5:mZ X (compareOp .In) (QO X.K false):=by
 intro pq s σ H x y v u Q I rx ry h;obtain⟨p,xs,rfl,hq,fx,fs,q⟩:=h;cases ry;rcases hq with hq|hq
 ·obtain⟨its,r,pl,hz⟩:=I.list hq;refine SeqAt.in_listAt (CM x) pl.isList (fun w hw=>nF rx fx r fs w (by simpa using hw)) ⟨.bl _,H,I,rfl,?_⟩
  rw[show its.toArray.any (CM x)=its.any (CM x) by simp,qP r fs]
  exact q
 ·obtain⟨its,r,pl,hz⟩:=I.tuple hq;refine SeqAt.in_tupleAt (CM x) pl (fun w hw=>nF rx fx r fs w (by simpa using hw)) ⟨.bl _,H,I,rfl,?_⟩
  rw[show its.toArray.any (CM x)=its.any (CM x) by simp,qP r fs]
  exact q
theorem z9:mZ X (compareOp .NotIn) (QO X.K true):=by
 intro pq s σ H x y v u Q I rx ry h;obtain⟨p,xs,rfl,hq,fx,fs,q⟩:=h;cases ry;rcases hq with hq|hq
 ·obtain⟨its,r,pl,hz⟩:=I.list hq;refine SeqAt.notIn_listAt (CM x) pl.isList (fun w hw=>nF rx fx r fs w (by simpa using hw)) ⟨.bl _,H,I,rfl,?_⟩
  rw[show its.toArray.any (CM x)=its.any (CM x) by simp,qP r fs]
  exact q
 ·obtain⟨its,r,pl,hz⟩:=I.tuple hq;refine SeqAt.notIn_tupleAt (CM x) pl (fun w hw=>nF rx fx r fs w (by simpa using hw)) ⟨.bl _,H,I,rfl,?_⟩
  rw[show its.toArray.any (CM x)=its.any (CM x) by simp,qP r fs]
  exact q
theorem Aa:fR X (.builtin "len") (fun xs H Q=>∃ p ys,xs=[.ref p]/\(aZ X.K H p ys\/aT X.K H p ys)/\Q (.int ys.length) H):=by
 intro pq s σ H xs us Q I r h;obtain⟨p,ys,rfl,hq,q⟩:=h;obtain⟨u,rfl,rx⟩:=vals1 r;cases rx;have hn:=vH;rcases hq with hq|hq
 ·obtain⟨its,r',pl,hz⟩:=I.list hq;have hlen:=r'.length;exact Calls.call_len_list pl.isList (by simp only[List.size_toArray]<;>lia) ⟨.int ys.length,H,I.tok _,⟨s.toks+1,by rw[List.size_toArray,hlen]⟩,q⟩
 ·obtain⟨its,r',pl,hz⟩:=I.tuple hq;have hlen:=r'.length;exact len_tuple pl (by simp only[List.size_toArray]<;>lia) ⟨.int ys.length,H,I.tok _,⟨s.toks+1,by rw[List.size_toArray,hlen]⟩,q⟩
theorem Ab:fR X (.type "list") (fun xs H Q=>∃ p ys,xs=[.ref p]/\(aZ X.K H p ys\/aT X.K H p ys)/\∀ l,H l=none->Q (.ref l) (upd H l (.lst ys))):=by
 intro pq s σ H xs us Q I r h;obtain⟨p,ys,rfl,hq,q⟩:=h;obtain⟨u,rfl,rx⟩:=vals1 r;cases rx;have fin:∀(its:List Value),Vals ys its->ys.length<=sizeLine->∀(h' : Heap) (c' : Nat),(∀ b o',s.heap.get? b=some o'->h'.get? b=some o')->
  h'.get? s.heap.objs.size=some { cls:=.type "list",dict:=none,data:=.seq its.toArray c',slots:=#[]}->EP X pq σ Q (.ref s.heap.objs.size) { s with heap:=h'}:=fun its r' hz h' c' kp e =>
  ⟨.ref s.heap.objs.size,_,I.laid (t':=s.toks) kp (Nat.le_refl _) (show cY X.prog X.w _ h' _ (.lst ys) from⟨hz,its,c',r',e⟩),rfl,q _ (I.hok.fresh (Nat.le_refl _))⟩
 rcases hq with hq|hq
 ·obtain⟨its,r',pl,hz⟩:=I.list hq;have hlen:=r'.length;obtain⟨o,ho,hc,n,hd⟩:=pl.isList;exact call_list_seq p (.inl rfl) ho hc hd (fun h' c' kp e=>fin its r' hz h' c' kp e) (by simp only[List.size_toArray]<;>lia)
 ·obtain⟨its,r',pl,hz⟩:=I.tuple hq;have hlen:=r'.length;obtain⟨o,ho,hc,n,hd⟩:=pl;exact call_list_seq p (.inr rfl) ho hc hd (fun h' c' kp e=>fin its r' hz h' c' kp e) (by simp only[List.size_toArray]<;>lia)
theorem ya:fR X (.type "tuple") (fun xs H Q=>∃ p ys,xs=[.ref p]/\((aZ X.K H p ys/\∀ l,H l=none->Q (.ref l) (upd H l (.tup ys)))\/(aT X.K H p ys/\Q (.ref p) H))):=by
 intro pq s σ H xs us Q I r h;obtain⟨p,ys,rfl,h⟩:=h;obtain⟨u,rfl,rx⟩:=vals1 r;cases rx;rcases h with⟨hq,q⟩|⟨hq,q⟩
 ·obtain⟨its,r',pl,hz⟩:=I.list hq;have hlen:=r'.length;refine call_tuple_list pl.isList (fun h' kp=>?_) (by simp only[List.size_toArray]<;>lia)
  have I1:Inv X pq σ H { s with heap:=h'}:=I.kept (t':=s.toks) kp
  have I2:Inv X pq σ (upd H h'.objs.size (.tup ys)) { s with heap:=h'.push { cls:=.type "tuple",data:=.seq its.toArray}} :=
   I1.laid (t':=s.toks) (fun b o e=>Heap.get?_push_of_some _ e) (Nat.le_refl _) (show cY X.prog X.w _ _ _ (.tup ys) from⟨hz,its,r',IsTup.new _ _⟩)
  exact⟨.ref h'.objs.size,_,I2,rfl,q _ (I1.hok.fresh (Nat.le_refl _))⟩
 ·obtain⟨its,r',pl,hz⟩:=I.tuple hq;exact call_tuple_same pl ⟨.ref p,H,I,rfl,q⟩
def SO(K:bI)(T:String)(x:V)(H:Hp):Prop:=match x with
 | .str _=>T="str"
 | .int _=>T="int"
 | .ref p=>(T="list"/\∃ xs,aZ K H p xs)\/(T="tuple"/\∃ o,K.lookup p=some o/\o.cls = .type "tuple"/\o.dict=none)\/
  (T="dict"/\((∃ kvs,H p=some (.dK kvs))\/∃ kvs,H p=some (.dT kvs)))\/(T="set"/\∃ S n,H p=some (.set S n))
 | _=>False
theorem GR{pq:bF}{σ:St}{H:Hp}{s:Shared}{T:String}{x:V}{v:Value}(I:Inv X pq σ H s)(r:RelV x v)(ty:SO X.K T x H):
 s.TypeIs v T/\∀ a,v = .ref a->∃ ob,s.heap.get? a=some ob/\ob.dict=none:=by
 cases x with
 | str z =>
   obtain⟨t,rfl⟩:=r;cases(show T="str" from ty)
   exact⟨typeIs_str s z t,fun _ e=>nomatch e⟩
 | int i =>
   obtain⟨t,rfl⟩:=r;cases(show T="int" from ty)
   exact⟨typeIs_int s i t,fun _ e=>nomatch e⟩
 | ref p =>
   cases r;rcases ty with⟨rfl,xs,hq⟩|⟨rfl,o,hk,hc,hd⟩|⟨rfl,hk⟩|⟨rfl,S,n,hk⟩
   ·obtain⟨its,_,pl,_⟩:=I.list hq;refine⟨pl.isList.typeIs,fun a e=>?_⟩
    cases e;obtain⟨o,n,e,c,hd,_⟩:=pl;exact⟨o,e,hd⟩
   ·refine⟨⟨o,I.x8 p o hk,hc⟩,fun a e=>?_⟩
    cases e;exact⟨o,I.x8 _ o hk,hd⟩
   ·have z:∃ o,s.heap.get? p=some o/\o.ExactDict:=by
     rcases hk with⟨kvs,hk⟩|⟨kvs,hk⟩
     ·obtain⟨_,_,_,_,o,_,_,e,ex,_⟩:=I.hok p _ hk;exact⟨o,e,ex⟩
     ·obtain⟨_,_,_,_,o,_,_,e,ex,_⟩:=I.hok p _ hk;exact⟨o,e,ex⟩
    obtain⟨o,e,ex⟩:=z;refine⟨⟨o,e,ex.1⟩,fun a e2=>?_⟩
    cases e2;exact⟨o,e,ex.2.1⟩
   ·obtain⟨o,_,_,_,e,ex,_⟩:=I.hok p _ hk;refine⟨⟨o,e,ex.1⟩,fun a e2=>?_⟩
    cases e2;exact⟨o,e,ex.2.1⟩
 | _=>exact False.elim ty
def SQ(K:bI)(T:String)(r:V->List V->Hp->VK->Prop)(to:TE):TE:=fun σ H Q=>to σ H fun x H1=>SO K T x H1/\r x [] H1 Q
def SR(K:bI)(T:String)(r:V->List V->Hp->VK->Prop)(to:TE)(t:TA):TE:=fun σ H Q=>to σ H fun x H1=>SO K T x H1/\t σ H1 fun xs H2=>r x xs H2 Q
variable {o e:Expr}{es:List Expr}{to:TE}{t:TA}{name:Str}{apos cpos:Pos}{T id:String}{r:V->List V->Hp->VK->Prop}
theorem L7(pa:PlainAttrs T)(slot:Slot T name id)(hty:typeOf (.builtin id)=pure (.type "method_descriptor"))(hm:SN X id r)(ho:PE X o to)
 (hbase:attributeBase o name X.env (eval o X.env)=eval o X.env:=by rfl) (hline:(apos.endLine==cpos.line)=true:=by rfl):PE X (.Call (.Attribute o name apos) [] [] cpos) (SQ X.K T r to):=by
 intro pq s σ H Q I h;refine wpAny_Call_method0_late hbase hline (fP (ho pq s σ H _ I h) fun v s1 ⟨x,H1,I1,r1,ty,q1⟩=>?_)
 obtain⟨h1,h2⟩:=GR I1 r1 ty;exact⟨T,id,pa,slot,hty,h1,h2,Calls.callWith_builtin rfl (PySem.evalArgs_none (hm pq s1 σ H1 x [] v [] Q I1 r1 .nil q1))⟩
theorem yQ(pa:PlainAttrs T)(slot:Slot T name id)(hty:typeOf (.builtin id)=pure (.type "method_descriptor"))(hm:SN X id r)(ho:PE X o to)(ha:PA X (e::es) t)
 (hbase:attributeBase o name X.env (eval o X.env)=eval o X.env:=by rfl)
 (hfew:((backTo cpos (starEach (e::es) X.env)).all (fun x=>!x.1)&&(backToKw cpos (keywordEach [] X.env)).all (fun x=>x.1.isSome)
  && decide ((e::es).length+([]:List Keyword).length+(if([]:List Keyword).isEmpty then 0 else 1)<30))=true:=by rfl)
 (hline:(apos.endLine==cpos.line)=true:=by rfl) (hs:starEach (e::es) X.env=(false,eval e X.env)::starEach es X.env:=by rfl) (hplain:(backTo cpos (starEach es X.env)).any (·.1)=false:=by rfl) :
 PE X (.Call (.Attribute o name apos) (e::es) [] cpos) (SR X.K T r to t):=by
 intro pq s σ H Q I h;refine wpAny_Call_method_late hbase hfew hline rfl (fP (ho pq s σ H _ I h) fun v s1 ⟨x,H1,I1,r1,ty,q1⟩=>?_)
 obtain⟨h1,h2⟩:=GR I1 r1 ty;refine⟨T,id,pa,slot,hty,h1,h2,?_⟩;have hA:=ha cpos pq s1 σ H1 _ I1 q1;rw[hs]at hA ⊢;refine Calls.callWith_builtin (by show(false || (backTo cpos (starEach es X.env)).any (·.1))=false;rw[hplain]<;>rfl) (Calls.evalArgs_plain ?_)
 exact fP hA fun us s2 ⟨vs,H2,I2,r2,q2⟩=>hm pq s2 σ H2 x vs v us Q I2 r1 r2 q2
end
def MtM(X:Cx)(id:String)(r:V->List V->Hp->VK->Prop):Prop :=
 ∀(pq:bF) (s:Shared) (σ:St) (H:Hp) (x:V) (xs:List V) (v:Value) (us:List Value) (Q:VK),Inv X pq σ H s->RelV x v->Vals xs us->r x xs H Q->
  wpAny (model X.prog X.w) X.A (call (.builtin id) (v::us)) (EP X pq σ Q) X.xe s
theorem Vals.one:∀{x:V} {us:List Value},Vals [x] us->∃ u,us=[u]/\RelV x u
 | _,_,.cons r .nil=>⟨_,rfl,r⟩
theorem Vals.rep{xs:List V}{us:List Value}(h:Vals xs us):∀ k:Nat,Vals (List.replicate k xs).flatten (List.replicate k us).flatten
 | 0=>.nil
 | k+1=>by
   rw[List.replicate_succ,List.replicate_succ,List.flatten_cons,List.flatten_cons];exact Vals.append h (Vals.rep h k)
theorem foldl_rep(its:List Value):∀(k:Nat) (acc:List Value),
 List.foldl (fun x1 x2=>x1++x2) acc.toArray (List.replicate k its.toArray)=(acc++(List.replicate k its).flatten).toArray
 | 0,acc=>by simp
 | k+1,acc=>by
   have e:acc.toArray++its.toArray=(acc++its).toArray:=by simp
   have e2:(acc++its)++(List.replicate k its).flatten=acc++(List.replicate (k+1) its).flatten:=by
    rw[List.replicate_succ,List.flatten_cons,List.append_assoc]
   rw[<-e2,<-foldl_rep its k (acc++its),<-e,List.replicate_succ,List.foldl_cons]
section
variable {X:Cx}{pq:bF}{σ:St}{H:Hp}{s:Shared}{l b:Addr}{xs ys zs:List V}
theorem Inv.SV{its its' : List Value}{n:Nat}{f:Array Value->Array Value}{t' : Nat}(I:Inv X pq σ H s)(hH:H l=some (.lst xs))
 (e:s.heap.get? l=some { cls:=.type "list",data:=.seq its.toArray n}) (hf:f its.toArray=its'.toArray) (hv:Vals ys its') (hz:ys.length<=sizeLine) :
 Inv X pq σ (upd H l (.lst ys)) { s with heap:=s.heap.update l (Obj.mapSeq f),toks:=t'}:=by
 have q:=PySem.IsL.update e f;rw[hf]at q;refine I.write (x:=l) (e:=l) (by rw[hH];exact trivial) (.inl rfl) (fun b' u hb hu=>(Heap.get?_update_other s.heap (Obj.mapSeq f) (Ne.symm hb)).trans hu) ⟨_,q⟩ ?_
 exact⟨hz,its',_,hv,q⟩
theorem Inv.N7{its:List Value}{t' : Nat}(I:Inv X pq σ H s)(hv:Vals ys its)(hz:ys.length<=sizeLine):
 Inv X pq σ (upd H s.heap.objs.size (.lst ys)) { s with heap:=s.heap.push { cls:=.type "list",data:=.seq its.toArray},toks:=t'} :=
 I.laid (fun _ _ q=>Heap.get?_push_of_some _ q) (Nat.le_refl _) ⟨hz,its,0,hv,Heap.get?_push_size _ rfl⟩
theorem Inv.fresh(I:Inv X pq σ H s):H s.heap.objs.size=none:=I.hok.fresh (Nat.le_refl _)
theorem Inv.N8(I:Inv X pq σ H s)(hH:H l=some (.lst xs)):xs.length<=sizeLine/\∃(its:List Value) (n:Nat),Vals xs its/\xs.length=its.length/\s.heap.get? l=some { cls:=.type "list",data:=.seq its.toArray n}:=by
 obtain⟨z,its,n,r,e⟩:=I.hok l _ hH;exact⟨z,its,n,r,r.length,e⟩
theorem GS{n:Nat}(h:n<=sizeLine):Builtin.List.listTooLong n=false:=by
 unfold Builtin.List.listTooLong;exact h8 (by lia)
end
section
variable {X:Cx}
def JR:V->List V->Hp->VK->Prop:=fun x vs H Q=>∃ l xs y,x = .ref l/\vs=[y]/\H l=some (.lst xs)/\xs.length<sizeLine/\Q .eS (upd H l (.lst (xs++[y])))
theorem ik:MtM X "list.append" JR:=by
 intro pq s σ H x vs v us Q I rx rv h;obtain⟨l,xs,y,rfl,rfl,hH,hz,q⟩:=h;cases rx;obtain⟨u,rfl,ru⟩:=rv.one;obtain⟨z,its,n,r,hl,e⟩:=I.N8 hH;refine call_meets F.slot_list_append ⟨_,e,rfl⟩ F.entry_list_append (F.args_list_append_2 _ _) (PySem.list_append l its.toArray n u (by rw[List.size_toArray];lia)) ⟨e,?_⟩
 refine⟨.eS,_,I.SV (its':=its++[u]) hH e (by simp) (r.append (.cons ru .nil)) ?_,rfl,q⟩
 rw[List.length_append,List.length_singleton]
 lia
def SW:R2:=fun x y H Q=>∃ l k xs,x = .ref l/\y = .int k/\H l=some (.lst xs)/\-(2^63)<=k/\k<2^63/\xs.length*k.toNat<=sizeLine/\
 ∀ p,H p=none->Q (.ref p) (upd H p (.lst (List.replicate k.toNat xs).flatten))
theorem len_rep{α:Type}(xs:List α)(k:Nat):(List.replicate k xs).flatten.length=k*xs.length:=by
 induction k with
 | zero=>simp
 | succ k ih=>rw[List.replicate_succ,List.flatten_cons,List.length_append,ih,Nat.succ_mul,Nat.add_comm]
theorem GU:mZ X (binaryOp .Mult) SW:=by
 intro pq s σ H x y v u Q I rx ry h;obtain⟨l,k,xs,rfl,rfl,hH,h1,h2,hz,q⟩:=h;cases rx;obtain⟨t,rfl⟩:=ry;obtain⟨z,its,n,r,hl,e⟩:=I.N8 hH;have hlen:its.toArray.size*k.toNat<=sizeLine:=by rw[List.size_toArray,<-hl];exact hz
 have SX : ¬ its.toArray.size*k.toNat > (2^63-1)/8:=by
  have:(sizeLine:Nat)<=(2^63-1)/8:=by decide
  lia
 have hfit : ¬(!Builtin.List.listFitsIndex k)=true:=by
  rw[fitsIndex_both h1 h2];exact Bool.false_ne_true
 have N9 : ¬ Builtin.List.listTooLong (its.toArray.size*k.toNat)=true:=by
  rw[GS hlen];exact Bool.false_ne_true
 have hnew:List.foldl (fun x1 x2=>x1++x2) #[] (List.replicate (if its.toArray.isEmpty=true then 0 else k.toNat) its.toArray)=(List.replicate k.toNat its).flatten.toArray:=by
  have f0:∀ m:Nat,List.foldl (fun x1 x2=>x1++x2) #[] (List.replicate m its.toArray)=(List.replicate m its).flatten.toArray:=fun m=>by
   have:=foldl_rep its m [];rw[List.nil_append]at this;exact this
  rw[f0];cases its with
  | nil=>simp
  | cons a r'=>rw[if_neg (by simp)]
 refine wpAny_binaryOp_repeat_ref (T:="list") (U:="int") (by decide) ⟨_,e,rfl⟩ (fun s'=>typeIs_int s' k t) noFill_list_mul F.fills_int_mul F.slot_int_rmul repeat_list F.slot_int_index.lookup
  (call_meets F.slot_int_rmul (typeIs_int s k t) F.entry_int_rmul (F.args_int_rmul_2 _ _) (int___rmul___int_list k t l its.toArray n)
   ⟨e,rfl,⟨_,e,rfl⟩,call_meets F.slot_list_mul ⟨_,e,rfl⟩ F.entry_list_mul (F.args_list_mul_2 _ _) (AutoListH.list___mul___list_int_3 l its.toArray n k t hfit SX N9) ⟨e,?_⟩⟩)
 rw[hnew];exact⟨.ref _,_,I.N7 (t':=s.toks) (r.rep k.toNat) (by rw[len_rep,Nat.mul_comm];exact hz),rfl,q _ I.fresh⟩
end
end L2
namespace Att
open PySem PySem.W PySem.Calls PyProof.Rows
theorem u5{P:Params}{h:Heap}:∀(ns:List Int) (vs:List Value),WellAll P h vs (ns.map WData.int)->IntsAre vs ns:=by
 intro ns
 induction ns with
 | nil =>
   intro vs w;rw[List.map_nil]at w;cases w;exact .nil
 | cons n ns ih =>
   intro vs w;rw[List.map_cons]at w;cases w with
   | cons a b =>
     cases a;exact .cons _ _ (ih _ b)
theorem E6{l:OpenLaw}{n:Nat}(hn:l.most=some n){P:Params}{h:Heap}{args:List WData}{vals:List Value}
 (hpre:l.row.toRowW.claim.pre args=true) (SY:WellAll P h vals args) :
 ∃ a vs ns,vals=[Value.ref a]/\args=[WData.list (ns.map WData.int)]/\h.get? a=some { cls:=.type "list",data:=.seq vs.toArray}/\IntsAre vs ns/\ns.length<=n:=by
 have hsh:WShape.hasAll [] args [.list .int]=true:=(pre_splitW hpre).1;have hc:l.pre.holds [] { args:=args}=true:=(pre_splitW hpre).2;obtain⟨d,r,rfl,h1,h2⟩:=hasAllW_cons hsh;obtain rfl:=hasAllW_nil h2;obtain⟨xs,rfl,h3⟩:=hasW_list h1;obtain⟨ns,rfl⟩:=items_int h3;have hlen:ns.length<=n:=by
  unfold OpenLaw.pre at hc;have h4:(WTm.not (.lt (.lit (.int (n:Int))) (.len (.arg 0)))).holds [] { args:=[.list (ns.map .int)]}=true:=by
   have h4:=(holds_andW hc).1;rw[hn]at h4;exact h4
  have h5:=condW_of h4 (w_not (w_lt w_lit (w_len_list (w_arg rfl))));rw[List.length_map]at h5;refine Nat.le_of_not_lt fun q=>?_
  have q' : (n:Int)<((ns.length:Nat):Int):=by lia
  first
   | (rw[e7 q']at h5;exact absurd h5 (by decide))
   | (simp at h5;lia)
 cases SY with
 | cons w1 w2 =>
   cases w2;cases w1 with
   | list ho hall=>exact⟨_,_,ns,rfl,rfl,ho,u5 ns _ hall,hlen⟩
theorem E7(l:OpenLaw)(args:List WData):l.row.toRowW.claim.post args (.bool true) args=true :=
 postW_of (r:=l.row.toRowW) (X:=(true==true))
  (show WShape.has [] (.bool true) .bool=true by first | rfl | decide | simp[WShape.has,WShape.arms,WShape.armsAll])
  (show(WTm.eq .res (.lit (.bool true))).value [] { args:=args,res:=some (.bool true),after:=args}=some (.bool (true==true)) from w_eq_bool (w_res rfl) w_lit) rfl
theorem Bm{l:OpenLaw}{n:Nat}{q:Program}{loose:List Str}{XP:(Str->Option Value)->Heap->Prop}{YP:World->Heap->Prop}{d:DefRec}
 (hn:l.most=some n) (Oa:d.params.defaults=[])
 (call:∀(w:World) (s₀ s₁:Shared) (mg mb:iI) (fa:Addr) (o:Obj) (pm cd doc:Value) (a:Addr) (vs:List Value) (ns:List Int),
  Ground q loose [] XP w s₀ mg mb s₁.heap->YP w s₁.heap->
  s₁.heap.get? fa=some o->o.data = .func (docDef d.name d.params d.body d.scope pm cd doc)->s₁.heap.CodeRec cd d.name->mg d.name=some (.ref fa)->
  s₁.heap.get? a=some { cls:=.type "list",data:=.seq vs.toArray}->IntsAre vs ns->ns.length<=n->s₁.gens = #[]->
  codeAny (model l.prog w) callerA (.call (.ref fa) ⟨[.ref a],[]⟩) (fun r s'=>r = .ok (.ret (.bool true))/\OldK s₁.heap s'.heap/\s'.os=s₁.os/\AllBare s'.gens) s₁) :
 WalkO q loose XP YP l.row.toRowW d [] (fun f vs=>PySem.call f vs):=by
 intro w s₀ s₁ mg mb G Y fa o pm cd doc dV kV ho hd hcd hD hmg hg args vals as hpre hlay hrd SY hlo;obtain rfl:dV = .none:=Dflts.none hD Oa;obtain rfl:kV = .none:=Dflts.noKw hD;obtain⟨a,vs,ns,rfl,rfl,hobj,hints,hlen⟩:=E6 hn hpre SY;refine enter_call (codeAny_mono (call w s₀ s₁ mg mb fa o pm cd doc a vs ns G Y ho (fd_plain hd) hcd hmg hobj hints hlen hg) fun r s' hq=>?_)
 obtain⟨rfl,h2,h3,h4⟩:=hq;exact⟨.inl ⟨.bool true,.bool true,[],rfl,fun _=>rfl,.bool true,E7 l _,fun _=>⟨List.Pairwise.nil,fun _ hm=>(nomatch hm)⟩⟩,h2,h3,h4⟩
end Att
namespace L2
open PySem PySem.Spec PyProof.Rows
theorem yR:∀{vs:List Value} {ns:List Int},IntsAre vs ns->Vals (ns.map V.int) vs
 | _,_,.nil=>.nil
 | _,_,.cons n t h=>.cons ⟨t,rfl⟩ (yR h)
def L8(H:Hp):Prop:=∀ b,H b=none\/∃ o xs,H b=some (.CF o (.lst xs))
theorem GV{P:Program}{w:World}{K:bI}{mg mb:iI}{CX:GN}{k:Nat}{fa a:Addr}{fd:FuncData}{x:Str}{sp:Sp}{s₁:Shared}{vs:List Value}{ns:List Int}
 (KX:K.In s₁.heap) (hns:s₁.heap.Ns mainGlobals mg) (hb:s₁.heap.Ns builtinsNs mb) (Ma:∀ x:Str,x≠"__name__"->mb x=bootBuiltins x) (hlim:s₁.heap.NoLimit) (hbm:∃ bm ob,mg "__builtins__"=some (.ref bm)/\bm≠builtinsNs/\s₁.heap.get? bm=some ob/\ob.cls = .type "module"/\ob.dict=some builtinsNs/\ob.data = .plain) (hg:s₁.gens = #[])
 (ha:s₁.heap.get? a=some { cls:=.type "list",data:=.seq vs.toArray}) (hi:IntsAre vs ns) (hl:ns.length<=sizeLine) (hr:lz k callerA)
 (F:∀ base:Heap,K.In base->base.Ns mainGlobals mg->aP P w K mg base CX k fa fd [x] sp) (hbind:∀(s:Shared) (u:Value),BindsTo s fd ⟨[u],[]⟩ [(x,u)])
 (zX:∀ H:Hp,L8 H->aZ K H a (ns.map V.int)->sp [.ref a] H (fun v _=>v = .bl true) fun _ _ _=>False)
 (S0:∀ H e s',CX [] H s₁ (fun _ _ _=>False) e s'->False) :
 codeAny (model P w) callerA (.call (.ref fa) ⟨[.ref a],[]⟩) (fun r s'=>r = .ok (.ret (.bool true))/\OldK s₁.heap s'.heap/\s'.os=s₁.os/\AllBare s'.gens) s₁:=by
 have rv:=yR hi;have S3:=hi.length;have core:∀ H:Hp,L8 H->aZ K H a (ns.map V.int)->sO P w H s₁.heap->(∀ b,H b≠none->b=a)->(H a≠none->K.lookup a=none)->
  codeAny (model P w) callerA (.call (.ref fa) ⟨[.ref a],[]⟩) (fun r s'=>r = .ok (.ret (.bool true))/\OldK s₁.heap s'.heap/\s'.os=s₁.os/\AllBare s'.gens) s₁:=by
  intro H hO hS hok hA hK;have Ac:∀{b:Addr} {o:Obj},s₁.heap.get? b=some o->H b=none->(zT s₁.heap H).get? b=some o:=fun e n=>GD e n
  have NY:∀{b:Addr} {o:Obj} {es:Array DictEntry} {ep:Nat},s₁.heap.get? b=some o->o.data = .dict es ep->H b=none:=fun {b o es ep} e d=>by
   cases q:H b with
   | none=>rfl
   | some u =>
     have e' : b=a:=hA b (by rw[q];simp)
     subst e';rw[ha]at e;cases e;have d' : Data.seq vs.toArray _=Data.dict es ep:=d;cases d'
  have QS:∀{b:Addr} {m:iI},s₁.heap.Ns b m->(zT s₁.heap H).Ns b m:=fun {b m} ⟨o,es,ep,e,d,r⟩=>⟨o,es,ep,Ac e (NY e d),d,r⟩
  have hKb:K.In (zT s₁.heap H):=fun b o e=>Ac (KX b o e) (by
   cases q:H b with
   | none=>rfl
   | some u =>
     have e' : b=a:=hA b (by rw[q];simp)
     subst e';rw[hK (by rw[q];simp)]at e;cases e)
  have hM:Mod K mg (zT s₁.heap H):=⟨hKb,QS hns,⟨mb,QS hb,Ma⟩,(let⟨mc,h1,h2⟩:=hlim;⟨mc,QS h1,h2⟩),(let⟨bm,ob,b1,b2,b3,b4,b5,b6⟩:=hbm;⟨bm,ob,b1,b2,Ac b3 (by
   cases q:H bm with
   | none=>rfl
   | some u =>
     have e' : bm=a:=hA bm (by rw[q];simp)
     subst e';rw[ha]at b3;cases b3;cases b6),b4,b5,b6⟩)⟩
  have e0:E3 P w K mg (zT s₁.heap H) callerA [] s₁ H:=⟨rfl,hM,fun b o e=>Jx e,Nat.le_of_eq (EN _ _),trivial,fun b hb=>absurd (show b∈([]:List Addr) from hb) (by simp),hok,.of_eq hg⟩
  refine codeAny_mono ((F _ hKb (QS hns)).run callerA [] s₁ H ⟨[.ref a],[]⟩ [.ref a] [.ref a] _ _ hr e0 (hbind s₁ (.ref a)) (.cons rfl .nil) (zX H hO hS)) fun r s' h=>?_
  cases r with
  | error e=>exact(S0 H e s' h).elim
  | ok fl =>
    cases fl with
    | next=>exact False.elim h
    | brk=>exact False.elim h
    | cont=>exact False.elim h
    | ret u =>
      obtain⟨v,H',os,bare,un,S4,r',q⟩:=h;have q' : v = .bl true:=q;subst q';obtain rfl:u=Value.bool true:=r';refine⟨rfl,OldK.of_keep fun b o e=>?_,os,bare⟩
      cases q:H b with
      | none=>exact un.keep b o e q (by intro z;exact absurd (show b∈([]:List Addr) from z) (by simp)) (by simp)
      | some u =>
        rcases hO b with z|⟨ob,xs,z⟩
        ·rw[q]at z;cases z
        ·have z2:=un.sP b ob _ z;obtain⟨e1,_⟩:=hok b _ z;obtain⟨e2,_⟩:=S4 b _ z2;rw[e]at e1;cases e1;exact e2
 cases hk:K.lookup a with
 | some o =>
   have e:=KX a o hk;rw[ha]at e;cases e;refine core (fun _=>none) (fun _=>.inl rfl) (.inr ⟨_,vs.toArray,_,hk,rfl,rfl,rfl,by rw[List.size_toArray,S3];exact hl,by simpa using rv⟩) (fun b u z=>by have z' : (none:Option HO)=some u:=z;cases z') (fun b z=>absurd rfl z) fun z=>absurd rfl z
 | none =>
   refine core (fun b=>if b=a then some (.CF { cls:=.type "list",data:=.seq vs.toArray} (.lst (ns.map V.int))) else none) (fun b=>?_) (.inl (.inr ⟨{ cls:=.type "list",data:=.seq vs.toArray},if_pos rfl⟩)) (fun b u z=>?_) (fun b z=>?_) fun _=>hk
   ·by_cases hb:b=a
    ·exact .inr ⟨_,_,if_pos hb⟩
    ·exact .inl (if_neg hb)
   ·by_cases hb:b=a
    ·have z':=(if_pos hb).symm.trans z;cases z';subst hb;exact⟨ha,by rw[List.length_map];exact hl,vs,_,rv,ha⟩
    ·have z':=(if_neg hb).symm.trans z;cases z'
   ·by_cases hb:b=a
    ·exact hb
    ·exact absurd (if_neg hb) z
theorem JS{l:PySem.W.OpenLaw}{n k:Nat}{q:Program}{loose:List Str}{XP:(Str->Option Value)->Heap->Prop}{YP:World->Heap->Prop}{d:DefRec}{K:Params->bI}{CX:World->GN}{sp:World->Sp}{x:Str}
 (hn:l.most=some n) (hn2:n<=sizeLine) (Oa:d.params.defaults=[]) (hr:lz k callerA)
 (hY:∀(w:World) (h:Heap),YP w h->(K w.params).In h)
 (F:∀(w:World) (mg:iI) (fa:Addr) (h:Heap),(K w.params).In h->h.Ns mainGlobals mg->mg d.name=some (.ref fa)->
  ∃ fd:FuncData,(∀(s:Shared) (u:Value),BindsTo s fd ⟨[u],[]⟩ [(x,u)])/\
    ∀ base:Heap,(K w.params).In base->base.Ns mainGlobals mg->aP l.prog w (K w.params) mg base (CX w) k fa fd [x] (sp w))
 (zX:∀(w:World) (H:Hp) (a:Addr) (ns:List Int),ns.length<=n->L8 H->aZ (K w.params) H a (ns.map V.int)->sp w [.ref a] H (fun v _=>v = .bl true) fun _ _ _=>False)
 (S0:∀(w:World) (H:Hp) (s:Shared) (e:Value) (s' : Shared),CX w [] H s (fun _ _ _=>False) e s'->False) :
 PySem.W.WalkO q loose XP YP l.row.toRowW d [] (fun f vs=>PySem.call f vs):=by
 refine Att.Bm hn Oa fun w s₀ s₁ mg mb fa o pm cd doc a vs ns G Y ho hd hcd hmg hobj hints hlen hg=>?_
 have KX:=hY w _ Y;obtain⟨fd,hb,hF⟩:=F w mg fa _ KX G.T.g hmg;exact GV KX G.T.g G.T.b G.T.builtins G.T.nolimit G.T.bmain hg hobj hints (Nat.le_trans hlen hn2) hr hF hb (fun H hO hS=>zX w H a ns hlen hO hS) fun H e s'=>S0 w H s₁ e s'
end L2
namespace L2
open PySem PySem.Spec PyProof.Rows
def aK(s:Stmt):Arguments:=match s with
 | .FunctionDef _ a _ _ _ _ _ _ _ _=>a
 | _=>{ posonlyargs:=[],args:=[],vararg:=none,kwonlyargs:=[],kw_defaults:=[],kwarg:=none,defaults:=[]}
def aH(s:Stmt):List Stmt:=match s with
 | .FunctionDef _ _ b _ _ _ _ _ _ _=>b
 | _=>[]
def ah(s:Stmt):Scope:=match s with
 | .FunctionDef _ _ _ _ _ _ sc _ _ _=>sc
 | _=>{ kind:=.function,names:=[],isGenerator:=false,isCoroutine:=false}
abbrev cF:GN:=fun _ _ _ _ _ _=>False
abbrev E0:XK:=fun _ _ _=>False
theorem aX{X:Cx}:Passes cF X E0:=fun _ _ _ _ _ _ _ h=>h.elim
structure gG(K:bI)(x qual:Str)(st:Stmt)(f:Addr)(fd:FuncData):Prop where
 ex:∃(oc:Value) (od:Option Addr) (kV doc pm:Value) (an:Option Addr) (cdv ct:Value) (osl:Array (Option Value)),
  fd=PySem.W.fnOf x qual (aK st) (aH st) (ah st) .none kV doc pm an cdv ct/\K.lookup f=some ⟨oc,od,.func fd,osl⟩/\PySem.W.codeIn K cdv qual=true
 kp:PySem.W.keepIn K (.ref f)=true
section
variable {P:Program}{w:World}{K:bI}{mg:iI}{base:Heap}
theorem gG.ok{x qual:Str}{st:Stmt}{f:Addr}{fd:FuncData}{N ps:List Str}{k:Nat}{sp:Sp}(F:gG K x qual st f fd)(S:aI N ps (ah st))(len:∀ vs H Q E,sp vs H Q E->vs.length=ps.length)
 (hbody:∀(cdv:Value) (A:Around) (outer:List Env) (s:Shared) (H:Hp) (vs:List V) (Q:VK) (E:XK),lz k (A.deeper (envOfC qual (ah st) s.heap.objs.size f cdv))->sp vs H Q E->
  ∃ t,x6 (qM cF P w K mg base N qual (ah st) f cdv A outer s H E).Gx (aH st) t/\t { nx:=fun _ H'=>Q .eS H',rt:=Q} (start N vs) H):aP P w K mg base cF (k+1) f fd ps sp:=by
 obtain⟨oc,od,kV,doc,pm,an,cdv,ct,osl,rfl,lk,hcd⟩:=F.ex;refine K7 lk hcd S len fun A outer s H vs Q E hr zX=>?_
 obtain⟨t,h,q⟩:=hbody cdv A outer s H vs Q E hr zX;exact⟨t,h.Gx,q⟩
theorem gG.binds{x qual:Str}{st:Stmt}{f:Addr}{fd:FuncData}{ps:List Str}(F:gG K x qual st f fd)
 (h:∀(kV doc pm:Value) (an:Option Addr) (cdv ct:Value) (us:List Value),us.length=ps.length->bindArgs (PySem.W.fnOf x qual (aK st) (aH st) (ah st) .none kV doc pm an cdv ct) ⟨us,[]⟩=pure (ps.zip us)):Binds K fd ps []:=by
 obtain⟨oc,od,kV,doc,pm,an,cdv,ct,osl,rfl,lk,hcd⟩:=F.ex;exact .all (h kV doc pm an cdv ct)
theorem aU{x qual:Str}{st:Stmt}{f:Addr}{oc:Value}{od an:Option Addr}{osl:Array (Option Value)}{kV doc pm cdv ct:Value}(l:K.lookup f=some ⟨oc,od,.func (PySem.W.fnOf x qual (aK st) (aH st) (ah st) .none kV doc pm an cdv ct),osl⟩)
 (c:PySem.W.codeIn K cdv qual=true) (k:PySem.W.keepIn K (.ref f)=true):gG K x qual st f (PySem.W.fnOf x qual (aK st) (aH st) (ah st) .none kV doc pm an cdv ct):=⟨⟨oc,od,kV,doc,pm,an,cdv,ct,osl,rfl,l,c⟩,k⟩
end
theorem gr{n:Nat}(h:n<=1000):n<sizeLine:=Nat.lt_of_le_of_lt h (by decide)
section
variable {X:Cx}
theorem pv(i:Nat){x:Str}{pos:Pos}(hN:X.N[i]?=some x:=by rfl)(hv:QI X.env.scope x:=by first | exact Or.inl rfl | exact Or.inr (Or.inl rfl) | exact Or.inr (Or.inr rfl))(hd:(x==("__debug__":Str))=false:=by decide)
 (hcd:(x==("__classdict__":Str))=false:=by decide):PE X (.Name x pos) (Be i):=LG hN hv hd hcd
end
theorem dS{A B:Prop}(h:B):if false=true then A else B:=by
 rw[if_neg Bool.false_ne_true];exact h
theorem dm{A B:Prop}(h:A):if true=true then A else B:=by
 rw[if_pos rfl];exact h
theorem jj{c A B:Prop}[Decidable c](h1:c->A)(h2 : ¬ c->B):if c then A else B:=by
 by_cases h:c
 ·rw[if_pos h];exact h1 h
 ·rw[if_neg h];exact h2 h
theorem m3{c A B:Prop}[Decidable c](hc:c)(h:B):if(!decide c)=true then A else B:=by
 rw[e7 hc];exact dS h
def aq(H H' : Hp):Prop:=∀ b o,H b=some o->H' b=some o
theorem aq.refl(H:Hp):aq H H:=fun _ _ h=>h
theorem aq.trans{H H1 H2:Hp}(a:aq H H1)(b:aq H1 H2):aq H H2:=fun c o h=>b c o (a c o h)
theorem aq.free{H H' : Hp}(e:aq H H'){l:Addr}(h:H' l=Option.none):H l=Option.none:=by
 cases q:H l with
 | none=>rfl
 | some o =>
   rw[e l o q]at h;cases h
theorem aq.seq{K:bI}{H H' : Hp}{a:Addr}{xs:List V}(e:aq H H')(h:aZ K H a xs):aZ K H' a xs:=by
 rcases h with(h|⟨o,h⟩) | h
 ·exact .inl (.inl (e _ _ h))
 ·exact .inl (.inr ⟨o,e _ _ h⟩)
 ·exact .inr h
def gH(cells:List (Str×Addr)):List (Str×NameKind)->List (Str×Addr)->List (Str×Addr)
 | [],cs=>cs
 | (n,k)::r,cs=>gH cells r (if(k==NameKind.free)=true then(n,(cells.lookup n).getD 0)::cs else cs)
theorem vK{env:Env}{f:Str×NameKind->List (Str×Addr)->Sem (ForInStep (List (Str×Addr)))}
 (hf1:∀ n k cs c,(k==NameKind.free)=true->env.cells.lookup n=some c->f (n,k) cs=pure (.yield ((n,c)::cs)))
 (hf2:∀ n k cs,(k==NameKind.free)=false->f (n,k) cs=pure (.yield cs)) :
 ∀(names:List (Str×NameKind)) (cs:List (Str×Addr)),(∀ n k,(n,k)∈names->(k==NameKind.free)=true->∃ c,env.cells.lookup n=some c)->
  forIn names cs f=(pure (gH env.cells names cs):Sem (List (Str×Addr)))
 | [],cs,_=>by rw[List.forIn_nil];rfl
 | (n,k)::r,cs,h=>by
   have ih:=fun cs=>vK hf1 hf2 r cs fun m j hm=>h m j (CB _ hm)
   rw[List.forIn_cons];cases e:(k==NameKind.free) with
   | true =>
     obtain⟨c,hc⟩:=h n k List.mem_cons_self e;rw[hf1 n k cs c e hc,pure_bind];show forIn r ((n,c)::cs) f=_;rw[ih]
     conv=>rhs;unfold gH
     rw[if_pos e,hc];rfl
   | false =>
     rw[hf2 n k cs e,pure_bind];show forIn r cs f=_;rw[ih]
     conv=>rhs;unfold gH
     rw[if_neg (by rw[e];exact Bool.false_ne_true)]
theorem qi{scope:Scope}{env:Env}(h:∀ n k,(n,k)∈scope.names->(k==NameKind.free)=true->∃ c,env.cells.lookup n=some c):closureFor scope env=pure (gH env.cells scope.names []):=by
 simp only[closureFor];rw[vK (env:=env) ?_ ?_ scope.names [] h]
 ·rfl
 ·intro n k cs c e hc;show(if(k==NameKind.free)=true then _ else _)=_
  rw[if_pos e];unfold cellOf;rw[hc];rfl
 ·intro n k cs e;show(if(k==NameKind.free)=true then _ else _)=_
  rw[if_neg (by rw[e];exact Bool.false_ne_true)]
theorem nG{cells:List (Str×Addr)}{x:Str}{c:Addr}:∀{names:List (Str×NameKind)} {cs:List (Str×Addr)},(gH cells names cs).lookup x=some c->cs.lookup x=some c\/((x,NameKind.free)∈names/\(cells.lookup x).getD 0=c)
 | [],cs,h=>.inl h
 | (n,k)::r,cs,h=>by
   unfold gH at h;rcases nG h with q|⟨q1,q2⟩
   ·by_cases e:(k==NameKind.free)=true
    ·rw[if_pos e]at q
     by_cases hx:x=n
     ·subst hx;rw[List.lookup_cons_self]at q;have hk:k=NameKind.free:=eq_of_beq e;exact .inr ⟨by rw[hk];exact List.mem_cons_self,Option.some.inj q⟩
     ·have hb:(x==n)=false:=beq_eq_false_iff_ne.mpr hx;simp only[List.lookup_cons,hb]at q;exact .inl q
    ·rw[if_neg e]at q;exact .inl q
   ·exact .inr ⟨CB _ q1,q2⟩
theorem qj{cells:List (Str×Addr)}{x:Str}:∀{names:List (Str×NameKind)} {cs:List (Str×Addr)},((x,NameKind.free)∈names\/∃ c,cs.lookup x=some c)->∃ c,(gH cells names cs).lookup x=some c
 | [],cs,h=>by
   rcases h with h|h
   ·cases h
   ·exact h
 | (n,k)::r,cs,h=>by
   unfold gH;apply qj;rcases h with h|⟨c,h⟩
   ·rcases List.mem_cons.mp h with h|h
    ·cases h
     right
     rw[if_pos (by rfl)]
     exact⟨_,List.lookup_cons_self⟩
    ·exact .inl h
   ·right
    by_cases e:(k==NameKind.free)=true
    ·rw[if_pos e]
     by_cases hx:x=n
     ·subst hx;exact⟨_,List.lookup_cons_self⟩
     ·have hb:(x==n)=false:=beq_eq_false_iff_ne.mpr hx;exact⟨c,by simp only[List.lookup_cons,hb];exact h⟩
    ·rw[if_neg e];exact⟨c,h⟩
theorem mh{env:Env}{x:Str}{k:NameKind}:∀{names:List (Str×NameKind)},
 (names.map fun(n,k)=>if(k==NameKind.free&&env.scope.kind == .function&&env.kindOf n==some .cell) then(n,NameKind.cell) else(n,k)).lookup x=some k->
  ∃ k0,names.lookup x=some k0/\(k=k0\/(k0 = .free/\k = .cell))
 | [],h=>by cases h
 | (n,j)::r,h=>by
   have ih:=@mh env x k r
   replace h:List.lookup x ((if(j==NameKind.free&&env.scope.kind == .function&&env.kindOf n==some .cell)=true then(n,NameKind.cell) else(n,j))::_)=some k:=h
   cases hx:x==n with
   | true =>
     by_cases hc:(j==NameKind.free&&env.scope.kind == .function&&env.kindOf n==some .cell)=true
     ·rw[if_pos hc]at h;simp only[List.lookup_cons,hx]at h ⊢;have hj:j=NameKind.free:=by
       rw[Bool.and_eq_true,Bool.and_eq_true]at hc;exact eq_of_beq hc.1.1
      exact⟨j,rfl,.inr ⟨hj,(Option.some.inj h).symm⟩⟩
     ·rw[if_neg hc]at h;simp only[List.lookup_cons,hx]at h ⊢;exact⟨j,rfl,.inl (Option.some.inj h).symm⟩
   | false =>
     by_cases hc:(j==NameKind.free&&env.scope.kind == .function&&env.kindOf n==some .cell)=true
     ·rw[if_pos hc]at h;simp only[List.lookup_cons,hx]at h ⊢;exact ih h
     ·rw[if_neg hc]at h;simp only[List.lookup_cons,hx]at h ⊢;exact ih h
theorem qQ{env:Env}{x:Str}:∀{names:List (Str×NameKind)},names.lookup x=some .free->
 (names.map fun(n,k)=>if(k==NameKind.free&&env.scope.kind == .function&&env.kindOf n==some .cell) then(n,NameKind.cell) else(n,k)).lookup x=some .cell\/
 (names.map fun(n,k)=>if(k==NameKind.free&&env.scope.kind == .function&&env.kindOf n==some .cell) then(n,NameKind.cell) else(n,k)).lookup x=some .free
 | [],h=>by cases h
 | (n,j)::r,h=>by
   have ih:=@qQ env x r;show List.lookup x ((if(j==NameKind.free&&env.scope.kind == .function&&env.kindOf n==some .cell)=true then(n,NameKind.cell) else(n,j))::_)=_\/
    List.lookup x ((if(j==NameKind.free&&env.scope.kind == .function&&env.kindOf n==some .cell)=true then(n,NameKind.cell) else(n,j))::_)=_
   cases hx:x==n with
   | true =>
     simp only[List.lookup_cons,hx]at h;cases h
     by_cases hc:(NameKind.free==NameKind.free&&env.scope.kind == .function&&env.kindOf n==some .cell)=true
     ·rw[if_pos hc];simp only[List.lookup_cons,hx];exact .inl trivial
     ·rw[if_neg hc];simp only[List.lookup_cons,hx];exact .inr trivial
   | false =>
     simp only[List.lookup_cons,hx]at h
     by_cases hc:(j==NameKind.free&&env.scope.kind == .function&&env.kindOf n==some .cell)=true
     ·rw[if_pos hc];simp only[List.lookup_cons,hx];exact ih h
     ·rw[if_neg hc];simp only[List.lookup_cons,hx];exact ih h
def dc(X:Cx)(N:List Str)(scope:Scope)(xe:gj)(C:Addr)(s:Shared)(H:Hp)(fp:List Addr):Cx where
 prog:=X.prog
 w:=X.w
 K:=X.K
 mg:=X.mg
 base:=X.base
 A:=X.A
 N:=N
 s₀:=s
 H₀:=H
 env:=compEnvC scope (gH X.env.cells scope.names []) C X.env
 outer:=X.stack
 stack:=X.stack
 ex:=fp
 fn:=fun _=>false
 calm:=X.calm
 pn:=[]
 xe:=xe
def mj(σ:St)(js:List Nat):St:=js.map fun j=>(σ[j]?).getD none
structure jT(X:Cx)(scope:Scope)(own fq:List Str)(js:List Nat):Prop where
 kind:scope.kind = .function
 GW:∀ y∈scope.names,y.2≠.cell
 names:∀ y∈scope.names,y.2 = .local->scope.names.lookup y.1=some .local
 free:∀ y∈scope.names,y.2 = .free->X.env.scope.names.lookup y.1=some .cell\/X.env.scope.names.lookup y.1=some .free
 at_:js.map (fun j=>X.N[j]?)=fq.map some
 fr:∀ x∈fq,scope.names.lookup x=some .free
theorem CN{σ:St}{js:List Nat}{i:Nat}{v:V}(h:(mj σ js)[i]?=some (some v)):∃ j,js[i]?=some j/\σ[j]?=some (some v):=by
 unfold mj at h;rw[List.getElem?_map]at h;cases e:js[i]? with
 | none=>rw[e]at h;cases h
 | some j =>
   rw[e]at h;have h' : (σ[j]?).getD none=some v:=Option.some.inj h;refine⟨j,rfl,?_⟩;cases q:σ[j]? with
   | none=>rw[q]at h';cases h'
   | some o=>rw[q]at h';rw[show o=some v from h']
section
variable {X:Cx}
theorem jU{pq:bF}{σ:St}{H:Hp}{s:Shared}{scope:Scope}{own fq:List Str}{js:List Nat}(I:Inv X pq σ H s)(T:jT X scope own fq js):
 ∀ n k,(n,k)∈scope.names->(k==NameKind.free)=true->∃ c,X.env.cells.lookup n=some c:=fun n k hm e=>by
 have hk:k=NameKind.free:=eq_of_beq e;exact I.ok.has n (T.free (n,k) hm hk)
theorem GX{pq:bF}{σ:St}{H:Hp}{s:Shared}{scope:Scope}{own fq:List Str}{js:List Nat}{fp:List Addr}{D C:Addr}{h1:Heap}{t1:Nat}{m:iI}{xe:gj}
 (I:Inv X pq σ H s) (T:jT X scope own fq js) (hf:∀ b∈fp,qf X pq H b) (hfo:∀ b∈fp,∃ o,s.heap.get? b=some o) (hD:s.heap.objs.size<=D) (hC:s.heap.objs.size<=C) (hDC:D≠C)
 (old:∀ b o,s.heap.get? b=some o->h1.get? b=some o) (hl:h1.get? D=some { cls:=.type "list",data:=.seq ([]:List Value).toArray 0}) (hn:h1.Ns C m) :
 Inv (dc X (own++fq) scope xe C s H fp) [] (List.replicate own.length none++mj σ js) (upd H D (.lst [])) { s with heap:=h1,toks:=t1}:=by
 have cells:∀ x c,(gH X.env.cells scope.names []).lookup x=some c->X.env.cells.lookup x=some c:=fun x c h=>by
  rcases nG h with q|⟨q1,q2⟩
  ·cases q
  ·obtain⟨c',hc'⟩:=jU I T x .free q1 rfl;rw[hc']at q2;rw[hc'];exact congrArg some q2
 have Ob:∀ b o,s.heap.get? b=some o->b<s.heap.objs.size:=fun b o e=>Heap.lt_size e
 have hcl:∀ x c,X.env.cells.lookup x=some c->c<s.heap.objs.size:=fun x c e=>by
  obtain⟨v,q⟩:=I.cell x c e;exact q.lt
 have aco:∀ b∈frs X.stack,b<s.heap.objs.size:=fun b hb=>by
  obtain⟨_,o,ho,_⟩:=I.stack.mem hb;exact Heap.lt_size ho
 have hHD:H D=none:=I.hok.fresh hD;have Mb:H C=none:=I.hok.fresh hC;refine⟨⟨I.ok.mod,T.kind,I.ok.glob,I.ok.blt,hC,fun x y c a b=>I.ok.inj x y c (cells x c a) (cells y c b),fun x hx=>?_,fun x c z _=>(nomatch z),I.ok.hd,I.ok.frames,.inl rfl,fun b hb=>⟨?_,fun x c e z=>?_⟩,
  fun b o e=>I.bs b o e,Nat.le_trans I.ok.Jy I.sz,fun b o e hb=>?_,fun b hb z=>?_,I.stack,I.zU⟩,
  rfl,I.bare,Un.laid old hD hHD,⟨m,hn,fun i x v e1 e2 e3=>?_⟩,fun x c e=>?_,?_,fun x c e=>?_,fun p hp=>absurd (show p∈([]:bF) from hp) (by simp),?_,?_⟩
 ·
  have hx:(relabel scope X.env).names.lookup x=some .cell\/(relabel scope X.env).names.lookup x=some .free:=hx;have hf0:(x,NameKind.free)∈scope.names:=by
   rcases hx with hx|hx
   ·obtain⟨k0,q,r⟩:=mh hx;have hm:=PySem.mem_of_lookup q;rcases r with r|⟨r,_⟩
    ·exact absurd r.symm (T.GW _ hm)
    ·rw[r]at hm;exact hm
   ·obtain⟨k0,q,r⟩:=mh hx;have hm:=PySem.mem_of_lookup q;rcases r with r|⟨_,r⟩
    ·rw[<-r]at hm;exact hm
    ·cases r
  exact qj (.inl hf0)
 ·
  obtain⟨o,ho⟩:=hfo b hb;exact Nat.ne_of_lt (Nat.lt_of_lt_of_le (Ob b o ho) hC)
 ·exact(hf b hb).2.2.2.2.1 x c (cells x c e) z
 ·
  obtain⟨_,_,_,f3,_,_⟩:=hf b hb;rcases f3 with z|z
  ·exact I.ok.EO b o e z
  ·exact absurd (Nat.lt_of_lt_of_le (Heap.lt_size (I.ok.bs b o e).1) z) (Nat.lt_irrefl _)
 ·
  obtain⟨_,f1,f2,_⟩:=hf b hb;rcases List.mem_cons.mp (I.vy b z) with q|q
  ·exact f1 q
  ·exact f2 q
 ·
  by_cases hi:i<own.length
  ·rw[List.getElem?_append_left (by simpa using hi),List.getElem?_replicate,if_pos hi]at e2
   cases e2
  ·rw[List.getElem?_append_right (by simpa using hi),List.length_replicate]at e2
   replace e1:(own++fq)[i]?=some x:=e1
   rw[List.getElem?_append_right (by lia)]at e1
   obtain⟨j,hj,hσ⟩:=CN e2;have hN:X.N[j]?=some x:=by
    have q:=congrArg (fun l=>l[i-own.length]?) T.at_
    simp only[List.getElem?_map,hj,e1,Option.map_some]at q;exact Option.some.inj q
   have hfx:=T.fr x (nB e1);have hm:=PySem.mem_of_lookup hfx;have hk:=T.free (x,.free) hm rfl;obtain⟨m0,hn0,CO⟩:=I.loc;obtain⟨u,r,l⟩:=CO j x v hN hσ (by rcases hk with k|k;exact .inr (.inl k);exact .inr (.inr k))
   refine⟨u,r,.inr ⟨qQ hfx,?_⟩⟩;rcases l with⟨nH,_⟩|⟨_,c,hc,hcell⟩
   ·have nH:X.env.scope.names.lookup x=some .local:=nH;rcases hk with k|k<;>(rw[nH]at k;cases k)
   ·obtain⟨c',hc'⟩:=qj (cells:=X.env.cells) (names:=scope.names) (cs:=[]) (x:=x) (.inl hm);have q:=cells x c' hc';rw[hc]at q;cases q;exact⟨c,hc',hcell.keeps old⟩
 ·
  obtain⟨v,q⟩:=I.cell x c (cells x c e);exact⟨v,q.keeps old⟩
 ·
  show upd H D (.lst []) C=none;rw[aQ (Ne.symm hDC)];exact Mb
 ·show upd H D (.lst []) c=none;have e:=cells x c e;rw[aQ (Nat.ne_of_lt (Nat.lt_of_lt_of_le (hcl x c e) hD))];exact I.ku x c e
 ·exact I.hok.laid old hD ⟨Nat.zero_le _,[],0,.nil,hl⟩
 ·show _=(own++fq).length;have q:=congrArg List.length T.at_;rw[List.length_map,List.length_map]at q;rw[List.length_append,List.length_append,List.length_replicate];unfold mj;rw[List.length_map,q]
theorem kQ{pq:bF}{σ σ' : St}{H H' : Hp}{s s' : Shared}{scope:Scope}{N:List Str}{fp:List Addr}{C:Addr}{h' : Heap}{xe:gj}
 (I:Inv X pq σ H s) (hf:∀ b∈fp,qf X pq H b) (hC:s.heap.objs.size<=C) (J:Inv (dc X N scope xe C s H fp) [] σ' H' s') (sb:Heap.SameBut C s'.heap h'):Inv X pq σ H' { s' with heap:=h'}:=by
 have Mb:H' C=none:=J.free;refine I.K1 (ch:=fp) J.os ?_ ?_ J.bare (fun b hb=>?_)
 ·have u:Un (frs X.stack) fp H H' s.heap s'.heap:=J.base;have ne:∀ b o,s.heap.get? b=some o->b≠C:=fun b o e=>Nat.ne_of_lt (Nat.lt_of_lt_of_le (Heap.lt_size e) hC)
  refine⟨fun b o e n hb hx=>(sb.2 b (ne b o e)).trans (u.keep b o e n hb hx),fun b o e n hb hx=>?_,u.free,fun b o e hx=>?_,u.tups,u.sP,u.u4⟩
  ·obtain⟨sl,q⟩:=u.slot b o e n hb hx;exact⟨sl,(sb.2 b (ne b o e)).trans q⟩
  ·obtain⟨o',q⟩:=u.there b o e hx;exact⟨o',(sb.2 b (ne b o e)).trans q⟩
 ·intro b ob e;refine(J.hok b ob e).stay (fun c w' hc q=>(sb.2 c ?_).trans q) (fun _ q=>q) fun _ _ q=>q
  rintro rfl;rcases hc with rfl|hc
  ·rw[Mb]at e;cases e
  ·rw[Mb]at hc;cases hc
 ·obtain⟨_,f1,_,f3,f4,f5⟩:=hf b hb;exact⟨f3,f1,f4,f5⟩
end
section
variable {prog:Program}{w:World}{A:Around}{R:Result->Shared->Prop}{s:Shared}
abbrev Eh(ifs:List Expr)(env:Env):Sem Bool:=forIn ifs true fun c r=>if r=true then do let ok←isTrue c env (eval c env);pure (ForInStep.yield ok) else pure (ForInStep.yield r)
theorem Ad{elt target iter:Expr}{ifs:List Expr}{scope:Scope}{pos:Pos}{it acc:Value}{env:Env}(I:Nat->Shared->Prop)
 (turn:∀ n s,I n s->wpAny (model prog w) A (pyNext it) (fun r s₁=>match r with
  | none=>R (.ok .next) s₁
  | some v=>wpAny (model prog w) A (letOwnedTupleGo target it v) (fun _ s₀=>wpAny (model prog w) A (assign target env v) (fun _ s₂ =>
   wpAny (model prog w) A (Eh ifs env) (fun ok s₃ =>
    if ok=true then wpAny (model prog w) A (eval elt env) (fun x s₄ =>
     wpAny (model prog w) A (call (.builtin "list.append") [acc,x]) (fun _ s₅=>∃ m,m<n/\I m s₅) (notedBy (model prog w) A env fun e s'=>R (.error e) s') s₄) (notedBy (model prog w) A env fun e s'=>R (.error e) s') s₃
    else ∃ m,m<n/\I m s₃) (notedBy (model prog w) A env fun e s'=>R (.error e) s') s₂) (notedBy (model prog w) A env fun e s'=>R (.error e) s') s₀) (notedBy (model prog w) A env fun e s'=>R (.error e) s') s₁) (notedBy (model prog w) A env fun e s'=>R (.error e) s') s)
 (n:Nat) (h:I n s) :
 codeAny (model prog w) A (.compLoop (.ListComp elt [⟨target,iter,ifs,0⟩] scope pos) 0 it acc env) R s:=by
 refine codeAny_loop rfl I (fun n s hI=>?_) n h
 show wpAny _ A ((compTurn (.ListComp elt [⟨target,iter,ifs,0⟩] scope pos) 0 it acc env).onRaise (fun x=>do noteFrame x env;theTreesLotGoes x)) _ _ s
 refine wpAny_noted ?_;rw[compTurn_list];refine dO (wpAny_standAt (dO (wpAny_mono (turn n s hI) (fun r s₁ h₁=>?_) fun _ _ h'=>h')))
 cases r with
 | none=>exact wpAny_pure h₁
 | some v =>
   refine dO (wpAny_mono h₁ (fun _ s₀ h₀=>?_) fun _ _ h'=>h')
   refine dO (wpAny_mono h₀ (fun _ s₂ h₂=>dO (wpAny_mono h₂ (fun ok s₃ h₃=>?_) fun _ _ h'=>h')) fun _ _ h'=>h')
   cases ok with
   | false=>exact wpAny_pure ⟨rfl,h₃⟩
   | true =>
     exact dO (dO (wpAny_mono h₃ (fun x s₄ h₄=>dO (wpAny_mono h₄ (fun _ s₅ h₅=>wpAny_pure (wpAny_pure ⟨rfl,h₅⟩)) fun _ _ h'=>h')) fun _ _ h'=>h'))
end
def Nq(X:Cx)(ifs:List Expr)(t:TT):Prop :=
 ∀(pq:bF) (s:Shared) (σ:St) (H:Hp) (Q:Bool->Hp->Prop),Inv X pq σ H s->t σ H Q->wpAny (model X.prog X.w) X.A (Eh ifs X.env) (TP X pq σ Q) X.xe s
def Oc:TT:=fun _ H Q=>Q true H
theorem gI{X:Cx}:Nq X [] Oc:=fun _ _ _ H _ I h=>wpAny_tests_nil ⟨H,I,h⟩
theorem di{X:Cx}{c:Expr}{t:TT}(h:PT X c t):Nq X [c] t:=fun pq s σ H Q I q=>wpAny_tests_one (h pq s σ H Q I q)
def jV(J:It)(g:TG)(tt:TT)(te:TE)(n:Nat)(fr:St)(D:Addr)(Q:Hp->Prop)(H1:Hp):Prop :=
 ∃ W:Nat->Nat->List V->Hp->Prop,(∃ m,W 0 m [] H1)/\∀ i m acc H,W i m acc H->H D=some (.lst acc)/\
   ((J.stop i H/\Q H)\/(J.go i H/\acc.length<sizeLine/\∃ N:List V->Hp->Prop,(∀ acc' H',N acc' H'->∃ m',m'<m/\W (i+1) m' acc' H')/\
     ∀ x H',J.Jm i H x H'->g x (List.replicate n none++fr) H' fun σ2 H2=>σ2.drop n=fr/\tt σ2 H2 fun b H3 =>
     if b=true then te σ2 H3 fun v H4=>H4 D=some (.lst acc)/\N (acc++[v]) (upd H4 D (.lst (acc++[v])))
     else N acc H3))
def GY(wi:TI)(g:TG)(tt:TT)(te:TE)(n:Nat)(js:List Nat):TE:=fun σ H Q=>wi σ H fun J H1=>∀ D,H1 D=none->jV J g tt te n (mj σ js) D (fun H2=>Q (.ref D) H2) (upd H1 D (.lst []))
structure Ei(A:Around)(cm:Bool)(P:Program)(w:World)(K:bI)(tg:Expr)(J:It)(fp:List Addr)(it:Addr)(tn:Nat->Heap->Prop):Prop where
 mem:it∈fp
 obj:∀ i h,tn i h->∀ b∈fp,∃ o,h.get? b=some o/\∀ v,o.data≠.cell v
 keep:∀ i h h',tn i h->(∀ b∈fp,∀ o,h.get? b=some o->h'.get? b=some o)->tn i h'
 item:∀(X:Cx),X.prog=P->X.w=w->X.K=K->X.A=A->X.calm=cm->∀(i:Nat) (pq:bF) (s:Shared) (σ:St) (H:Hp) (E:gj),Inv X pq σ H s->(∀ b∈fp,qf X pq H b)->tn i s.heap->J.go i H->
  wpAny (model P w) X.A (pyNext (.ref it)) (fun r s1=>∃ u,r=some u/\
   wpAny (model P w) X.A (letOwnedTupleGo tg (.ref it) u) (fun _ s2=>∃ x H',Inv X pq σ H' s2/\RelV x u/\J.Jm i H x H'/\tn (i+1) s2.heap/\∀ b∈fp,H' b=none) E s1) E s
 done:∀(X:Cx),X.prog=P->X.w=w->X.K=K->X.A=A->X.calm=cm->∀(i:Nat) (pq:bF) (s:Shared) (σ:St) (H:Hp) (E:gj),Inv X pq σ H s->(∀ b∈fp,qf X pq H b)->tn i s.heap->J.stop i H->
  wpAny (model P w) X.A (pyNext (.ref it)) (fun r s1=>r=none/\Inv X pq σ H s1) E s
 self:∀(A:Around) (i:Nat) (s:Shared) (Q:gj) (E:gj),tn i s.heap->Q (.ref it) s->wpAny (model P w) A (pyIter (.ref it)) Q E s
theorem Turn.x{A:Around}{cm:Bool}{P:Program}{w:World}{K:bI}{tg:Expr}{J:It}{fp:List Addr}{it:Addr}{tn:Nat->Heap->Prop}(T:Turn P w K tg J fp it tn)(hc:cm=true):Ei A cm P w K tg J fp it tn :=
 ⟨T.mem,T.obj,T.keep,fun X a b c _ d=>T.item X a b c (d.trans hc),fun X a b c _ d=>T.done X a b c (d.trans hc),T.self⟩
section
variable {X:Cx}{elt iter tg:Expr}{ifs:List Expr}{scope:Scope}{pos:Pos}{own fq:List Str}{js:List Nat}{wi:TI}{g:TG}{tt:TT}{te:TE}
theorem qk{pq:bF}{σ:St}{H2:Hp}{s2:Shared}{it:Addr}{fp:List Addr}{tn:Nat->Heap->Prop}{J:It}{E:gj}{RR:Value->Addr->Result->Shared->Prop}{QQ:Addr->Hp->Prop}
 (T:jT X scope own fq js)
 (hg:∀ C s H fp,PG (dc X (own++fq) scope (fun _ _=>False) C s H fp) tg g)
 (ht:∀ C s H fp,Nq (dc X (own++fq) scope (fun _ _=>False) C s H fp) ifs tt)
 (he:∀ C s H fp,PE (dc X (own++fq) scope (fun _ _=>False) C s H fp) elt te)
 (I2:Inv X pq σ H2 s2) (Ej:Ei X.A X.calm X.prog X.w X.K tg J fp it tn) (st2:tn 0 s2.heap) (f2:∀ b∈fp,qf X pq H2 b)
 (hl:∀ D,H2 D=none->jV J g tt te own.length (mj σ js) D (QQ D) (upd H2 D (.lst [])))
 (hRR:∀ D C σ' H' s',s2.heap.objs.size<=C->Inv (dc X (own++fq) scope (fun _ _=>False) C s2 H2 fp) [] σ' H' s'->QQ D H'->RR (.ref D) C (.ok .next) s') :
 wpAny (model X.prog X.w) X.A (newList []) (fun acc s₃=>wpAny (model X.prog X.w) X.A (newFunctionEnv scope X.env.globals (gH X.env.cells scope.names []) [] X.env.qual none .none (some X.env)) (fun cenv s₄ =>
  codeAny (model X.prog X.w) X.A (.compStart (.ListComp elt [⟨tg,iter,ifs,0⟩] scope pos) 0 (.ref it) acc { cenv with scope:=relabel scope X.env}) (RR acc cenv.locals) s₄) E s₃) E s2:=by
 refine wpAny_newObj_type (wpAny_newFunctionEnv T.GW (by intro y hy;simp at hy) (fun h₁ Mc JT=>?_) T.kind)
 dsimp only at Mc JT ⊢;generalize S6:s2.heap.push { cls:=.type "list",dict:=none,data:=.seq ([]:List Value).toArray}=G2 at Mc JT ⊢;have hC:G2.objs.size=s2.heap.objs.size+1:=by rw[<-S6,Heap.size_push]
 have hDC:s2.heap.objs.size≠G2.objs.size:=by rw[hC];exact Nat.ne_of_lt (Nat.lt_succ_self _)
 have Od:s2.heap.objs.size<=G2.objs.size:=by rw[hC];exact Nat.le_succ _
 have below:∀ b,b<s2.heap.objs.size->b≠G2.objs.size:=fun b hb=>by rw[hC];exact Nat.ne_of_lt (Nat.lt_succ_of_lt hb)
 have old:∀ b o,s2.heap.get? b=some o->h₁.get? b=some o:=fun b o e=>JT.extBut b o (below b (Heap.lt_size e)) (Heap.get?_push_of_some _ (S6▸Heap.get?_push_of_some _ e))
 have hacc:h₁.get? s2.heap.objs.size=some { cls:=.type "list",data:=.seq ([]:List Value).toArray 0}:=JT.extBut _ _ hDC (Heap.get?_push_of_some _ (S6▸Heap.get?_push_size _ rfl));have S7:∀ b∈fp,∃ o,s2.heap.get? b=some o:=fun b hb=>let⟨o,e,_⟩:=Ej.obj _ _ st2 b hb;⟨o,e⟩
 have st1:tn 0 h₁:=Ej.keep _ _ _ st2 fun b _ o e=>old b o e
 obtain⟨W,⟨m0,w0⟩,turn⟩:=hl s2.heap.objs.size (I2.hok.fresh (Nat.le_refl _));have hfx:∀{H' : Hp},(∀ b∈fp,H' b=none)->∀ b∈fp,qf (dc X (own++fq) scope (fun _ _=>False) G2.objs.size s2 H2 fp) [] H' b:=fun {H'} hn b hb=>by
  obtain⟨_,f1,f2',_,f4,_⟩:=f2 b hb;obtain⟨o,ho⟩:=S7 b hb;refine⟨hn b hb,below b (Heap.lt_size ho),fun z=>?_,.inl hb,fun x c e=>?_,fun p hp=>absurd (show p∈([]:bF) from hp) (by simp)⟩
  ·rcases List.mem_cons.mp (I2.vy b z) with q|q
   ·exact f1 q
   ·exact f2' q
  ·rcases nG (show(gH X.env.cells scope.names []).lookup x=some c from e) with q|⟨q1,q2⟩
   ·cases q
   ·obtain⟨c',hc'⟩:=jU I2 T x .free q1 rfl;rw[hc']at q2;have q2:c' = c:=q2;rw[<-q2];exact f4 x c' hc'
 have fp0:∀ b∈fp,upd H2 s2.heap.objs.size (.lst []) b=none:=fun b hb=>by
  obtain⟨o,ho⟩:=S7 b hb;rw[aQ (Nat.ne_of_lt (Heap.lt_size ho))];exact(f2 b hb).1
 have back:∀{σ6:St} {p6:bF} {H6:Hp} {s6:Shared},Inv (dc X (own++fq) scope (fun _ _=>False) G2.objs.size s2 H2 fp) p6 σ6 H6 s6->σ6.drop own.length=mj σ js->
  Inv (dc X (own++fq) scope (fun _ _=>False) G2.objs.size s2 H2 fp) [] (List.replicate own.length none++mj σ js) H6 s6:=fun {σ6 p6 H6 s6} I6 hd=>by
  have hl6:σ6.length=(own++fq).length:=I6.len;have J6:=I6.vc (vd:=[]) fun p hp=>absurd hp (by simp)
  refine J6.weak ?_ fun i v e=>?_
  ·have q:=congrArg List.length hd;rw[List.length_drop]at q;rw[List.length_append]at hl6;rw[List.length_append,List.length_replicate]
   lia
  ·by_cases hi:i<own.length
   ·rw[List.getElem?_append_left (by simpa using hi),List.getElem?_replicate,if_pos hi]at e
    cases e
   ·rw[List.getElem?_append_right (by simpa using hi),List.length_replicate,<-hd,List.getElem?_drop]at e
    rw[show own.length+(i-own.length)=i by lia]at e
    exact e
 have loop:∀ s₃:Shared,s₃={ s2 with heap:=h₁,toks:=s2.toks+([]:List (Str×Value)).length}->
  codeAny (model X.prog X.w) X.A (.compLoop (.ListComp elt [⟨tg,iter,ifs,0⟩] scope pos) 0 (.ref it) (.ref s2.heap.objs.size) (compEnvC scope (gH X.env.cells scope.names []) G2.objs.size X.env))
   (RR (.ref s2.heap.objs.size) G2.objs.size) s₃:=by
  rintro s₃ rfl;refine Ad (fun n s'=>∃ i acc H',Inv (dc X (own++fq) scope (fun _ _=>False) G2.objs.size s2 H2 fp) [] (List.replicate own.length none++mj σ js) H' s'/\tn i s'.heap/\(∀ b∈fp,H' b=none)/\W i n acc H') ?_ m0
   ⟨0,[],upd H2 s2.heap.objs.size (.lst []),GX I2 T f2 S7 (Nat.le_refl _) Od hDC old hacc Mc,st1,fp0,w0⟩
  rintro n s3 ⟨i,acc,H3,I3,st3,K5,w3⟩;obtain⟨Ek,Oe⟩:=turn i n acc H3 w3;rcases Oe with⟨stop,qn⟩|⟨go,hz,NN,hNN,step⟩
  ·refine wpAny_mono (Ej.done (dc X (own++fq) scope (fun _ _=>False) G2.objs.size s2 H2 fp) rfl rfl rfl rfl rfl i [] s3 _ H3 (fun _ _=>False) I3 (hfx K5) st3 stop) (fun r s4 ⟨hr,I4⟩=>?_) fun _ _ z=>z.elim
   subst hr;exact hRR _ _ _ H3 s4 Od I4 qn
  ·refine wpAny_mono (Ej.item (dc X (own++fq) scope (fun _ _=>False) G2.objs.size s2 H2 fp) rfl rfl rfl rfl rfl i [] s3 _ H3 (fun _ _=>False) I3 (hfx K5) st3 go) (fun r s4 ⟨u,hr,h4⟩=>?_) fun _ _ z=>z.elim
   subst hr;refine wpAny_mono h4 (fun _ s5 ⟨x,H5,I5,r5,y5,GJ,NT⟩=>?_) fun _ _ z=>z.elim
   have NU:=I5.pinned (hfx NT) (Ej.obj _ _ GJ);refine wpAny_mono (hg _ _ _ _ _ s5 _ H5 x u _ NU r5 (step x H5 y5)) (fun _ s6 ⟨σ6,H6,I6,hd6,q6⟩=>?_) fun _ _ z=>z.elim
   refine wpAny_mono (ht _ _ _ _ _ s6 σ6 H6 _ I6 q6) (fun ok s7 ⟨H7,I7,q7⟩=>?_) fun _ _ z=>z.elim
   have again:∀{H8:Hp} {s8:Shared},Inv (dc X (own++fq) scope (fun _ _=>False) G2.objs.size s2 H2 fp) ([]++sR fp s5.heap) σ6 H8 s8->tn (i+1) s8.heap/\∀ b∈fp,H8 b=none:=fun {H8 s8} I8=>by
    refine⟨Ej.keep _ _ _ GJ fun b hb o e=>(I8.pin (b,o) (Bd _ (Bd _ (ig hb e)))).1,fun b hb=>?_⟩
    obtain⟨o,e,d⟩:=Ej.obj _ _ GJ b hb;exact(I8.pin (b,o) (Bd _ (Bd _ (ig hb e)))).2.1
   cases ok with
   | false =>
     rw[if_neg Bool.false_ne_true];obtain⟨m',hm,w7⟩:=hNN _ _ q7;obtain⟨t7,n7⟩:=again I7;exact⟨m',hm,i+1,acc,H7,back I7 hd6,t7,n7,w7⟩
   | true =>
     rw[if_pos rfl];refine wpAny_mono (he _ _ _ _ _ s7 σ6 H7 _ I7 q7) (fun xv s8 ⟨v,H8,I8,r8,hD8,q8⟩=>?_) fun _ _ z=>z.elim
     obtain⟨m',hm,w8⟩:=hNN _ _ q8;refine wpAny_mono (ik (X:=dc X (own++fq) scope (fun _ _=>False) G2.objs.size s2 H2 fp) _ s8 σ6 H8 (.ref s2.heap.objs.size) [v] (.ref s2.heap.objs.size) [xv] (fun y H9=>y = .eS/\H9=upd H8 s2.heap.objs.size (.lst (acc++[v]))) I8 rfl (.cons r8 .nil) ⟨_,acc,v,rfl,rfl,hD8,hz,rfl,rfl⟩)
      (fun _ s9 ⟨y,H9,I9,_,_,e9⟩=>?_) fun _ _ z=>z.elim
     subst e9;obtain⟨t9,n9⟩:=again I9;exact⟨m',hm,i+1,acc++[v],_,back I9 hd6,t9,n9,w8⟩
 exact codeAny_compStart_list (loop _ rfl) (Ej.self _ 0 _ _ _ st1 (loop _ rfl))
theorem dB(T:jT X scope own fq js)(hc:X.calm=true)(hi:PI X tg iter wi)
 (hg:∀ C s H fp,PG (dc X (own++fq) scope (fun _ _=>False) C s H fp) tg g)
 (ht:∀ C s H fp,Nq (dc X (own++fq) scope (fun _ _=>False) C s H fp) ifs tt)
 (he:∀ C s H fp,PE (dc X (own++fq) scope (fun _ _=>False) C s H fp) elt te)
 (hs:∀ x,foldedSetIterable iter X.env x=pure x:=by intro _;rfl) :
 PE X (.ListComp elt [⟨tg,iter,ifs,0⟩] scope pos) (GY wi g tt te own.length js):=by
 intro pq s σ H Q I h;rw[eval_ListComp];refine wpAny_comprehension_free (use:=none) rfl hs (qi (jU I T)) T.kind T.names ?_;refine wpAny_mono (hi pq s σ H _ I h) (fun v s1 h1=>wpAny_mono h1 (fun itv s2 h2=>?_) fun _ _ z=>z) fun _ _ z=>z
 obtain⟨it,fp,tn,J,H2,e,I2,Ej,st2,f2,hl⟩:=h2;subst e;refine qk (QQ:=fun D H'=>Q (.ref D) H') T hg ht he I2 (Ej.x hc) st2 f2 hl fun D C σ' H' s' hC J' q=>?_
 obtain⟨m,hn,_⟩:=J'.loc;exact⟨m,hn,fun h' sb=>⟨.ref D,H',kQ I2 f2 hC J' sb,rfl,q⟩⟩
def PIX(X:Cx)(tg iter:Expr)(wi:TI):Prop:=∀(pq:bF) (s:Shared) (σ:St) (H:Hp) (R:It->Hp->Prop),Inv X pq σ H s->wi σ H R->
 wpAny (model X.prog X.w) X.A (eval iter X.env) (fun v s1=>wpAny (model X.prog X.w) X.A (pyIter v) (fun itv s2=>∃(it:Addr) (fp:List Addr) (tn:Nat->Heap->Prop) (J:It) (H' : Hp),itv = .ref it/\Inv X pq σ H' s2/\Ei X.A X.calm X.prog X.w X.K tg J fp it tn/\tn 0 s2.heap/\(∀ b∈fp,qf X pq H' b)/\R J H') X.xe s1) X.xe s
theorem GZ(T:jT X scope own fq js)(hi:PIX X tg iter wi)
 (hg:∀ C s H fp,PG (dc X (own++fq) scope (fun _ _=>False) C s H fp) tg g)
 (ht:∀ C s H fp,Nq (dc X (own++fq) scope (fun _ _=>False) C s H fp) ifs tt)
 (he:∀ C s H fp,PE (dc X (own++fq) scope (fun _ _=>False) C s H fp) elt te)
 (hs:∀ x,foldedSetIterable iter X.env x=pure x:=by intro _;rfl) :
 PE X (.ListComp elt [⟨tg,iter,ifs,0⟩] scope pos) (GY wi g tt te own.length js):=by
 intro pq s σ H Q I h;rw[eval_ListComp];refine wpAny_comprehension_free (use:=none) rfl hs (qi (jU I T)) T.kind T.names ?_;refine wpAny_mono (hi pq s σ H _ I h) (fun v s1 h1=>wpAny_mono h1 (fun itv s2 h2=>?_) fun _ _ z=>z) fun _ _ z=>z
 obtain⟨it,fp,tn,J,H2,e,I2,Ej,st2,f2,hl⟩:=h2;subst e;refine qk (QQ:=fun D H'=>Q (.ref D) H') T hg ht he I2 Ej st2 f2 hl fun D C σ' H' s' hC J' q=>?_
 obtain⟨m,hn,_⟩:=J'.loc;exact⟨m,hn,fun h' sb=>⟨.ref D,H',kQ I2 f2 hC J' sb,rfl,q⟩⟩
def G0(i:Nat)(wi:TI)(g:TG)(tt:TT)(te:TE)(n:Nat)(js:List Nat):TS:=fun D σ H=>GY wi g tt te n js σ H fun v H1=>D.nx (σ.set i (some v)) H1
theorem gJ{i:Nat}{x:Str}{pos' spos:Pos}(hN:X.N.Nodup)(hix:X.N[i]?=some x)(hx:X.env.scope.names.lookup x=some .local)(T:jT X scope own fq js)(hc:X.calm=true)(hi:PI X tg iter wi)
 (hg:∀ C s H fp,PG (dc X (own++fq) scope (fun _ _=>False) C s H fp) tg g)
 (ht:∀ C s H fp,Nq (dc X (own++fq) scope (fun _ _=>False) C s H fp) ifs tt)
 (he:∀ C s H fp,PE (dc X (own++fq) scope (fun _ _=>False) C s H fp) elt te)
 (hsw:swapsWith (.ListComp elt [⟨tg,iter,ifs,0⟩] scope pos) (some (.Name x pos')) spos.line X.env=pure true:=by rfl)
 (hs:∀ x,foldedSetIterable iter X.env x=pure x:=by intro _;rfl) :
 PS X (.Assign [.Name x pos'] (.ListComp elt [⟨tg,iter,ifs,0⟩] scope pos) spos) (G0 i wi g tt te own.length js):=by
 intro pq s σ H D I h;rw[exec_Assign_Name_used _ _ _ _ hsw];refine dO (wpAny_standAt (dO ?_));show wpAny _ X.A (do let _←comprehension (.ListComp elt [⟨tg,iter,ifs,0⟩] scope pos) scope X.env _ (newList []) false (eval iter X.env) (some (assign (.Name x pos') X.env))) _ _ s
 refine dO (wpAny_mono (wpAny_comprehension_free (use:=some (assign (.Name x pos') X.env)) (Q:=fun _ s'=>SP X pq D .next s') rfl hs (qi (jU I T)) T.kind T.names ?_) (fun _ s' hq=>wpAny_pure (wpAny_pure hq)) fun _ _ e=>e)
 refine wpAny_mono (hi pq s σ H _ I h) (fun v s1 h1=>wpAny_mono h1 (fun itv s2 h2=>?_) fun _ _ z=>z) fun _ _ z=>z
 obtain⟨it,fp,tn,J,H2,e,I2,Ej,st2,f2,hl⟩:=h2;subst e;refine qk (QQ:=fun D' H'=>D.nx (σ.set i (some (.ref D'))) H') T hg ht he I2 (Ej.x hc) st2 f2 hl fun D' C σ' H' s' hC J' q=>?_
 have I3:Inv X pq σ H' s':=by
  obtain⟨hh,gg,dd,tt',oo⟩:=s';exact kQ I2 f2 hC J' (Heap.SameBut.refl ..)
 obtain⟨m,hn,_⟩:=J'.loc;obtain⟨oC,es,ep,hoC,hdC,rest⟩:=id hn;have Mb:H' C=none:=J'.free;have hlC:C≠X.env.locals:=Nat.ne_of_gt (Nat.lt_of_lt_of_le I2.lt hC);have hfC:C∉X.fs:=fun z=>by
  obtain⟨_,o,ho,_⟩:=I2.funs.mem z;exact absurd (Nat.lt_of_lt_of_le (Heap.lt_size ho) hC) (Nat.lt_irrefl _)
 have I4:Inv X (pq++[(C,oC)]) σ H' s':=I3.vc fun p hp=>(List.mem_append.mp hp).elim (fun z=>I3.pin p (Bd _ z)) fun z=>by
  have e:p=(C,oC):=by simpa using z
  subst e;exact⟨hoC,Mb,hlC,hfC,fun v z=>by have z' : oC.data = .cell v:=z;rw[hdC]at z';cases z'⟩
 show wpAny _ X.A (assign (.Name x pos') X.env (.ref D')) _ _ _;refine wpAny_assign_Name (nD (v:=.ref D') I4 hN hix (.inl hx) rfl (fun s5 I5=>?_) (.inr hx))
 have e5:s5.heap.get? C=some oC:=(I5.pin (C,oC) (Bd _ (Bd _ (by simp)))).1
 refine⟨m,⟨oC,es,ep,e5,hdC,rest⟩,fun h' sb=>⟨_,H',?_,q⟩⟩
 have I6:Inv X pq (σ.set i (some (.ref D'))) H' s5:=I5.jR;refine I6.turned (t':=s5.toks) (fun b o hb e=>(sb.2 b hb).trans e) Mb hlC (.inr (Nat.le_trans I2.sz hC)) (fun y c e=>?_) (fun p hp z=>?_)
 ·obtain⟨v,qc⟩:=I2.cell y c e;exact Nat.ne_of_lt (Nat.lt_of_lt_of_le qc.lt hC)
 ·have G3:=(I2.pin p hp).1;exact absurd (Nat.lt_of_lt_of_le (Heap.lt_size G3) (by rw[z];exact hC)) (Nat.lt_irrefl _)
end
section
variable {K:bI}{a:Addr}{xs:List V}{g:TG}{tt:TT}{te:TE}{n:Nat}{fr:St}{D:Addr}{Q:Hp->Prop}{H1:Hp}
theorem dw(Pv:Nat->List V->Hp->Prop)(h0:Pv 0 [] H1)(hl:∀ i acc H,i<=xs.length->Pv i acc H->aZ K H a xs/\H D=some (.lst acc)/\acc.length<=i)(hz:xs.length<=sizeLine)
 (hs:∀ i x acc H,xs[i]?=some x->Pv i acc H->g x (List.replicate n none++fr) H fun σ2 H2=>σ2.drop n=fr/\tt σ2 H2 fun b H3 =>
  if b=true then te σ2 H3 fun v H4=>H4 D=some (.lst acc)/\Pv (i+1) (acc++[v]) (upd H4 D (.lst (acc++[v]))) else Pv (i+1) acc H3)
 (hd:∀ acc H,Pv xs.length acc H->Q H):jV (JF K a) g tt te n fr D Q H1:=by
 refine⟨fun i m acc H=>m=xs.length-i/\i<=xs.length/\Pv i acc H,⟨xs.length,by simp,Nat.zero_le _,h0⟩,?_⟩
 rintro i m acc H ⟨rfl,hi,p⟩;obtain⟨q,hD,ha⟩:=hl i acc H hi p;refine⟨hD,?_⟩
 by_cases hlt:i<xs.length
 ·refine .inr ⟨⟨xs,xs[i],q,by simp[hlt]⟩,by lia,Pv (i+1),fun acc' H' p'=>⟨xs.length-(i+1),by lia,rfl,hlt,p'⟩,fun x H' y=>?_⟩
  obtain⟨e,y⟩:=y;subst e;exact hs i x acc _ (y xs q) p
 ·have e:i=xs.length:=by lia
  subst e;exact .inl ⟨⟨xs,q,Nat.le_refl _⟩,hd acc H p⟩
theorem G7(Pv:Nat->List V->Hp->Prop)(h0:Pv 0 [] H1)(hl:∀ i acc H,i<=xs.length->Pv i acc H->aT K H a xs/\H D=some (.lst acc)/\acc.length<=i)(hz:xs.length<=sizeLine)
 (hs:∀ i x acc H,xs[i]?=some x->Pv i acc H->g x (List.replicate n none++fr) H fun σ2 H2=>σ2.drop n=fr/\tt σ2 H2 fun b H3 =>
  if b=true then te σ2 H3 fun v H4=>H4 D=some (.lst acc)/\Pv (i+1) (acc++[v]) (upd H4 D (.lst (acc++[v]))) else Pv (i+1) acc H3)
 (hd:∀ acc H,Pv xs.length acc H->Q H):jV (SG K a) g tt te n fr D Q H1:=by
 refine⟨fun i m acc H=>m=xs.length-i/\i<=xs.length/\Pv i acc H,⟨xs.length,by simp,Nat.zero_le _,h0⟩,?_⟩
 rintro i m acc H ⟨rfl,hi,p⟩;obtain⟨q,hD,ha⟩:=hl i acc H hi p;refine⟨hD,?_⟩
 by_cases hlt:i<xs.length
 ·refine .inr ⟨⟨xs,xs[i],q,by simp[hlt]⟩,by lia,Pv (i+1),fun acc' H' p'=>⟨xs.length-(i+1),by lia,rfl,hlt,p'⟩,fun x H' y=>?_⟩
  obtain⟨e,y⟩:=y;subst e;exact hs i x acc _ (y xs q) p
 ·have e:i=xs.length:=by lia
  subst e;exact .inl ⟨⟨xs,q,Nat.le_refl _⟩,hd acc H p⟩
theorem bY{lo:Int}{m:Nat}(Pv:Nat->List V->Hp->Prop)(h0:Pv 0 [] H1)(hl:∀ i acc H,i<=m->Pv i acc H->H D=some (.lst acc)/\acc.length<=i)(hz:m<=sizeLine)
 (hs:∀ i acc H,i<m->Pv i acc H->g (.int (lo+i)) (List.replicate n none++fr) H fun σ2 H2=>σ2.drop n=fr/\tt σ2 H2 fun b H3 =>
  if b=true then te σ2 H3 fun v H4=>H4 D=some (.lst acc)/\Pv (i+1) (acc++[v]) (upd H4 D (.lst (acc++[v]))) else Pv (i+1) acc H3)
 (hd:∀ acc H,Pv m acc H->Q H):jV (D5 lo m) g tt te n fr D Q H1:=by
 refine⟨fun i k acc H=>k=m-i/\i<=m/\Pv i acc H,⟨m,by simp,Nat.zero_le _,h0⟩,?_⟩
 rintro i k acc H ⟨rfl,hi,p⟩;obtain⟨hD,ha⟩:=hl i acc H hi p;refine⟨hD,?_⟩
 by_cases hlt:i<m
 ·refine .inr ⟨hlt,by lia,Pv (i+1),fun acc' H' p'=>⟨m-(i+1),by lia,rfl,hlt,p'⟩,fun x H' y=>?_⟩
  obtain⟨e,y⟩:=y;subst e y;exact hs i acc _ hlt p
 ·have e:i=m:=by lia
  subst e;exact .inl ⟨Nat.le_refl _,hd acc H p⟩
end
def Bo(scope Of:Scope)(N fq:List Str)(js:List Nat):Bool :=
 decide (scope.kind = .function)&&scope.names.all (fun y=>decide (y.2≠.cell))&&scope.names.all (fun y=>decide (y.2 = .local->scope.names.lookup y.1=some .local)) &&
 scope.names.all (fun y=>decide (y.2 = .free->Of.names.lookup y.1=some .cell\/Of.names.lookup y.1=some .free))&&decide (js.map (fun j=>N[j]?)=fq.map some)&&fq.all (fun x=>decide (scope.names.lookup x=some .free))
theorem aN{X:Cx}{scope:Scope}{own fq:List Str}{js:List Nat}(Of:Scope)(N:List Str)(h1:X.env.scope=Of:=by rfl)(h2:X.N=N:=by rfl)(h:Bo scope Of N fq js=true:=by decide +kernel):jT X scope own fq js:=by
 unfold Bo at h;simp only[Bool.and_eq_true,decide_eq_true_eq,List.all_eq_true]at h;obtain⟨⟨⟨⟨⟨a,b⟩,c⟩,d⟩,e⟩,f⟩:=h;exact⟨a,b,c,by rw[h1];exact d,by rw[h2];exact e,f⟩
mutual
inductive qR(K:bI)(H:Hp):V->PyData->Prop
 | eS:qR K H .eS .none
 | bl (b:Bool):qR K H (.bl b) (.bool b)
 | int (i:Int):qR K H (.int i) (.int i)
 | str (x:Str):qR K H (.str x) (.str x)
 | lst {a:Addr} {xs:List V} {ds:List PyData} (h:aZ K H a xs) (r:DatVs K H xs ds):qR K H (.ref a) (.list ds)
 | tup {a:Addr} {xs:List V} {ds:List PyData} (h:aT K H a xs) (r:DatVs K H xs ds):qR K H (.ref a) (.tuple ds)
inductive DatVs(K:bI)(H:Hp):List V->List PyData->Prop
 | nil:DatVs K H [] []
 | cons {x:V} {d:PyData} {xs:List V} {ds:List PyData} (h:qR K H x d) (r:DatVs K H xs ds):DatVs K H (x::xs) (d::ds)
end
section
variable {X:Cx}{pq:bF}{σ:St}{H:Hp}{s:Shared}
mutual
theorem qR.reads(I:Inv X pq σ H s):∀{v:V} {d:PyData} {u:Value},qR X.K H v d->RelV v u->∃ as,Reads s.heap u d as
 | _,_,u,.eS,r=>by cases(show u=Value.none from r);exact⟨_,.none⟩
 | _,_,u,.bl b,r=>by cases(show u=Value.bool b from r);exact⟨_,.bool b⟩
 | _,_,u,.int i,r=>by obtain⟨t,rfl⟩:=(show ∃ t,u=Value.int i t from r);exact⟨_,.int i t⟩
 | _,_,u,.str x,r=>by obtain⟨t,rfl⟩:=(show ∃ t,u=Value.str x t from r);exact⟨_,.str x t⟩
 | _,_,u,.lst (a:=a) h rs,r=>by
   cases(show u=Value.ref a from r)
   obtain⟨its,rv,⟨o,n,e,c,_,d⟩,_⟩:=I.list h;obtain⟨as,q⟩:=DatVs.reads I rs rv;exact⟨_,.list e c d (by simpa using q)⟩
 | _,_,u,.tup (a:=a) h rs,r=>by
   cases(show u=Value.ref a from r)
   obtain⟨its,rv,⟨o,e,c,n,d⟩,_⟩:=I.tuple h;obtain⟨as,q⟩:=DatVs.reads I rs rv;exact⟨_,.tuple e c d (by simpa using q)⟩
theorem DatVs.reads(I:Inv X pq σ H s):∀{vs:List V} {ds:List PyData} {us:List Value},DatVs X.K H vs ds->Vals vs us->∃ as,ReadsAll s.heap us ds as
 | _,_,_,.nil,.nil=>⟨_,.nil⟩
 | _,_,_,.cons h r,.cons rv rr=>by
   obtain⟨as,q⟩:=qR.reads I h rv;obtain⟨bs,q2⟩:=DatVs.reads I r rr;exact⟨_,.cons q q2⟩
end
end
section
variable {X:Cx}
def Og(K:bI):R2:=fun x y H Q=>∃ d e,qR K H x d/\qR K H y e/\SeqAt.shaped d=true/\SeqAt.shaped e=true/\Q (.bl (PyData.eqv d e)) H
def Oh(K:bI):R2:=fun x y H Q=>∃ d e,qR K H x d/\qR K H y e/\SeqAt.shaped d=true/\SeqAt.shaped e=true/\Q (.bl (!PyData.eqv d e)) H
theorem Me(hu:X.A.units+64<cLine):mZ X (compareOp .Eq) (Og X.K):=by
 intro pq s σ H x y v u Q I rx ry h;obtain⟨d,e,h1,h2,s1,s2,q⟩:=h;obtain⟨as,ra⟩:=h1.reads I rx;obtain⟨bs,rb⟩:=h2.reads I ry;exact eq_dataH ra rb s1 s2 hu ⟨.bl _,H,I,rfl,q⟩
theorem Mf(hu:X.A.units+64<cLine):mZ X (compareOp .NotEq) (Oh X.K):=by
 intro pq s σ H x y v u Q I rx ry h;obtain⟨d,e,h1,h2,s1,s2,q⟩:=h;obtain⟨as,ra⟩:=h1.reads I rx;obtain⟨bs,rb⟩:=h2.reads I ry;exact ne_dataH ra rb s1 s2 hu ⟨.bl _,H,I,rfl,q⟩
def Mg:V->Option Value
 | .ty n=>some (.type n)
 | .ref a=>some (.ref a)
 | _=>none
theorem El{c:V}{u w:Value}(h:Mg c=some u)(r:RelV c w):w=u:=by
 cases c with
 | ty n=>exact(show w=Value.type n from r).trans (Option.some.inj h)
 | ref a=>exact(show w=Value.ref a from r).trans (Option.some.inj h)
 | _=>cases h
def Oi(K:bI):List V->Hp->VK->Prop:=fun xs H Q=>∃ x c t u b,xs=[x,c]/\Mg c=some u/\sS K H x t/\PySem.W.kitOne K t u=some b/\Q (.bl b) H
theorem G8:fR X (.builtin "isinstance") (Oi X.K):=by
 intro pq s σ H xs us Q I r h;obtain⟨x,c,t,u,b,rfl,rc,ty,e,q⟩:=h;cases r with
 | cons r1 r2 =>
   cases r2 with
   | cons r2 r3 =>
     cases r3;cases El rc r2;exact E2 I r1 ty e fun tk=>⟨.bl b,H,I.tok tk,rfl,q⟩
theorem Mh(K:bI):PySem.W.kitOne K (.type "bool") (.type "bool")=some true:=by with_unfolding_all rfl
theorem JU:SN X "int.bit_length" (fun x xs H Q=>∃ i,x = .int i/\xs=[]/\Q (.int (Builtin.Int.intBits i)) H):=by
 intro pq s σ H x xs v us Q I rx rs h;obtain⟨i,rfl,rfl,q⟩:=h;obtain⟨t,rfl⟩:=rx;cases rs;exact call_int_bit_length ⟨.int _,H,I.tok _,⟨_,rfl⟩,q⟩
end
theorem dl{n:Nat}(h:Nat.ble n 1000=true):n<=sizeLine:=Nat.le_of_lt (gr (Nat.le_of_ble_eq_true h))
theorem jW{j:Int}(h:decide (0<j)=true):0<j:=mX h
theorem nj{c A B:Prop}[Decidable c](h : ¬ c)(hb:B):if decide c=true then A else B:=by
 rw[h8 h];exact dS hb
theorem sU{c A B:Prop}[Decidable c](h:c)(ha:A):if decide c=true then A else B:=by
 rw[e7 h];exact dm ha
theorem aq.new{H:Hp}{p:Addr}{o:HO}(h:H p=none):aq H (upd H p o):=fun b u e=>by
 rw[aQ (cC e h)];exact e
theorem aq.put{H H2:Hp}{D:Addr}{o:HO}(s:aq H H2)(h:H D=none):aq H (upd H2 D o):=fun b u e=>by
 rw[aQ (cC e h)];exact s b u e
def iU(H H' : Hp):Prop:=∀ b xs,H b=some (.tup xs)->H' b=some (.tup xs)
theorem aq.tups{H H' : Hp}(s:aq H H'):iU H H':=fun b xs e=>s b _ e
theorem iU.trans{H H1 H2:Hp}(a:iU H H1)(b:iU H1 H2):iU H H2:=fun c xs e=>b c xs (a c xs e)
theorem iU.put{H:Hp}{D:Addr}{o:HO}{ys:List V}(h:H D=some (.lst ys)):iU H (upd H D o):=fun b xs e=>by
 rw[aQ (K0 e h (by intro z;cases z))]
 exact e
theorem Paired.vL{α β:Type}{F:α->β->Prop}:∀{l:List α} {r:List β} {i:Nat} {x:α},Paired F l r->l[i]?=some x->∃ y,r[i]?=some y/\F x y
 | _,_,_,_,.nil,e=>by simp at e
 | _,_,0,_,.cons h _,e=>by
   simp at e;subst e;exact⟨_,rfl,h⟩
 | _,_,i+1,x,.cons _ t,e=>by
   obtain⟨y,h1,h2⟩:=Paired.vL (i:=i) (x:=x) t (by simpa using e)
   exact⟨y,by simpa using h1,h2⟩
theorem G9(ns:List Int)(lo hi:Option Int):pG (ns.map V.int) lo hi=((ns.drop (HT.eU ns.length 0 lo)).take (HT.eU ns.length ns.length hi-HT.eU ns.length 0 lo)).map V.int:=by
 unfold pG;rw[List.length_map,<-List.map_drop,<-List.map_take]
section
variable {X:Cx}{l:Expr}{tl:TE}{tg a b o e:Expr}{ta tb to:TE}{es:List Expr}
theorem CQ(K:bI)(hu:X.A.units+64<cLine)(h:X.K=K:=by rfl):mZ X (compareOp .Eq) (Og K):=by subst h;exact Me hu
theorem Hf(K:bI)(hu:X.A.units+64<cLine)(h:X.K=K:=by rfl):mZ X (compareOp .NotEq) (Oh K):=by subst h;exact Mf hu
theorem S8(K:bI)(h:X.K=K:=by rfl):fR X (.builtin "isinstance") (Oi K):=by subst h;exact G8
def S9(K:bI):List V->Hp->VK->Prop:=fun xs H Q=>∃ p ys,xs=[.ref p]/\(aZ K H p ys\/aT K H p ys)/\Q (.int ys.length) H
theorem fS(K:bI)(h:X.K=K:=by rfl):fR X (.builtin "len") (S9 K):=by subst h;exact Aa
def Oj(K:bI):List V->Hp->VK->Prop:=fun xs H Q=>∃ p ys,xs=[.ref p]/\(aZ K H p ys\/aT K H p ys)/\∀ l,H l=none->Q (.ref l) (upd H l (.lst ys))
theorem K8(K:bI)(h:X.K=K:=by rfl):fR X (.type "list") (Oj K):=by subst h;exact Ab
def Ol(K:bI):List V->Hp->VK->Prop:=fun xs H Q=>∃ p ys,xs=[.ref p]/\((aZ K H p ys/\∀ l,H l=none->Q (.ref l) (upd H l (.tup ys)))\/(aT K H p ys/\Q (.ref p) H))
theorem yS(K:bI)(h:X.K=K:=by rfl):fR X (.type "tuple") (Ol K):=by subst h;exact ya
theorem m5(K:bI)(h:X.K=K:=by rfl):N2 X (N3 K):=by subst h;exact JN
theorem bT(K:bI)(h:X.K=K:=by rfl):N2 X (N4 K):=by subst h;exact LY
theorem slL(K:bI)(h:X.K=K:=by rfl):QN X (N6 K):=by subst h;exact JO
theorem QT(K:bI)(h:X.K=K:=by rfl):mZ X (compareOp .In) (QO K false):=by subst h;exact E5
theorem Hg(K:bI)(h:X.K=K:=by rfl):mZ X (compareOp .NotIn) (QO K true):=by subst h;exact z9
theorem yb(K:bI)(hl:PE X l tl)(h:X.K=K:=by rfl):PI X tg l (K4 K tl):=by subst h;exact JG hl
theorem piT(K:bI)(hl:PE X l tl)(h:X.K=K:=by rfl):PI X tg l (NQ K tl):=by subst h;exact LL hl
theorem Gy(K:bI){k:Nat}{t:K2}{n:Nat}{pos:Pos}(hc:X.calm=true)(hp:NH X es t)(hn:(assignEach es X.env).length=n:=by rfl)(hst:(assignEach es X.env).findIdx? (·.1)=none:=by rfl)(h:X.K=K:=by rfl):
 PG X (.Tuple es k pos) (NK K n t):=by subst h;exact LJ hc hp hn hst
theorem K9{x:Str}{T:String}{pos:Pos}(hg:Gl X x)(hm:X.mg x=none)(hv:bootBuiltins x=some (.type T))(hn:x≠"__name__":=by decide)(hd:(x==("__debug__":Str))=false:=by decide):PE X (.Name x pos) (tC (.ty T)) :=
 JC hg hm hv rfl hn hd
end
def Sec(e:Addr)(h:Heap):Prop:=∃ oe vs,h.get? e=some oe/\oe.data = .fields vs/\vs[2]?=some .none
def yc(od:Option Addr)(c:Value)(e:Addr)(h:Heap):Prop:=∃ oe vs,h.get? e=some oe/\oe.data = .fields vs/\vs[2]?=some c/\oe.dict=od
theorem Hh(o:Obj)(f):(o.mapFields f).dict=o.dict:=by
 obtain⟨c,d,dt,sl⟩:=o;cases dt<;>rfl
section
variable {M:Model}{A:Around}{E:gj}{s:Shared}{B:Heap}{env:Env}{outer l:List Env}{L e:Addr}{cls a0:Value}{Q:Unit->Shared->Prop}{od:Option Addr}{c:Value}
theorem Ae{h:Heap}{T:Addr}{oT:Obj}{ts:Array Value}(f:Obj->Obj)(hT:h.get? T=some oT)(hd:oT.data = .fields ts):h.UpToSlots (h.update T f):=fun b o hb hn=>by
 have ne:T≠b:=fun z=>by
  rw[<-z,hT]at hb;cases hb;exact hn ts hd
 exact⟨o.slots,(Heap.get?_update_other h f ne).trans hb⟩
theorem sV{h:Heap}{T:Addr}(f:Obj->Obj)(k:B.StaysIn h)(n:B.get? T=none):B.StaysIn (h.update T f):=fun b o hb=>by
 have ne:T≠b:=fun z=>by
  rw[<-z,n]at hb;cases hb
 exact(Heap.get?_update_other h f ne).trans (k b o hb)
theorem mq{h h' : Heap}(x:h.FunFrames B l)(u:h.UpToSlots h'):h'.FunFrames B l:=x.of_keeps fun b o hb hn =>
 let⟨_,q⟩:=u b o hb hn
 ⟨_,q,rfl⟩
theorem Em{fl:Value}(hk:B.StaysIn s.heap)(hn:B.get? e=none)(hl:s.heap.FunFrames B l)(ht:s.heap.TracedAtW B e cls a0 fl)(h2:yc od c e s.heap)
 (q:∀ h',Heap.FlyingW B l e cls a0 h'->yc od c e h'->s.heap.UpToSlots h'->Q () { s with heap:=h'}):wpAny M A (setFlight (.ref e) none) Q E s:=by
 obtain⟨oe,vs,T,oT,ts,ge,hc,de,f1,nT,Te,gT,dT,f3⟩:=ht;have z3:3<ts.size:=(Array.getElem?_eq_some_iff.mp f3).1;rw[setFlight];refine dO (wpAny_field ge de f1 ?_);rw[if_pos (by simp)]
 refine wpAny_setField gT dT z3 ?_;have up:=Ae (Obj.mapFields (·.setIfInBounds 3 ((none:Option Addr).elim Value.none fun f=>rawInt f))) gT dT
 have QU:=(Heap.get?_update_other s.heap (Obj.mapFields (·.setIfInBounds 3 ((none:Option Addr).elim Value.none fun f=>rawInt f))) Te).trans ge
 have dT':=Obj.data_mapFields dT (·.setIfInBounds 3 ((none:Option Addr).elim Value.none fun f=>rawInt f))
 refine q _ ⟨sV _ hk nT,hn,mq hl up,oe,vs,T,_,_,QU,hc,de,f1,nT,Te,Heap.get?_update_self _ gT (Obj.isFreed_of_fields dT'),dT',by simp[z3]⟩ ?_ up
 obtain⟨o2,v2,g2,d2,k2,z2⟩:=h2;rw[ge]at g2;cases g2;exact⟨oe,v2,QU,d2,k2,z2⟩
theorem Hi{oe:Obj}{vs:Array Value}{head:Value}{hadNext:Bool}(hfr:A.frames=some (env::outer))(hl:s.heap.FunFrames B (env::outer))(hf:env.frame=some L)(ge:s.heap.get? e=some oe)(hk:B.StaysIn s.heap)(hn:B.get? e=none)
 (de:oe.data = .fields vs) (hz:1<vs.size) (h0:vs[0]?=some a0) (h2:vs[2]?=some c) (hz2:oe.dict=od)
 (q:∀ h',Heap.HeldW B (env::outer) e oe.cls a0 L h'->yc od c e h'->s.heap.UpToSlots h'->Q () { s with heap:=h'}) :
 wpAny M A (do let a←frameOf env;let pl←entryPlaceOf L hadNext;let b←EntryCells.newEntry head a .none (rawInt L) .none pl;setField (.ref e) 1 b) Q E s:=by
 have Tc:e∉(env::outer).filterMap (·.frame):=fun z=>by
  obtain⟨_,o,ho,nf⟩:=hl.mem z;rw[ge]at ho;cases ho;exact nf vs de
 refine dO (wpAny_frameOf_fun hfr hl hf fun h1 so=>dO (wpAny_entryPlaceOf fun pl ip=>?_))
 rw[EntryCells.newEntry,newFields];refine dO (wpAny_newObj_type ?_ (ip.sizeOk5 _ _ _ _ _));generalize hnw:({ cls:=.type "traceback",dict:=none,data:=.fields ([head,.ref L,.none,rawInt L,.none]++(if pl.isEmpty then List.replicate 6 Value.none else pl)).toArray}:Obj)=nw
 have dn:nw.data = .fields ([head,.ref L,.none,rawInt L,.none]++(if pl.isEmpty then List.replicate 6 Value.none else pl)).toArray:=by rw[<-hnw]
 have ge1:h1.get? e=some oe:=(so.2.1 e Tc).trans ge;have Td:=Heap.get?_push_of_some (h:=h1) nw ge1;have Te:h1.objs.size≠e:=Nat.ne_of_gt (Heap.lt_size ge1);refine wpAny_setField Td de hz ?_;have Tf:=Obj.data_mapFields de (·.setIfInBounds 1 (Value.ref h1.objs.size));have ge3:=Heap.get?_update_self (Obj.mapFields (·.setIfInBounds 1 (Value.ref h1.objs.size))) Td (Obj.isFreed_of_fields Tf);have gT3:=(Heap.get?_update_other (h1.push nw) (Obj.mapFields (·.setIfInBounds 1 (Value.ref h1.objs.size))) (Ne.symm Te)).trans (Heap.get?_push_size h1 (by rw[<-hnw];rfl))
 have up:s.heap.UpToSlots ((h1.push nw).update e (Obj.mapFields (·.setIfInBounds 1 (Value.ref h1.objs.size)))):=by
  have u1:s.heap.UpToSlots h1:=fun b o hb _=>so.2.2 b o hb
  exact(u1.trans (.of_keeps fun b o hb=>Heap.get?_push_of_some nw hb)).trans (Ae _ Td de)
 have k1:B.StaysIn h1:=fun b o hb=>(so.2.1 b fun z=>by rw[(hl.mem z).1]at hb;cases hb).trans (hk b o hb)
 have k2:B.StaysIn (h1.push nw):=fun b o hb=>Heap.get?_push_of_some nw (k1 b o hb)
 refine q _ ⟨sV _ k2 hn,hn,mq hl up,_,_,h1.objs.size,nw,_,ge3,⟨Obj.cls_mapFields _ _,by rw[Array.getElem?_setIfInBounds_ne (by decide)];exact h0⟩,Tf,by simp[hz],k1.fresh,Te,gT3,dn,?_⟩ ?_ up
 ·first | (simp;done) | (rcases ip with rfl | ⟨_,_,_,_,_,_,_,rfl⟩<;>simp)
 ·exact⟨_,_,ge3,Tf,by rw[Array.getElem?_setIfInBounds_ne (by decide)];exact h2,(Hh _ _).trans hz2⟩
theorem La(hfr:A.frames=some (env::outer))(hf:env.frame=some L)(fl:Heap.FlyingW B (env::outer) e cls a0 s.heap)(h2:yc od c e s.heap)
 (q:∀ h',Heap.HeldW B (env::outer) e cls a0 L h'->yc od c e h'->s.heap.UpToSlots h'->Q () { s with heap:=h'}):wpAny M A (noteFrame (.ref e) env) Q E s:=by
 obtain⟨hk,hn,hl,oe,vs,T,oT,ts,ge,⟨hc,h0⟩,de,f1,nT,Te,gT,dT,f3⟩:=fl;obtain⟨o2,v2,g2,d2,k2,z2⟩:=h2;rw[ge]at g2;cases g2;rw[de]at d2;cases d2;cases hc;rw[noteFrame];simp only[hf];refine dO (wpAny_field ge de f1 ?_);rw[if_pos (by simp)]
 refine dO (wpAny_field gT dT f3 ?_);rw[if_neg (by simp[rawInt])]
 refine dO (wpAny_setField gT dT (Array.getElem?_eq_some_iff.mp f3).1 ?_);have up:=Ae (Obj.mapFields (·.setIfInBounds 3 Value.none)) gT dT;have QU:=(Heap.get?_update_other s.heap (Obj.mapFields (·.setIfInBounds 3 Value.none)) Te).trans ge;exact Hi (s:={ s with heap:=s.heap.update T (Obj.mapFields (·.setIfInBounds 3 Value.none))}) hfr (mq hl up) hf QU (sV _ hk nT) hn de (Array.getElem?_eq_some_iff.mp f1).1 h0 k2 z2 fun h' x1 x2 x3=>q h' x1 x2 (up.trans x3)
theorem Om(x:Heap.FlyingW B (env::outer) e cls a0 s.heap):Heap.FlyingW B outer e cls a0 s.heap :=
 let⟨k1,k2,⟨_,_,k3⟩,k4⟩:=x
 ⟨k1,k2,k3,k4⟩
theorem leave_on2(hfr:A.frames=some (env::outer))(hf:env.frame=some L)(fl:Heap.FlyingW B (env::outer) e cls a0 s.heap)(h2:yc od c e s.heap)
 (q:∀ h',Heap.FlyingW B outer e cls a0 h'->yc od c e h'->s.heap.UpToSlots h'->Q () { s with heap:=h'}):wpAny M A (leaving env (.ref e)) Q E s:=by
 rw[leaving];refine dO (La hfr hf fl h2 fun h' x1 x2 x3=>?_)
 obtain⟨y1,y2,y3,y4⟩:=x1;exact Em (s:={ s with heap:=h'}) y1 y2 y3 y4 x2 fun h'' z1 z2 z3=>q h'' (Om (s:={ s with heap:=h''}) z1) z2 (x3.trans z3)
theorem leave_new{oe:Obj}{vs:Array Value}(hfr:A.frames=some (env::outer))(hf:env.frame=some L)(hk:B.StaysIn s.heap)(hn:B.get? e=none)(hl:s.heap.FunFrames B (env::outer))(ge:s.heap.get? e=some oe)(de:oe.data = .fields vs)
 (h0:vs[0]?=some a0) (h1:vs[1]?=some .none) (h2:vs[2]?=some c) (hz2:oe.dict=od)
 (q:∀ h',Heap.FlyingW B outer e oe.cls a0 h'->yc od c e h'->s.heap.UpToSlots h'->Q () { s with heap:=h'}):wpAny M A (leaving env (.ref e)) Q E s:=by
 rw[leaving,noteFrame];simp only[hf];refine dO (dO (wpAny_field ge de h1 ?_));rw[if_neg (by decide)]
 refine Hi (a0:=a0) hfr hl hf ge hk hn de (Array.getElem?_eq_some_iff.mp h1).1 h0 h2 hz2 fun h' x1 x2 x3=>?_
 obtain⟨y1,y2,y3,y4⟩:=x1;exact Em (s:={ s with heap:=h'}) y1 y2 y3 y4 x2 fun h'' z1 z2 z3=>q h'' (Om (s:={ s with heap:=h''}) z1) z2 (x3.trans z3)
end
section
variable {P:Program}{w:World}{H H0 H1:Hp}{h h0 h1 h2:Heap}{a:Addr}{o:HO}{fs:List Addr}{B:Heap}
theorem cY.thing(x:cY P w H h a o):∃ ob,h.get? a=some ob:=by
 cases o with
 | lst xs=>obtain⟨_,_,_,_,e⟩:=x;exact⟨_,e⟩
 | tup xs=>obtain⟨_,_,_,ob,e,_⟩:=x;exact⟨ob,e⟩
 | dK kvs=>obtain⟨_,_,_,_,ob,_,_,e,_⟩:=x;exact⟨ob,e⟩
 | dT kvs=>obtain⟨_,_,_,_,ob,_,_,e,_⟩:=x;exact⟨ob,e⟩
 | set S n=>obtain⟨ob,_,_,_,e,_⟩:=x;exact⟨ob,e⟩
 | ins C dx fs=>obtain⟨_,_,_,e,_⟩:=x;exact⟨_,e⟩
 | own y=>exact x
 | xd fs=>obtain⟨_,⟨ob,_,_,e,_⟩,_⟩:=x;exact⟨ob,e⟩
 | Jk lo hi=>obtain⟨_,_,_,e⟩:=x;exact⟨_,e⟩
 | CF ob u=>obtain⟨e,_⟩:=x;exact⟨_,e⟩
 | KZ ps=>obtain⟨_,e,_⟩:=x;exact⟨_,e⟩
 | met f y=>exact⟨_,(show h.get? a=some _ from x)⟩
 | ext φ=>obtain⟨_,e,_⟩:=x;exact e
def Bp(B:Heap)(fs:List Addr)(h0:Heap)(H:Hp)(h:Heap):Prop:=∀ b o,h.get? b=some o->(H b≠none\/∃ o',h0.get? b=some o')->b∉fs->B.get? b=some o
theorem Bq(un:Un fs [] H0 H1 h0 h1)(hok:sO P w H1 h1)(Tg:∀ b∈fs,H1 b=none)(fr:∀ b∈fs,∀ ob,h1.get? b=some ob->∀ vs,ob.data≠.fields vs)(E8:Bp B fs h0 H1 h1)
 (hB:B.StaysIn h2) (up:h1.UpToSlots h2):Un fs [] H0 H1 h0 h2/\sO P w H1 h2/\Bp B fs h0 H1 h2:=by
 have Th:∀ b ob,h1.get? b=some ob->(H1 b≠none\/∃ o',h0.get? b=some o')->b∉fs->h2.get? b=some ob:=fun b ob e c n=>hB b ob (E8 b ob e c n)
 have Nl:∀ b u,H1 b=some u->b∉fs:=fun b u e z=>by
  rw[Tg b z]at e;cases e
 refine⟨⟨fun b ob e n hb hx=>Th b ob (un.keep b ob e n hb hx) (.inr ⟨ob,e⟩) hb,fun b ob e n hb hx=>?_,un.free,fun b ob e hx=>?_,un.tups,un.sP,un.u4⟩,fun b u e=>?_,fun b ob e c n=>?_⟩
 ·obtain⟨sl,q⟩:=un.slot b ob e n hb hx;obtain⟨QK,q'⟩:=up b _ q (fr b hb _ q);exact⟨QK,q'⟩
 ·obtain⟨o',q⟩:=un.there b ob e hx
  by_cases hb:b∈fs
  ·obtain⟨QK,q'⟩:=up b _ q (fr b hb _ q);exact⟨_,q'⟩
  ·exact⟨o',Th b o' q (.inr ⟨ob,e⟩) hb⟩
 ·refine(hok b u e).stay (fun c v hc q=>?_) (fun _ q=>q) fun _ _ q=>q
  have hct:∃ z,H1 c=some z:=by
   rcases hc with hc|hc
   ·rw[hc];exact⟨u,e⟩
   ·exact⟨_,hc⟩
  obtain⟨z,hz⟩:=hct;exact Th c v q (.inl (by rw[hz];simp)) (Nl c z hz)
 ·have ht:∃ o1,h1.get? b=some o1:=by
   rcases c with c|⟨o',c⟩
   ·cases hz:H1 b with
    | none=>exact absurd hz c
    | some z=>exact(hok b z hz).thing
   ·exact un.there b o' c (by simp)
  obtain⟨o1,q⟩:=ht;have q2:=E8 b o1 q c n;have q3:=hB b o1 q2;rw[e]at q3;rw[Option.some.inj q3];exact q2
end
def vM(ea:Addr)(cls:Value):HO:=.ext fun h=>∃ oe vs,h.get? ea=some oe/\oe.cls=cls/\oe.data = .fields vs/\vs[2]?=some .none
theorem JV{P:Program}{w:World}{H:Hp}{h:Heap}{ea:Addr}{cls:Value}(q:∃ oe vs,h.get? ea=some oe/\oe.cls=cls/\oe.data = .fields vs/\vs[2]?=some .none):cY P w H h ea (vM ea cls) :=
 ⟨q,let⟨oe,_,e,_⟩:=q;⟨oe,e⟩,fun h1 h2 ⟨oe,vs,e,c,d,z⟩ k=>⟨oe,vs,k oe e,c,d,z⟩⟩
def Mi(E:XK)(cls:Value)(od:Option Addr)(c:Value)(H:Hp):Prop:=(c = .none/\(∃ C0:Addr,cls = .ref C0)/\E cls od H)\/∃ C e' C',cls = .ref C/\od=none/\c = .ref e'/\H e' = some (vM e' C')/\E (.int (C:Int) e') none H
def nC(P:Program)(w:World):GN:=fun outer H s E e s'=>∃(ea:Addr) (cls a0:Value) (od:Option Addr) (c:Value) (H' : Hp) (B:Heap),e = .ref ea/\s'.os=s.os/\AllBare s'.gens/\Un (frs outer) [] H H' s.heap s'.heap/\sO P w H' s'.heap/\H' ea=none/\
 Bp B (frs outer) s.heap H' s'.heap/\Heap.FlyingW B outer ea cls a0 s'.heap/\yc od c ea s'.heap/\Mi E cls od c H'
structure Out(X:Cx)(E:XK):Prop where
 Jl:X.stack=X.env::X.outer
 fr:X.env.frame=some X.env.locals
 ex:X.ex=[]
 xe:∀ e s',wpAny (model X.prog X.w) X.A (leaving X.env e) (fun _ s''=>nC X.prog X.w X.outer X.H₀ X.s₀ E e s'') (fun e' s''=>nC X.prog X.w X.outer X.H₀ X.s₀ E e' s'') s'->X.xe e s'
def Thr(X:Cx)(E:XK):Prop:=∀(pq:bF) (σ:St) (H:Hp) (s:Shared) (h1:Heap) (ea C0:Addr) (vs:List Value),Inv X pq σ H s->Heap.MadeExcOf s.heap h1 ea (.ref C0) vs->E (.ref C0) none H->X.xe (.ref ea) { s with heap:=h1}
section
variable {X:Cx}{E:XK}{pq:bF}{σ:St}{H:Hp}{s:Shared}
theorem Inv.Mj(I:Inv X pq σ H s):∀ b∈X.fs,∀ ob,s.heap.get? b=some ob->∀ vs,ob.data≠.fields vs:=fun b hb ob e=>by
 obtain⟨_,o,ho,hnf⟩:=I.funs.mem hb;rw[e]at ho;cases ho;exact hnf
theorem Inv.Mk(I:Inv X pq σ H s)(hx:X.ex=[]):∀ b∈X.fs,H b=none:=fun b hb=>by
 obtain⟨_,o,ho,_⟩:=I.ok.funs.mem hb;exact I.base.free b o ho (I.ok.Jz b hb) (by rw[hx];simp)
theorem Bp.outer{B h0:Heap}{h:Heap}(I:Inv X pq σ H s)(E8:Bp B (frs X.stack) h0 H h)(k:∀ b o,X.s₀.heap.get? b=some o->∃ o',h0.get? b=some o'):Bp B X.fs X.s₀.heap H h:=fun b o e c n=>by
 refine E8 b o e (c.imp id fun⟨o',q⟩=>k b o' q) fun z=>?_
 rcases List.mem_cons.mp (I.vy b z) with q|q
 ·subst q;rcases c with c|⟨o',c⟩
  ·exact c I.free
  ·exact absurd (Nat.lt_of_lt_of_le (Heap.lt_size c) I.ok.above) (Nat.lt_irrefl _)
 ·exact n q
theorem En(O:Out X E)(I:Inv X pq σ H s){B:Heap}{ea:Addr}{cls a0:Value}{od:Option Addr}{c:Value}{h2:Heap}(E8:Bp B X.fs X.s₀.heap H s.heap)(fl:Heap.FlyingW B X.outer ea cls a0 h2)(sc:yc od c ea h2)(up:s.heap.UpToSlots h2)(hn:H ea=none)(q:Mi E cls od c H):
 nC X.prog X.w X.outer X.H₀ X.s₀ E (.ref ea) { s with heap:=h2}:=by
 have un:Un X.fs [] X.H₀ H X.s₀.heap s.heap:=by
  have u:=I.base;rw[O.ex]at u;exact u
 obtain⟨u2,Ti,c2⟩:=Bq un I.hok (I.Mk O.ex) I.Mj E8 fl.1 up;exact⟨ea,cls,a0,od,c,H,B,rfl,I.os,I.bare,u2,Ti,hn,c2,fl,sc,q⟩
theorem Out.Tj(O:Out X E){ea:Addr}{oe:Obj}{vs:Array Value}{a0 c:Value}(I:Inv X pq σ H s)(ge:s.heap.get? ea=some oe)(de:oe.data = .fields vs)(h0:vs[0]?=some a0)(h1:vs[1]?=some .none)(h2:vs[2]?=some c)
 (hn:H ea=none) (new:X.s₀.heap.get? ea=none) (q:Mi E oe.cls oe.dict c H):X.xe (.ref ea) s:=by
 refine O.xe _ _ ?_;have hfr:X.A.frames=some (X.env::X.outer):=by rw[I.ok.frames,O.Jl]
 have hl:s.heap.FunFrames (PySem.W.hideAll s.heap (ea::frs X.stack)) (X.env::X.outer):=by
  have z:=PySem.W.funFrames_hide (as:=ea::frs X.stack) I.stack fun env he b hb=>CB _ (List.mem_filterMap.mpr ⟨env,he,hb⟩)
  rw[O.Jl]at z ⊢;exact z
 refine leave_new hfr O.fr (fun b o e=>PySem.W.of_hideAll _ e) (PySem.W.hideAll_none _ (List.mem_cons_self ..)) hl ge de h0 h1 h2 rfl fun h3 fl sc up=>?_
 refine En O I (Bp.outer I (h0:=X.s₀.heap) (fun b o e c n=>?_) fun b o e=>⟨o,e⟩) fl sc up hn q
 refine PySem.W.hideAll_get _ e fun z=>?_
 rcases List.mem_cons.mp z with z|z
 ·subst z;rcases c with c|⟨o',c⟩
  ·exact c hn
  ·rw[new]at c;cases c
 ·exact n z
theorem Out.To(O:Out X E){ea:Addr}{oe:Obj}{vs:Array Value}{a0:Value}(I:Inv X pq σ H s)(ge:s.heap.get? ea=some oe)(de:oe.data = .fields vs)(h0:vs[0]?=some a0)(h1:vs[1]?=some .none)(h2:vs[2]?=some .none)
 (hn:H ea=none) (new:X.s₀.heap.get? ea=none) (hcl:∃ C0:Addr,oe.cls = .ref C0) (q:E oe.cls oe.dict H):X.xe (.ref ea) s:=O.Tj I ge de h0 h1 h2 hn new (.inl ⟨rfl,hcl,q⟩)
theorem Out.thr(O:Out X E):Thr X E:=by
 intro pq σ H s h1 ea C0 vs I mk q;have I1:Inv X pq σ H { s with heap:=h1}:=I.kept (t':=s.toks) mk.keeps
 have hn:H ea=none:=by
  cases hz:H ea with
  | none=>rfl
  | some z =>
    obtain⟨ob,e⟩:=(I.hok ea z hz).thing;rw[mk.new]at e;cases e
 obtain⟨t,ge,_,_⟩:=mk.there;refine O.To I1 (a0:=.ref t) ge rfl rfl rfl rfl hn ?_ ⟨_,rfl⟩ q;cases hz:X.s₀.heap.get? ea with
 | none=>rfl
 | some o =>
   obtain⟨o',e⟩:=I.base.there ea o hz (by rw[O.ex];simp)
   rw[mk.new]at e;cases e
theorem Inv.Hj{H' : Hp}{s' : Shared}(I:Inv X pq σ H s)(os:s'.os=s.os)(bare:AllBare s'.gens)(un:Un (frs X.stack) [] H H' s.heap s'.heap)(hok:sO X.prog X.w H' s'.heap):Inv X pq σ H' s' :=
 I.K1 (ch:=[]) os un hok bare fun b z=>absurd z (by simp)
theorem Out.passes(O:Out X E):Passes (nC X.prog X.w) X E:=by
 intro pq σ H s e s' I q;obtain⟨ea,cls,a0,od,c,H',B,rfl,os,bare,un,hok,hn,E8,fl,sc,qE⟩:=q;have I1:=I.Hj os bare un hok;refine O.xe _ _ ?_;have hfr:X.A.frames=some (X.env::X.outer):=by rw[I.ok.frames,O.Jl]
 rw[O.Jl]at fl;refine leave_on2 hfr O.fr fl sc fun h2 Tp Af up=>?_
 exact En O I1 (Bp.outer I1 E8 fun b o e=>I.base.there b o e (by rw[O.ex];simp)) Tp Af up hn qE
end
theorem kR{P:Program}{w:World}{K:bI}{mg:iI}{base:Heap}{N:List Str}{qual:Str}{scope:Scope}{f:Addr}{cd:Value}{A:Around}{outer:List Env}{s:Shared}{H:Hp}{E:XK}:
 Out (qM (nC P w) P w K mg base N qual scope f cd A outer s H E) E:=⟨rfl,rfl,rfl,fun _ _ h=>h⟩
theorem gG.JW{P:Program}{w:World}{K:bI}{mg:iI}{base:Heap}{x qual:Str}{st:Stmt}{f:Addr}{fd:FuncData}{N ps:List Str}{k:Nat}{sp:Sp}(F:gG K x qual st f fd)(S:aI N ps (ah st))
 (len:∀ vs H Q E,sp vs H Q E->vs.length=ps.length)
 (hbody:∀(cdv:Value) (A:Around) (outer:List Env) (s:Shared) (H:Hp) (vs:List V) (Q:VK) (E:XK),lz k (A.deeper (envOfC qual (ah st) s.heap.objs.size f cdv))->sp vs H Q E->
  ∃ t,x6 (qM (nC P w) P w K mg base N qual (ah st) f cdv A outer s H E) (aH st) t/\t { nx:=fun _ H'=>Q .eS H',rt:=Q} (start N vs) H):aP P w K mg base (nC P w) (k+1) f fd ps sp:=by
 obtain⟨oc,od,kV,doc,pm,an,cdv,ct,osl,rfl,lk,hcd⟩:=F.ex;exact K7 lk hcd S len fun A outer s H vs Q E hr zX=>hbody cdv A outer s H vs Q E hr zX
section
variable {X:Cx}{E:XK}
def Ml(C:Addr)(E:XK)(t:TA):TS:=fun _ σ H=>t σ H fun vs H1=>vs.length<=sizeLine/\E (.ref C) none H1
theorem Hl{x:Str}{C:Addr}{bm:List Value}{B newId initId:String}{e:Expr}{es:List Expr}{ta:TA}{np cpos pos:Pos}(th:Thr X E)(hc:X.calm=true)(hg:Gl X x)(O:∀ h,X.K.In h->h.Ns mainGlobals X.mg->OwnCls x C bm newId X.mg h)
 (FB:ExcBaseFacts B newId initId bm) (ha:PA X (e::es) ta) (he:starEach (e::es) X.env=(false,eval e X.env)::starEach es X.env:=by rfl) (hpl:(backTo cpos (starEach es X.env)).any (·.1)=false:=by rfl)
 (hd:(x==("__debug__":Str))=false:=by decide):PS X (.Raise (some (.Call (.Name x np) (e::es) [] cpos)) none pos) (Ml C E ta):=by
 intro pq s σ H D I h;have OC:=O _ I.mod.Nm I.mod.glob;obtain⟨tl,N,nm,q,bs,hdct,sn,sub,ab,col,dd,k0,k1,k2,k3,k5,mN,hC,hN,hni,T⟩:=OC.obj;refine wpAny_Raise_call_subT (C:=C) (nm:=nm) (q:=q) (N:=N) (bs:=bs) (bm:=tl) (hdct:=hdct) (sn:=sn) (sub:=sub) (ab:=ab) (col:=col) (dd:=dd) (k0:=k0) (k1:=k1) (k2:=k2) (k3:=k3) (k5:=k5)
  FB (mN:=mN) (T.hasType FB.hasBase) (I.ok.hd hc) (by rw[he];show(false || (backTo cpos (starEach es X.env)).any (·.1))=false;rw[hpl];rfl) hni (qK I hg OC.bound ⟨rfl,?_⟩ hd)
 have hA:=ha cpos pq s σ H _ I h;rw[he]at hA ⊢;refine Calls.evalArgs_plain (wpAny_mono hA (fun us s1 ⟨vs,H1,I1,r1,z,q1⟩=>?_) fun _ _ y=>y)
 exact⟨rfl,by rw[<-r1.length];exact z,I1.bk _ _ hC,hN.keeps I1.bk,T.keeps I1.bk,fun h' ea hm=>th pq σ H1 s1 h' ea _ us I1 hm q1⟩
end
theorem Mm(K:bI)(i:Int)(n:Nat)(v:Value):PySem.W.exmOne K (.int i n) v≠some true:=by
 unfold PySem.W.exmOne
 split
 ·unfold PySem.W.kitCls
  split
  ·split<;>simp[PySem.W.subIn]
  ·split<;>simp[PySem.W.subIn]
  ·simp
 ·simp
section
variable {X:Cx}{pq:bF}{σ:St}{H:Hp}{s:Shared}
theorem Inv.Oo{ea:Addr}{o:HO}(I:Inv X pq σ H s)(hn:H ea=none)(h0:X.s₀.heap.get? ea=none)(hL:ea≠X.env.locals)(hC:∀ x c,X.env.cells.lookup x=some c->c≠ea)(hp:∀ p∈X.pn++pq,p.1≠ea)
 (ok:cY X.prog X.w (upd H ea o) s.heap ea o):Inv X pq σ (upd H ea o) s:=by
 have ne:∀ b u,H b=some u->b≠ea:=fun b u e z=>by rw[z,hn]at e;cases e
 refine⟨I.ok,I.os,I.bare,⟨I.base.keep,I.base.slot,fun b ob e n hx=>?_,I.base.there,fun b xs e=>?_,fun b ob u e=>?_,fun b ps e=>?_⟩,I.loc,I.cell,?_,fun x c e=>?_,fun p hpp=>?_,fun b u e=>?_,I.len⟩
 ·rw[aQ (fun z=>by rw[z,h0]at e;cases e)]
  exact I.base.free b ob e n hx
 ·have q:=I.base.tups b xs e;rw[aQ (ne b _ q)];exact q
 ·have q:=I.base.sP b ob u e;rw[aQ (ne b _ q)];exact q
 ·obtain⟨more,q⟩:=I.base.u4 b ps e;exact⟨more,by rw[aQ (ne b _ q)];exact q⟩
 ·rw[aQ (Ne.symm hL)];exact I.free
 ·rw[aQ (hC x c e)];exact I.ku x c e
 ·obtain⟨a1,a2,a3⟩:=I.pin p hpp;exact⟨a1,by rw[aQ (hp p hpp)];exact a2,a3⟩
 ·by_cases hb:b=ea
  ·subst hb;rw[aj]at e;cases e;exact ok
  ·rw[aQ hb]at e;exact(I.hok b u e).stay (fun _ _ _ q=>q) (fun c q=>by rw[aQ (ne c _ q)];exact q) fun c xs q=>by rw[aQ (ne c _ q)];exact q
theorem Inv.Br{A' : Around}{Mn vd:bF}{cm:Bool}{Lb:gj}(I:Inv X pq σ H s)(hA:A'.frames=X.A.frames)(JX:cm=true->A'.handled=none)(hp:∀ p∈Mn++vd,p∈X.pn++pq):
 Inv { X with A:=A',calm:=cm,pn:=Mn,xe:=Lb} vd σ H s :=
 ⟨⟨I.ok.mod,I.ok.kind,I.ok.glob,I.ok.blt,I.ok.above,I.ok.inj,I.ok.has,I.ok.Nn,JX,hA.trans I.ok.frames,I.ok.Jl,I.ok.So,I.ok.bs,I.ok.Jy,I.ok.EO,I.ok.GF,I.ok.funs,I.ok.Jz⟩,
   I.os,I.bare,I.base,I.loc,I.cell,I.free,I.ku,fun p z=>I.pin p (hp p z),I.hok,I.len⟩
theorem E9{M:Model}{A:Around}{E:gj}{i:Nat}{x:Str}{pos:Pos}{Q:Unit->Shared->Prop}(I:Inv X pq σ H s)(hN:X.N.Nodup)(hi:X.N[i]?=some x)(hx:X.env.scope.names.lookup x=some .local)
 (h:∀ s',Inv X pq (σ.set i none) H s'->Q () s'):wpAny M A (do bindName X.env x .none;unbindBehindTheSuite X.env x pos) Q E s:=by
 obtain⟨m,hn,hl⟩:=id I.loc;have hcls:(X.env.scope.kind == .class || (X.env.scope.kind == .module&&X.env.locals != X.env.globals))=false:=by rw[I.ok.kind];rfl
 refine wpAny_nameGoes_keeps hx hn hcls fun h' v hn' hs=>?_
 have below:∀ b ob,X.s₀.heap.get? b=some ob->b≠X.env.locals:=fun b ob e=>Nat.ne_of_lt (Nat.lt_of_lt_of_le (Heap.lt_size e) I.ok.above)
 refine h _ ⟨I.ok,I.os,I.bare,⟨fun b ob e n hb hx=>(hs.2 b (below b ob e)).trans (I.base.keep b ob e n hb hx),fun b ob e n hb hx=>?_,I.base.free,fun b ob e hx=>?_,I.base.tups,I.base.sP,I.base.u4⟩,
  ⟨_,hn',fun j y v' e1 e2 e3=>?_⟩,fun y c e=>?_,I.free,I.ku,fun p hp=>?_,fun b ob e=>?_,by rw[List.length_set];exact I.len⟩
 ·obtain⟨sl,e1⟩:=I.base.slot b ob e n hb hx;exact⟨sl,(hs.2 b (below b ob e)).trans e1⟩
 ·obtain⟨o',e1⟩:=I.base.there b ob e hx;exact⟨o',(hs.2 b (below b ob e)).trans e1⟩
 ·by_cases hj:j=i
  ·subst hj;have hlt:j<σ.length:=by rw[I.len];exact(xZ.mp hi).1
   rw[List.getElem?_set_self hlt]at e2;cases e2
  ·rw[List.getElem?_set_ne (Ne.symm hj)]at e2;obtain⟨u',r',q⟩:=hl j y v' e1 e2 e3;refine⟨u',r',?_⟩;rcases q with⟨k,e⟩|⟨k,c,e,z⟩
   ·have hyx:y≠x:=fun e'=>hj (vz hN e1 (e'▸hi))
    exact .inl ⟨k,by simp[hyx,e]⟩
   ·exact .inr ⟨k,c,e,z.sameBut hs (I.JA y c e)⟩
 ·obtain⟨w',z⟩:=I.cell y c e;exact⟨w',z.sameBut hs (I.JA y c e)⟩
 ·obtain⟨e,n,ne,nf,d⟩:=I.pin p hp;exact⟨(hs.2 p.1 ne).trans e,n,ne,nf,d⟩
 ·refine(I.hok b ob e).stay (fun c v hc q=>(hs.2 c ?_).trans q) (fun _ q=>q) fun _ _ q=>q
  intro z;subst z;have hf:H X.env.locals=none:=I.free;rcases hc with hc|hc
  ·rw[<-hc,hf]at e;cases e
  ·rw[hf]at hc;cases hc
end
def Lc(o:Addr->Value->Option Addr->HO)(K:bI)(C i k:Nat)(tb:XK->TS)(th:Addr->TS):TS:=fun D σ H=>∃ E:XK,tb E D σ H/\∀ cls od H',E cls od H'->PySem.W.exmOne K cls (.ref C)=some true/\
 ∀ ea,H' ea=none->th ea { nx:=fun σ2 H2=>D.nx (σ2.set i none) H2,rt:=fun _ _=>False} ((List.replicate k none).set i (some (.ref ea))) (upd H' ea (o ea cls od))
abbrev Tq:=Lc fun ea cls _=>vM ea cls
section
variable {X:Cx}
theorem JY(oo:Addr->Value->Option Addr->HO)(hoo:∀{H:Hp} {h:Heap} {ea:Addr} {cls:Value} {od:Option Addr},(∃ oe vs,h.get? ea=some oe/\oe.cls=cls/\oe.data = .fields vs/\vs[2]?=some .none/\oe.dict=od)->cY X.prog X.w H h ea (oo ea cls od))
 {x n:Str} {i:Nat} {C:Addr} {body rest:List Stmt} {b0:Stmt} {np hpos pos:Pos} {tb:XK->TS} {th:Addr->TS} (K:bI) (hst:X.stack=X.env::X.outer) (hf:X.env.frame=some X.env.locals) (Mp:X.ex=[]) (hN:X.N.Nodup) (hi:X.N[i]?=some n)
 (hx:X.env.scope.names.lookup n=some .local) (hg:Gl X x) (hm:X.mg x=some (.ref C))
 (hb:∀ E pn xe,Passes (nC X.prog X.w) { X with pn:=pn,xe:=xe} E->x6 { X with pn:=pn,xe:=xe} body (tb E))
 (hh:∀ ea pn,x6 { X with A:=X.A.mark (some (.ref ea)),calm:=false,pn:=pn,xe:=fun _ _=>False} (b0::rest) (th ea)) (hK:X.K=K:=by rfl) (hdb:(x==("__debug__":Str))=false:=by decide) :
 PS X (.Try body [.ExceptHandler (some (.Name x np)) (some n) (b0::rest) hpos] [] [] pos) (Lc oo K C i X.N.length tb th):=by
 subst hK;intro pq s σ H D I h;obtain⟨E,htb,hE⟩:=h;refine wpAny_Try_except ?_;have hfr:X.A.frames=some (X.env::X.outer):=by rw[I.ok.frames,hst]
 have I' : Inv { X with pn:=X.pn++pq,xe:=fun e s1=>∃ vd σ' H0 s0,Inv { X with pn:=X.pn++pq} vd σ' H0 s0/\nC X.prog X.w X.stack H0 s0 E e s1} [] σ H s :=
  I.Br (A':=X.A) (cm:=X.calm) rfl I.ok.hd fun p hp=>by simpa using hp
 have hpass:Passes (nC X.prog X.w) { X with pn:=X.pn++pq,xe:=fun e s1=>∃ vd σ' H0 s0,Inv { X with pn:=X.pn++pq} vd σ' H0 s0/\nC X.prog X.w X.stack H0 s0 E e s1} E:=by
  intro vd σ' H0 s0 e s1 J q;exact⟨vd,σ',H0,s0,J.Br (A':=X.A) (cm:=X.calm) (Mn:=X.pn++pq) rfl J.ok.hd fun p hp=>hp,q⟩
 have toX:∀{vd σ' H' s'},Inv { X with pn:=X.pn++pq} vd σ' H' s'->Inv X pq σ' H' s':=fun {vd σ' H' s'} J=>by
  have z:=J.Br (A':=X.A) (cm:=X.calm) (Mn:=X.pn) (vd:=pq) (Lb:=X.xe) rfl J.ok.hd fun p hp=>Ni _ hp
  exact z
 have JZ:∀{vd σ' H' s'} {Lb:gj},Inv { X with pn:=X.pn++pq,xe:=Lb} vd σ' H' s'->Inv X pq σ' H' s':=fun {vd σ' H' s' Lb} J=>by
  have z:=J.Br (A':=X.A) (cm:=X.calm) (Mn:=X.pn) (vd:=pq) (Lb:=X.xe) rfl J.ok.hd fun p hp=>Ni _ hp
  exact z
 refine wpAny_mono (hb E _ _ hpass [] s σ H D I' htb) (fun f s1 q=>?_) fun e s1 q=>?_
 ·cases f with
  | next =>
    obtain⟨σ',H',J,q⟩:=q;exact wpAny_execs_nil ⟨σ',H',JZ J,q⟩
  | brk =>
    obtain⟨σ',H',J,q⟩:=q;exact⟨σ',H',JZ J,q⟩
  | cont =>
    obtain⟨σ',H',J,q⟩:=q;exact⟨σ',H',JZ J,q⟩
  | ret u =>
    obtain⟨v,σ',H',J,r,q⟩:=q;exact⟨v,σ',H',JZ J,r,q⟩
 ·obtain⟨vd,σ',H0,s0,I0,ea,cls,a0,od,c,H1,B,rfl,os,bare,un,hok,hn,E8,fl,sc,qE⟩:=q;rcases qE with⟨rfl,_,qE⟩|⟨C9,e9,C8,rfl,rfl,rfl,_,qE⟩
  case inr=>exact absurd (hE _ _ _ qE).1 (Mm _ _ _ _)
  obtain⟨hex,hth⟩:=hE cls od H1 qE;have J1:Inv { X with pn:=X.pn++pq} vd σ' H1 s1:=I0.Hj os bare un hok
  have Tg:∀ b∈frs X.stack,H1 b=none:=J1.zU;have frd:∀{h' : Heap},s1.heap.UpToSlots h'->∀ b∈frs X.stack,∀ ob,h'.get? b=some ob->∀ vs,ob.data≠.fields vs:=fun {h'} up b hb ob e vs z=>by
   obtain⟨_,o,ho,hnf⟩:=J1.stack.mem hb;obtain⟨sl,q⟩:=up b o ho hnf;rw[e]at q;cases q;exact hnf vs z
  have at_:∀{h' : Heap},B.StaysIn h'->s1.heap.UpToSlots h'->Inv X pq σ' H1 { s1 with heap:=h'}:=fun {h'} hB up=>by
   obtain⟨u2,Ti,_⟩:=Bq un hok Tg (frd (Heap.UpToSlots.refl _)) E8 hB up;exact toX (I0.Hj (s':={ s1 with heap:=h'}) os bare u2 Ti)
  have eNo:ea∉frs X.stack:=fun z=>by
   obtain⟨oe,vs,e,_,d,_⟩:=fl.first;exact frd (Heap.UpToSlots.refl _) ea z oe e vs d
  have Oq:s0.heap.get? ea=none:=by
   cases hz:s0.heap.get? ea with
   | none=>rfl
   | some o =>
     obtain⟨oe,vs,e,_⟩:=fl.first;have q:=E8 ea oe e (.inr ⟨o,hz⟩) eNo;rw[fl.2.1]at q;cases q
  have fl' : Heap.FlyingW B (X.env::X.outer) ea cls a0 s1.heap:=by
   rw[hst]at fl;exact fl
  refine La hfr hf fl' sc fun h4 Ot Mq up4=>?_
  obtain⟨g1,g2,g3,g4⟩:=Ot;refine Em (s:={ s1 with heap:=h4}) g1 g2 g3 g4 Mq fun h5 Tr QV up5=>?_
  have Ou:=up4.trans up5;have J5:=at_ Tr.1 Ou;have hfm:(X.A.mark (some (.ref ea))).frames=X.A.frames:=rfl;have J5' : Inv { X with A:=X.A.mark (some (.ref ea)),calm:=false,pn:=X.pn,xe:=fun _ _=>False} pq σ' H1 { s1 with heap:=h5}:=J5.Br hfm (fun z=>nomatch z) fun p hp=>hp
  refine wpAny_handleBy_cons (codeAny_handlers_test (qK J5' hg hm ?_ hdb)) (by intro q;cases q)
  obtain⟨ob,hob,Tt⟩:=Tr.there;have LT:PySem.W.Looks (model X.prog X.w) h5 (typeOf (.ref ea)) cls:=Tt▸(PySem.W.Looks.ld hob).andThen .now;refine PySem.W.Looks.here (s:={ s1 with heap:=h5}) (PySem.W.exm_one (K:=X.K) J5.x8 LT hex) ?_
  refine codeAny_handlers_suite_as ?_;obtain⟨k1,k2,k3,k4⟩:=Tr;refine Em (s:={ s1 with heap:=h5}) k1 k2 k3 k4.at QV fun h6 fl6 QW up6=>?_
  have Tu:=Ou.trans up6;have J6:=at_ fl6.1 Tu;obtain⟨oe,vs,e6,c6,d6,_⟩:=fl6.first;have z6:vs[2]?=some .none/\oe.dict=od:=by
   obtain⟨o2,v2,g2,d2,z2,y2⟩:=QW;rw[e6]at g2;cases g2;rw[d6]at d2;cases d2;exact⟨z2,y2⟩
  have ne0:ea≠X.env.locals:=fun z=>by
   obtain⟨m,⟨o,_,_,ho,hd,_⟩,_⟩:=J6.loc;rw[<-z]at ho;rw[e6]at ho;cases ho;rw[d6]at hd;cases hd
  have J7:Inv X pq σ' (upd H1 ea (oo ea cls od)) { s1 with heap:=h6}:=by
   refine J6.Oo hn ?_ ne0 (fun y c e z=>?_) (fun p hp z=>?_) (hoo ⟨oe,vs,e6,c6,d6,z6.1,z6.2⟩)
   ·cases hz:X.s₀.heap.get? ea with
    | none=>rfl
    | some o =>
      obtain⟨o',q⟩:=I0.base.there ea o hz (show ea∉X.ex by rw[Mp];simp)
      rw[Oq]at q;cases q
   ·obtain⟨v,o,ho,hd⟩:=J6.cell y c e;rw[z,e6]at ho;cases ho;rw[d6]at hd;cases hd
   ·have q:=(I0.pin p (Ni _ hp)).1;rw[z,Oq]at q;cases q
  have J8:Inv { X with A:=X.A.mark (some (.ref ea)),calm:=false,pn:=X.pn,xe:=fun _ _=>False} pq (List.replicate X.N.length none) (upd H1 ea (oo ea cls od)) { s1 with heap:=h6}:=by
   have z:Inv X pq (List.replicate X.N.length none) (upd H1 ea (oo ea cls od)) { s1 with heap:=h6}:=J7.weak (by rw[List.length_replicate,J7.len]) fun j v e=>by
    rw[List.getElem?_replicate]at e
    split at e<;>cases e
   exact z.Br hfm (fun z=>nomatch z) fun p hp=>hp
  refine nD (X:={ X with A:=X.A.mark (some (.ref ea)),calm:=false,pn:=X.pn,xe:=fun _ _=>False}) (v:=.ref ea) J8 hN hi (.inl hx) rfl (fun s9 J9=>?_) (.inr hx)
  refine wpAny_mono (hh _ _ pq s9 _ _ _ J9 (hth ea hn)) (fun f Ag q=>?_) fun _ _ z=>z.elim
  cases f with
  | next =>
    obtain⟨σ2,H2,J10,q⟩:=q;have J11:Inv X pq σ2 H2 Ag:=by
     have z:=J10.Br (A':=X.A) (cm:=X.calm) (Mn:=X.pn) (vd:=pq) (Lb:=X.xe) hfm.symm I.ok.hd fun p hp=>hp
     exact z
    exact E9 J11 hN hi hx fun s12 J12=>⟨_,H2,J12,q⟩
  | brk=>obtain⟨_,_,_,q⟩:=q;exact q.elim
  | cont=>obtain⟨_,_,_,q⟩:=q;exact q.elim
  | ret u=>obtain⟨_,_,_,_,_,q⟩:=q;exact q.elim
theorem Mr{x n:Str}{i:Nat}{C:Addr}{body rest:List Stmt}{b0:Stmt}{np hpos pos:Pos}{tb:XK->TS}{th:Addr->TS}(K:bI)(hst:X.stack=X.env::X.outer)(hf:X.env.frame=some X.env.locals)(Mp:X.ex=[])(hN:X.N.Nodup)(hi:X.N[i]?=some n)
 (hx:X.env.scope.names.lookup n=some .local) (hg:Gl X x) (hm:X.mg x=some (.ref C))
 (hb:∀ E pn xe,Passes (nC X.prog X.w) { X with pn:=pn,xe:=xe} E->x6 { X with pn:=pn,xe:=xe} body (tb E))
 (hh:∀ ea pn,x6 { X with A:=X.A.mark (some (.ref ea)),calm:=false,pn:=pn,xe:=fun _ _=>False} (b0::rest) (th ea)) (hK:X.K=K:=by rfl) (hdb:(x==("__debug__":Str))=false:=by decide) :
 PS X (.Try body [.ExceptHandler (some (.Name x np)) (some n) (b0::rest) hpos] [] [] pos) (Tq K C i X.N.length tb th):=JY (fun ea cls _=>vM ea cls) (fun⟨oe,vs,e,c,d,z,_⟩=>JV ⟨oe,vs,e,c,d,z⟩) K hst hf Mp hN hi hx hg hm hb hh hK hdb
end
open PySem PySem.Spec PySem.Calls PyProof.Rows PySem.W PySem.Builtin PySem.Builtin.ObjectAttr PySem.Builtin.Getset_descriptor
structure vN(K:Frag)(D:Addr):Prop where
 ga:findIn K (.ref D) "__getattribute__"=some (some (.builtin "BaseException.__getattribute__"))
 gh:findIn K (.ref D) "__getattr__"=some none
 cl:findIn K (.ref D) "__class__"=some (some (.builtin "object.__class__"))
 gt:specialIn K (.builtin "object.__class__") "__get__"=some (some (.builtin "getset_descriptor.__get__"))
 tk:takesIn K (.builtin "object.__class__")=some true
 mr:mroIn K D (.type "object")=some true
 mb:mroIn K D (.type "BaseException")=some true
 is_:(clsIn K D).isSome=true
def ExcAt(x:Addr)(D:Value)(h:Heap):Prop:=∃ ox,h.get? x=some ox/\ox.cls=D
section
variable {K:Frag}{x D:Addr}
theorem ExcAt.ty{M:Model}{h:Heap}{V:Value}(q:ExcAt x V h):Looks M h (typeOf (.ref x)) V:=by
 obtain⟨ox,e,c⟩:=q;exact c▸(Looks.ld e).andThen .now
theorem CS{M:Model}{h:Heap}{C:Addr}{name:Str}{at_ g:Value}(X:K.In h)(ha:findIn K (.ref C) name=some (some at_))(hg:specialIn K at_ "__get__"=some (some g))(hd:takesIn K at_=some true):
 Looks M h (find (.ref x) (.ref C) name) (.bind g at_):=by
 refine(looks_findIn X ha).andThen (Looks.andThen (show Looks M h (getOf (some at_)) (some g) from looks_specialIn X hg) ?_)
 have L3:=looks_takesIn (M:=M) X hd;have L4:Looks M h (dataDescriptor? (some at_) (some g)) (some (g,at_)):=L3.andThen .now;exact L4.andThen (Looks.tag .now)
section
variable {prog:Program}{w:World}{A:Around}{E:gj}{s:Shared}
theorem CT{M:Model}{nameV:Value}{Q:Unit->Shared->Prop}{hh:Heap}{gg:Array GenState}{dd:Drawn}{tt:Nat}{oo:OsState}(S:Looks M hh (isInstance (.ref x) (.type "BaseException")) true)(hq:Q () ⟨hh,gg,dd,tt,oo⟩):
 wpAny M A (checkBuiltinCall "BaseException.__getattribute__" ⟨[.ref x,nameV],[]⟩) Q E ⟨hh,gg,dd,tt,oo⟩:=by
 have hk:builtinKind "BaseException.__getattribute__"=some .slot:=by decide +kernel
 have hsplit:splitId "BaseException.__getattribute__"=some ("BaseException","__getattribute__"):=by decide +kernel
 have ha:=F.args_bexc_ga (.ref x) nameV;simp only[checkBuiltinCall,hk,hsplit];refine dO (S.at ?_)
 repeat (first | wp_step)
 exact hq
theorem Fb{Q:Option Value->Shared->Prop}(C:vN K D)(X:K.In s.heap)(q:ExcAt x (.ref D) s.heap)(h:Q (some (.ref D)) { s with toks:=s.toks+1}):wpAny (model prog w) A (getAttr? (.ref x) "__class__") Q E s:=by
 obtain⟨hh,gg,dd,tt,oo⟩:=s;have L0:=q.ty (M:=model prog w);have L1:=looks_findIn (M:=model prog w) X C.ga;have L2:=CS (M:=model prog w) (x:=x) X C.cl C.gt C.tk;have L3:=looks_findIn (M:=model prog w) X C.gh;have L4:=looks_mroIn (M:=model prog w) X C.mr;have L5:=looks_mroIn (M:=model prog w) X C.mb;have S5:Looks (model prog w) hh (isInstance (.ref x) (.type "BaseException")) true:=L0.andThen L5;unfold getAttr? getAttrBy? getAttrBy;refine dO (wpAny_mkText (dO (wpAny_attempt (wpAny_holding (dO (L0.at (dO (L1.at ?_))))))));show wpAny _ _ (getAttrByItsOwn (.ref x) (.str "__class__" tt) (.ref D) (.builtin "BaseException.__getattribute__") false false) _ _ _;unfold getAttrByItsOwn;refine dO (Looks.at (show Looks (model prog w) hh (hookBefore (.ref D)) none from L3) ?_)
 refine dO (wpAny_attempt (wpAny_holding ?_));show wpAny _ _ (boundAndCalled _ _ _) _ _ _;unfold boundAndCalled;rw[F.attrBase_ValueError.ga.bind (.ref x)];refine dO (wpAny_pure ?_);show wpAny _ _ (call (.builtin "BaseException.__getattribute__") [.ref x,.str "__class__" tt]) _ _ _;refine wpAny_call (codeAny_call_builtin F.attrBase_ValueError.ga.plain F.entry_bexc_ga ?_);refine CT S5 ?_;refine dO (wpAny_pure (dO (wpAny_pure (dO (L0.at (dO (L2.at ?_)))))));show wpAny _ _ (holding [_] (call (.builtin "getset_descriptor.__get__") [.builtin "object.__class__",.ref x,.ref D]) >>= ret) _ _ _;refine dO (wpAny_holding (wpAny_call ?_));refine codeAny_call_builtin KF.slot_gs.plain KF.entry_gs (KF.slot_gs.check _ _ _ _ _ _ _ _ KF.type_class (KF.args_gs _ _ _) ?_)
 (unfold Builtin.«getset_descriptor.__get__» descrGet;rw[dga_obj])
 refine dO (wpAny_pure ?_)
 (unfold descrGetter descrCheckInstance descrNameAndClass isInstance;simp only[KF.owner_class])
 repeat lk
 refine⟨Code.quiet_builtin _ (by decide +kernel),codeAny_builtin KF.entry_class ?_⟩
 (unfold Builtin.«object.__class__» shownTypeOf)
 repeat lk
 exact h
end
theorem Ho(C:vN K D):KitX K (.ref x) (.ref D) (ExcAt x (.ref D)) where
 ty:=fun _ _ _ q=>q.ty
 it:=fun M h X _=>by
  have z:=C.is_;unfold clsIn at z
  split at z
  ·rename_i ho
   intro A1 Q1 E1 s1 k q
   (unfold isType;unfold loadHead)
   exact dO (wpAny_loadPart (k _ _ (X _ _ ho)) (wpAny_pure q))
  ·cases z
 ne:=fun h tp dd its n sl X htp=>by
  have z:=C.is_;refine Bool.eq_false_iff.mpr fun q=>?_
  cases Value.ref.inj (beq_iff_eq.mp q);unfold clsIn at z
  split at z
  ·rename_i ho
   cases(X _ _ ho).symm.trans htp
  ·cases z
 ca:=fun X q k=>Fb C X q k
end
def Ov(K:Frag):List V->Hp->VK->Prop:=fun xs H Q=>∃ x c D u b,xs=[.ref x,c]/\Mg c=some u/\H x=some (vM x (.ref D))/\vN K D/\kitOne K (.ref D) u=some b/\Q (.bl b) H
theorem sW{X:Cx}(K:Frag)(hK:X.K=K:=by rfl):fR X (.builtin "isinstance") (Ov K):=by
 subst hK;intro pq s σ H xs us Q I r h;obtain⟨x,c,D,u,b,rfl,rc,ty,C,e,q⟩:=h;cases r with
 | cons r1 r2 =>
   cases r2 with
   | cons r2 r3 =>
     cases r3;cases El rc r2;cases(show _=Value.ref x from r1)
     obtain⟨⟨oe,vs,e1,e2,_⟩,_⟩:=(show cY X.prog X.w H s.heap x (vM x (.ref D)) from I.hok x _ ty)
     exact kia_one (Ho C) I.x8 ⟨oe,e1,e2⟩ e (fun z=>nomatch z) fun tk=>⟨.bl b,H,I.tok tk,rfl,q⟩
section
variable {X:Cx}
def Ox(K:bI):V->V->Hp->VK->Prop:=fun o i H Q=>∃ p xs j v,o = .ref p/\i = .int ((j:Nat):Int)/\aZ K H p xs/\xs[j]?=some v/\Q v H
theorem getL(K:bI)(hK:X.K=K:=by rfl):NP X (Ox K):=by
 subst hK;intro pq s σ H o i ov iv Q I ro ri h;obtain⟨p,xs,j,v,rfl,rfl,hq,e,q⟩:=h;cases ro;obtain⟨t,rfl⟩:=ri;obtain⟨its,r,pl,hz⟩:=I.list hq;obtain⟨u,eu,ru⟩:=r.get e;have hj:j<xs.length:=(xZ.mp e).1;have hn:=vH;exact wpAny_getItem_list pl.isList (by lia) (by lia) (by simpa using eu) ⟨v,H,I,ru,q⟩
def Oz(K:bI):R2:=fun x y H Q=>∃ l b xs zs,x = .ref l/\y = .ref b/\aZ K H l xs/\aZ K H b zs/\xs.length+zs.length<=sizeLine/\∀ p,H p=none->Q (.ref p) (upd H p (.lst (xs++zs)))
theorem CU(K:bI)(hK:X.K=K:=by rfl):mZ X (binaryOp .Add) (Oz K):=by
 subst hK;intro pq s σ H x y v u Q I rx ry h;obtain⟨l,b,xs,zs,rfl,rfl,hH,hB,hz,q⟩:=h;cases rx;cases ry;obtain⟨its,r,pl,_⟩:=I.list hH;obtain⟨its2,r2,pl2,_⟩:=I.list hB;obtain⟨⟨cls,dd,data,sl⟩,n,e,hc,_,hd⟩:=pl;obtain⟨⟨NZ,dd2,data2,sl2⟩,n2,e2,hc2,_,hd2⟩:=pl2;simp only at hc hd hc2 hd2;subst hc hd hc2 hd2;have l1:=r.length;have l2:=r2.length;have ea:its.toArray++its2.toArray=(its++its2).toArray:=by simp
 refine concat_meets ⟨_,e,rfl⟩ ⟨_,e2,rfl⟩ noFill_list_add seq_list_add PySem.F.slot_list_add PySem.F.entry_list_add (PySem.F.args_list_add_2 _ _)
  (list_addW l b its.toArray its2.toArray n n2 dd dd2 sl sl2 (by rw[List.size_toArray,List.size_toArray];lia)) ⟨e,e2,?_⟩
 rw[ea];exact⟨.ref _,_,I.N7 (t':=s.toks) (r.append r2) (by rw[List.length_append];lia),rfl,q _ I.fresh⟩
end
section
variable {X:Cx}{tg:Expr}
theorem vg{iter:Expr}{body:List Stmt}{wi:TI}{g:TG}{tb:TS}{pos:Pos}(hc:X.calm=true)(hi:PI X tg iter wi)(hg:PG X.Gx tg g)(hb:x6 X.Gx body tb)(hs:∀ x,foldedSetIterable iter X.env x=pure x:=by intro _;rfl):
 PS X (.For tg iter body [] pos) (cL wi g tb):=by
 intro pq s σ H D I h;refine wpAny_For (fP (hi pq s σ H _ I h) fun v s1 h1=>fP h1 fun itv s2 h2=>?_) hs
 obtain⟨it,fp,tn,J,H2,e,I2,T,st2,f2,W,⟨m0,w0⟩,turn⟩:=h2;subst e;have CH:∀{H' : Hp},(∀ b∈fp,H' b=none)->∀ b∈fp,qf X.Gx pq H' b:=fun hn b hb=>⟨hn b hb,(f2 b hb).2⟩
 refine codeAny_forLoop_any (fun n s'=>∃ i σ' H',Inv X.Gx pq σ' H' s'/\tn i s'.heap/\(∀ b∈fp,H' b=none)/\W i n σ' H') ?_ m0 ⟨0,σ,H2,I2.vA _,st2,fun b hb=>(f2 b hb).1,w0⟩
 rintro n s3 ⟨i,σ3,H3,I3,st3,K5,w3⟩;rcases turn i n σ3 H3 w3 with⟨stop,qn⟩|⟨go,N,hN,step⟩
 ·refine wpAny_mono (T.done X.Gx rfl rfl rfl hc i pq s3 σ3 H3 (fun _ _=>False) I3 (CH K5) st3 stop) (fun r s4 ⟨hr,I4⟩=>?_) fun _ _ z=>z.elim
  subst hr;exact wpAny_execs_nil ⟨σ3,H3,I4.jQ,qn⟩
 ·refine wpAny_mono (T.item X.Gx rfl rfl rfl hc i pq s3 σ3 H3 (fun _ _=>False) I3 (CH K5) st3 go) (fun r s4 ⟨u,hr,h4⟩=>?_) fun _ _ z=>z.elim
  subst hr;refine wpAny_mono h4 (fun _ s5 ⟨x,H5,I5,r5,y5,GJ,NT⟩=>?_) fun _ _ z=>z.elim
  have NU:=I5.pinned (CH NT) (T.obj _ _ GJ);refine wpAny_mono (hg _ s5 σ3 H5 x u _ NU r5 (step x H5 y5)) (fun _ s6 ⟨σ6,H6,I6,q6⟩=>?_) fun _ _ z=>z.elim
  refine wpAny_mono (hb _ s6 σ6 H6 _ I6 q6) (fun f s7 q7=>?_) fun _ _ z=>z.elim
  have again:∀{σ7:St} {H7:Hp},Inv X.Gx (pq++sR fp s5.heap) σ7 H7 s7->N σ7 H7->∃ m,m<n/\∃ i σ' H',Inv X.Gx pq σ' H' s7/\tn i s7.heap/\(∀ b∈fp,H' b=none)/\W i m σ' H':=fun {σ7 H7} I7 n7=>by
   obtain⟨m',hm,w7⟩:=hN σ7 H7 n7;refine⟨m',hm,i+1,σ7,H7,I7.jR,T.keep _ _ _ GJ fun b hb o e=>(I7.pin (b,o) (Bd _ (Bd _ (ig hb e)))).1,fun b hb=>?_,w7⟩
   obtain⟨o,e,d⟩:=T.obj _ _ GJ b hb;exact(I7.pin (b,o) (Bd _ (Bd _ (ig hb e)))).2.1
  cases f with
  | next=>obtain⟨σ7,H7,I7,n7⟩:=q7;exact again I7 n7
  | cont=>obtain⟨σ7,H7,I7,n7⟩:=q7;exact again I7 n7
  | brk=>obtain⟨σ7,H7,I7,q7⟩:=q7;exact⟨σ7,H7,I7.jR.jQ,q7⟩
  | ret v=>obtain⟨x7,σ7,H7,I7,r7,q7⟩:=q7;exact⟨x7,σ7,H7,I7.jR.jQ,r7,q7⟩
theorem Eo{P:Program}{w:World}{X:Cx}:Passes (nC P w) X (fun _ _ _=>False):=by
 intro pq σ H s e s' I q;obtain⟨_,_,_,_,_,_,_,_,_,_,_,_,_,_,_,_,z⟩:=q;rcases z with⟨_,_,z⟩|⟨_,_,_,_,_,_,_,z⟩
 ·exact z.elim
 ·exact z.elim
end
theorem jg{X:Cx}{x:Str}{C:Addr}{pos:Pos}(hg:Gl X x)(hm:X.mg x=some (.ref C))(hd:(x==("__debug__":Str))=false:=by decide):PE X (.Name x pos) (tC (.ref C)):=JB hg hm rfl hd
theorem Ms{K:bI}{h:Heap}{mg:iI}{x:Str}{C:Addr}{bmB:List Value}{newId:String}(X:K.In h)(G:h.Ns mainGlobals mg)(e:PySem.W.nsIn K mainGlobals x=some (some (.ref C)))(q:PySem.W.excIn K C bmB newId=true):
 OwnCls x C bmB newId mg h:=by
 refine⟨PySem.W.mg_of X G e,?_⟩;unfold PySem.W.excIn at q
 split at q
 ·rename_i od cd sl look
  split at q
  ·rename_i Cx bm j0 j1 j2 j3 nw j5 hmro hsl
   simp only[Bool.and_eq_true,beq_iff_eq,Bool.not_eq_true']at q;obtain⟨⟨⟨⟨⟨rfl,rfl⟩,OA⟩,ht⟩,hok⟩,hni⟩:=q;obtain⟨nm,bs,mro,ns,qn,hd,sn,sub,ab,col,del⟩:=cd
   (dsimp only at hmro OA hok hni;subst hmro OA)
   have hs2:sl = #[j0,j1,j2,j3,some (.builtin nw),j5]:=by
    obtain⟨l⟩:=sl;simp only at hsl;rw[hsl]
   subst hs2;exact⟨bm,ns,nm,qn,bs,hd,sn,sub,ab,col,od,j0,j1,j2,j3,j5,_,X _ _ look,.of_isNs (PySem.W.isNs_of_in X hok),PySem.W.nsMap_none_of_in X hok hni,PySem.W.tail_of_in X ht⟩
  ·cases q
 ·cases q
theorem Mt{K:bI}{C:PySem.Addr}(h:PySem.W.hasDictIn K C=true):(PySem.W.clsIn K C).isSome=true:=by
 obtain⟨cd,e,_⟩:=PySem.W.any_some h;rw[e];rfl
theorem Hq{α:Type}:∀ us:List α,us.length=1->∃ a,us=[a]
 | [_],_=>⟨_,rfl⟩
theorem jX{α:Type}:∀ us:List α,us.length=2->∃ a b,us=[a,b]
 | [_,_],_=>⟨_,_,rfl⟩
theorem nk{α:Type}:∀ us:List α,us.length=3->∃ a b c,us=[a,b,c]
 | [_,_,_],_=>⟨_,_,_,rfl⟩
theorem J0{α:Type}:∀ us:List α,us.length=4->∃ a b c d,us=[a,b,c,d]
 | [_,_,_,_],_=>⟨_,_,_,_,rfl⟩
structure uy(ea:Addr)(k:Nat)(A:Around):Prop where
 hd:A.handled=some (.ref ea)
 dp:A.depth+3*k+5<recursionLimit
 un:A.units+16*k+200<cLine
theorem lz.mark{k:Nat}{A:Around}(r:lz k A)(ea:Addr):uy ea k (A.mark (some (.ref ea))):=⟨rfl,r.dp,r.un⟩
theorem uy.deeper{ea:Addr}{k:Nat}{A:Around}(r:uy ea (k+1) A)(env:Env):uy ea k (A.deeper env) :=
 ⟨r.hd,by have:=r.dp;show A.depth+1+3*k+5<_;lia,by have:=r.un;show A.units+3+16*k+200<_;lia⟩
structure QX(ea:Addr)(P:Program)(w:World)(K:bI)(mg:iI)(base:Heap)(k:Nat)(f:Addr)(fd:FuncData)(ps:List Str)(sp:Sp):Prop where
 len:∀ vs H Q E,sp vs H Q E->vs.length=ps.length
 run:∀(A:Around) (outer:List Env) (s:Shared) (H:Hp) (args:Args) (us:List Value) (vs:List V) (Q:VK) (E:XK),uy ea k A->E3 P w K mg base A outer s H->BindsTo s fd args (ps.zip us)->Vals vs us->sp vs H Q E->
  codeAny (model P w) A (.call (.ref f) args) (CR cF outer P w H s Q E) s
def QY(P:Program)(w:World)(K:bI)(mg:iI)(base:Heap)(N:List Str)(qual:Str)(scope:Scope)(f:Addr)(cd:Value)(A:Around)(outer:List Env)(s:Shared)(H:Hp)(E:XK):Cx :=
 { qM cF P w K mg base N qual scope f cd { A with handled:=none} outer s H E with A:=A.deeper (envOfC qual scope s.heap.objs.size f cd),calm:=false,xe:=fun _ _=>False}
theorem Mu{ea:Addr}{P:Program}{w:World}{K:bI}{mg:iI}{base:Heap}{k:Nat}{f:Addr}{name qual:Str}{params:Arguments}{body:List Stmt}{scope:Scope}{dV kV doc pm cdv ct oc:Value}{an od:Option Addr}
 {osl:Array (Option Value)} {N ps:List Str} {sp:Sp} (lk:K.lookup f=some ⟨oc,od,.func (PySem.W.fnOf name qual params body scope dV kV doc pm an cdv ct),osl⟩) (hcd:PySem.W.codeIn K cdv qual=true) (S:aI N ps scope)
 (len:∀ vs H Q E,sp vs H Q E->vs.length=ps.length)
 (hbody:∀(A:Around) (outer:List Env) (s:Shared) (H:Hp) (vs:List V) (Q:VK) (E:XK),uy ea k (A.deeper (envOfC qual scope s.heap.objs.size f cdv))->sp vs H Q E->
  ∃ t,x6 (QY P w K mg base N qual scope f cdv A outer s H E) body t/\t { nx:=fun _ H'=>Q .eS H',rt:=Q} (start N vs) H) :
 QX ea P w K mg base (k+1) f (PySem.W.fnOf name qual params body scope dV kV doc pm an cdv ct) ps sp:=by
 refine⟨len,fun A outer s H args us vs Q E hr e0 hb r zX=>?_⟩
 have hl:=len _ _ _ _ zX;have KX:K.In s.heap:=e0.mod.Nm.keeps fun b o e=>(e0.bs b o e).1
 have lim:s.heap.NoLimit:=e0.mod.nolimit.keeps fun b o e=>(e0.bs b o e).1
 have hkind:∀ y∈ps.zip us,scope.names.lookup y.1=some .local\/(scope.names.lookup y.1=some .cell/\((cellsFrom (s.heap.objs.size+1) scope.names []).lookup y.1).isSome=true):=fun⟨n,v⟩ hy=>by
  rcases S.par n (List.of_mem_zip hy).1 with q|q
  ·exact .inl q
  ·exact .inr ⟨q,PySem.W.cellsFrom_some _ _ _ (.inl q)⟩
 refine codeAny_call_function (by have:=hr.dp;lia) (KX _ _ lk) rfl S.co S.gen rfl (PySem.W.codeRec_of KX hcd) (hb _ _ _ _ ?_)
 refine wpAny_newFunctionEnv_cells S.kind hkind fun env he s1 x=>?_
 subst he;refine⟨lim.keeps x.toInCall.keep,codeAny_func ?_⟩;obtain⟨t,ht,hq⟩:=hbody A outer s H vs Q E (hr.deeper _) zX;have e1:E3 P w K mg base { A with handled:=none} outer s H:=⟨e0.frames,e0.mod,e0.bs,e0.Jy,e0.funs,e0.Jz,e0.hok,e0.bare⟩
 have I0:Inv (qM cF P w K mg base N qual scope f cdv { A with handled:=none} outer s H E) [] (start N vs) H s1:=yP S rfl e1 hl r x
 have I:Inv (QY P w K mg base N qual scope f cdv A outer s H E) [] (start N vs) H s1:=by
  have z:=I0.Br (A':=A.deeper (envOfC qual scope s.heap.objs.size f cdv)) (cm:=false) (Mn:=[]) (vd:=[]) (Lb:=fun _ _=>False) rfl (fun z=>nomatch z) fun p hp=>hp
  exact z
 refine wpAny_mono (ht [] s1 (start N vs) H _ I hq) (fun fl s' hs=>?_) fun e s' hs=>hs.elim
 have fin:∀{σ' : St} {H' : Hp} {v:V} {u:Value},Inv (QY P w K mg base N qual scope f cdv A outer s H E) [] σ' H' s'->RelV v u->Q v H'->CE outer P w H s Q u s' :=
  fun {σ' H' v u} J rv q=>⟨v,H',J.os,J.bare,J.base,J.hok,rv,q⟩
 cases fl with
 | ret u =>
   obtain⟨v,σ',H',J,rv,q⟩:=hs;exact fin J rv q
 | next =>
   obtain⟨σ',H',J,q⟩:=hs;exact fin (v:=V.eS) (u:=Value.none) J rfl q
 | brk =>
   obtain⟨_,_,_,q⟩:=hs;exact False.elim q
 | cont =>
   obtain⟨_,_,_,q⟩:=hs;exact False.elim q
theorem gG.okH{ea:Addr}{P:Program}{w:World}{K:bI}{mg:iI}{base:Heap}{x qual:Str}{st:Stmt}{f:Addr}{fd:FuncData}{N ps:List Str}{k:Nat}{sp:Sp}(F:gG K x qual st f fd)(S:aI N ps (ah st))
 (len:∀ vs H Q E,sp vs H Q E->vs.length=ps.length)
 (hbody:∀(cdv:Value) (A:Around) (outer:List Env) (s:Shared) (H:Hp) (vs:List V) (Q:VK) (E:XK),uy ea k (A.deeper (envOfC qual (ah st) s.heap.objs.size f cdv))->sp vs H Q E->
  ∃ t,x6 (QY P w K mg base N qual (ah st) f cdv A outer s H E) (aH st) t/\t { nx:=fun _ H'=>Q .eS H',rt:=Q} (start N vs) H):QX ea P w K mg base (k+1) f fd ps sp:=by
 obtain⟨oc,od,kV,doc,pm,an,cdv,ct,osl,rfl,lk,hcd⟩:=F.ex;exact Mu lk hcd S len fun A outer s H vs Q E hr zX=>hbody cdv A outer s H vs Q E hr zX
section
variable {X:Cx}{ea:Addr}{k:Nat}{f:Addr}{fd:FuncData}{ps:List Str}{sp:Sp}{E4:List V}{ds:List Value}{x:Str}{p pos:Pos}{e:Expr}{es:List Expr}{t:TA}
theorem Hr(F:QX ea X.prog X.w X.K X.mg X.base k f fd ps sp)(hr:uy ea k X.A)(hg:Gl X x)(hm:X.mg x=some (.ref f))(hk:PySem.W.keepIn X.K (.ref f)=true)(hb:Binds X.K fd ps ds)(hd:Vals E4 ds)
 (ha:PA X (e::es) t) (hdb:(x==("__debug__":Str))=false:=by decide) (he:starEach (e::es) X.env=(false,eval e X.env)::starEach es X.env:=by rfl) (hpl:(backTo pos (starEach es X.env)).any (·.1)=false:=by rfl) :
 PE X (.Call (.Name x p) (e::es) [] pos) (K6 sp E4 (fun _ _ _=>False) t):=by
 intro pq s σ H Q I h;refine wpAny_Call_Name_kw (qK I hg hm ?_ hdb);refine PySem.W.callWith_K (h₀:=X.base) I.ok.mod.Nm hk (fP (ha pos pq s σ H _ I h) fun us s1 ⟨vs,H1,I1,r,q⟩=>⟨I1.x8,?_⟩) he hpl
 have r2:Vals (vs++E4) (us++ds):=r.append hd;have hl:(us++ds).length=ps.length:=by rw[<-r2.length];exact F.len _ _ _ _ q
 refine wpAny_call (codeAny_mono (F.run X.A X.stack s1 H1 ⟨us,[]⟩ (us++ds) (vs++E4) Q _ hr I1.NX (hb s1 us I1.x8 hl) r2 q) fun r s' hq=>?_)
 cases r with
 | error e=>exact False.elim hq
 | ok fl =>
   cases fl with
   | ret u=>exact I1.after hq
   | next=>exact False.elim hq
   | brk=>exact False.elim hq
   | cont=>exact False.elim hq
end
section
variable {prog:Program}{w:World}{A:Around}{E:gj}{s:Shared}
theorem yd:entryFor table "proto.unchain"=some Builtin.«proto.unchain»:=entryFor_of_fast (by kernel_rfl)
theorem CV{α:Type}{e ea:Addr}{oe:Obj}{vs:Array Value}{Q:α->Shared->Prop}(hh:A.handled=some (.ref ea))(ne:ea≠e)(ge:s.heap.get? e=some oe)(de:oe.data = .fields vs)(hz:2<vs.size)(h2:Sec ea s.heap)
 (q:E (.ref e) { s with heap:=s.heap.update e (Obj.mapFields (·.setIfInBounds 2 (.ref ea)))}):wpAny (model prog w) A (raiseNew (.ref e):Sem α) Q E s:=by
 obtain⟨oh,hs,gh,dh,zh⟩:=h2;rw[raiseNew];refine dO (wpAny_handled ?_);rw[hh];dsimp only;rw[if_pos (by simp[ne])]
 refine dO (wpAny_holding (wpAny_runValue (codeAny_builtin yd ?_)));show wpAny _ _ (field (.ref ea) 2 >>= _) _ _ s;refine dO (wpAny_field gh dh zh ?_);refine dO (wpAny_pure ?_);refine wpAny_pure ?_;show wpAny _ _ (setField (.ref e) 2 (.ref ea) >>= fun _=>throw (.ref e)) _ _ s
 exact dO (wpAny_setField (s:=s) (x:=.ref ea) ge de hz (wpAny_throw q))
theorem vO{it ea:Addr}{x left step:Int}{Q:Option Value->Shared->Prop}(hh:A.handled=some (.ref ea))(h2:Sec ea s.heap)(hit:IsRangeIter s.heap it x left step)(hleft:left<=0)
 (hQ:∀ h',Heap.ExtBut it s.heap h'->Q none { s with heap:=h'}):wpAny (model prog w) A (pyNext (.ref it)) Q E s:=by
 have hT:s.TypeIs (.ref it) "range_iterator":=⟨_,hit,rfl⟩;rw[pyNext];refine dO (wpAny_attempt (wpAny_callSpecial?_slot (name:=Str.ofString "__next__") hT F.slot_range_iterator_next (wpAny_call_entry F.slot_range_iterator_next hT F.entry_range_iterator_next ?_ (F.args_range_iterator_next_1 _))));show wpAny _ _ (field (.ref it) 0 >>= fun _=>_) _ _ s
 refine dO (wpAny_field hit rfl (x:=rawInt x) rfl ?_);show wpAny _ _ (field (.ref it) 1 >>= fun _=>_) _ _ s
 refine dO (wpAny_field hit rfl (x:=rawInt left) rfl ?_);show wpAny _ _ (field (.ref it) 2 >>= fun _=>_) _ _ s
 refine dO (wpAny_field hit rfl (x:=rawInt step) rfl ?_);show wpAny _ _ (if left<=0 then _ else _) _ _ s
 rw[if_pos hleft];refine dO (wpAny_rule (dO ?_));show wpAny _ _ (newExc (.type "StopIteration") [] >>= fun _=>_) _ _ _
 refine dO ?_;simp only[newExc,newTuple];refine dO (wpAny_newObj_type ?_ (by size_fits))
 refine dO (m:=firstArgMember _ _) (wpAny_of_eq (a:=Value.none) (by first | rfl | (simp only[firstArgMember];rfl)) (wpAny_newObj_type ?_ (by size_fits)))
 obtain⟨oh,hs,gh,dh,zh⟩:=h2;have lt:=Heap.lt_size gh;refine CV hh ?_ (Heap.get?_push_size _ rfl) rfl (by simp;lia) ⟨oh,hs,Heap.get?_push_of_some _ (Heap.get?_push_of_some _ gh),dh,zh⟩ ?_
 ·rw[Heap.size_push];exact Nat.ne_of_lt (Nat.lt_succ_of_lt lt)
 ·have g0:=Heap.get?_push_size (s.heap.push { cls:=.type "tuple",data:=.seq #[]}) (o:={ cls:=.type "StopIteration",data:=.fields (#[.ref s.heap.objs.size,.none,.none,.none,.bool false,.none]++ownMembersOf (.type "StopIteration") [])}) rfl;have g1:=Heap.get?_update_self (Obj.mapFields (·.setIfInBounds 2 (.ref ea))) g0 (Obj.isFreed_of_fields (Obj.data_mapFields rfl _));refine dO (wpAny_isInstance (T:="StopIteration") (b:=true) ⟨_,g1,Obj.cls_mapFields _ _⟩ isSubtype_stop ?_);refine wpAny_pure (hQ _ fun b o hb g=>?_)
  have nb:(s.heap.push { cls:=.type "tuple",data:=.seq #[]}).objs.size≠b:=by
   rw[Heap.size_push];exact Nat.ne_of_gt (Nat.lt_succ_of_lt (Heap.lt_size g))
  exact(Heap.get?_update_other _ _ nb).trans (Heap.get?_push_of_some _ (Heap.get?_push_of_some _ g))
end
def Mv(ea:Addr)(C:Value)(lo:Int)(n:Nat):It:=⟨(D5 lo n).go,(D5 lo n).Jm,fun i H=>(D5 lo n).stop i H/\H ea=some (vM ea C)⟩
theorem Bs{A:Around}{P:Program}{w:World}{K:bI}{tg:Expr}{ea:Addr}{C:Value}(hh:A.handled=some (.ref ea))(it:Addr)(lo:Int)(n:Nat):
 Ei A false P w K tg (Mv ea C lo n) [it] it (fun i h=>IsRangeIter h it (lo+(i:Int)*1) ((n:Int)-(i:Int)) 1):=by
 have T0:=vC (P:=P) (w:=w) (K:=K) (tg:=tg) it lo n;refine⟨T0.mem,T0.obj,T0.keep,?_,?_,T0.self⟩
 ·intro X hP hw hK hA hc i pq s σ H E I hf st hg;subst hP hw hK;obtain⟨f0,f1,f2,f3,f4,f5⟩:=hf it (by simp)
  have hg' : i<n:=hg;refine wpAny_pyNext_range_item st (by lia) fun h' st' sb=>?_
  have I1:Inv X pq σ H { s with heap:=h',toks:=s.toks+1}:=I.turned (fun b o hb e=>(sb.2 b hb).trans e) f0 f1 f3 f4 f5
  have st2:IsRangeIter h' it (lo+((i+1:Nat):Int)*1) ((n:Int)-((i+1:Nat):Int)) 1:=by
   rw[show lo+((i+1:Nat):Int)*1=lo+(i:Int)*1+1 by lia,show(n:Int)-((i+1:Nat):Int)=(n:Int)-(i:Int)-1 by lia]
   exact st'
  refine⟨_,rfl,D0 (s:={ s with heap:=h',toks:=s.toks+1}) (n:="range_iterator") st2 rfl rfl (by decide) ⟨.int (lo+i),H,I1,⟨s.toks,?_⟩,⟨rfl,rfl⟩,st2,fun b hb=>(hf b hb).1⟩⟩
  rw[Int.mul_one]
 ·intro X hP hw hK hA hc i pq s σ H E I hf st hg;subst hP hw hK hA;obtain⟨f0,f1,f2,f3,f4,f5⟩:=hf it (by simp)
  obtain⟨hg,he⟩:=hg;obtain⟨⟨oe,vs,e1,_,e3,e4⟩,_⟩:=(show cY X.prog X.w H s.heap ea (vM ea C) from I.hok ea _ he)
  exact vO hh ⟨oe,vs,e1,e3,e4⟩ st (by have:n<=i:=hg;lia) fun h' eb=>⟨rfl,I.turned (t':=s.toks) (fun b o hb e=>eb b o hb e) f0 f1 f3 f4 f5⟩
def OB(ea:Addr)(C:Value)(ta:TA):TI:=fun σ H R=>ta σ H fun vs H1=>∃ j:Int,vs=[.int j]/\-(2^62)<=j/\j<2^62/\R (Mv ea C 0 j.toNat) H1
theorem Fc{X:Cx}{tg:Expr}{ea:Addr}{C:Value}{a:Expr}{ta:TA}{p pos:Pos}(hh:X.A.handled=some (.ref ea))(hc:X.calm=false)(hg:Gl X "range")(hm:X.mg "range"=none)(ha:PA X [a] ta)(hs:starEach [a] X.env=[(false,eval a X.env)]:=by rfl):
 PIX X tg (.Call (.Name "range" p) [a] [] pos) (OB ea C ta):=by
 intro pq s σ H R I h;refine Call_ (lX I hg hm boot_range (PyProof.Rows.callWith_type1 (fP (ha pos pq s σ H _ I h) fun us s1 ⟨vs,H1,I1,r1,q1⟩=>?_) hs rfl))
 obtain⟨j,e,q1,q2,q⟩:=q1;subst e;cases r1 with
 | cons r rr =>
   cases rr;obtain⟨t,rfl⟩:=r;refine call_range_1 ?_;refine wpAny_pyIter_range (IsRange.new ..) (small_one (by lia) (by lia) q1 q2) ?_
   generalize hr:({ cls:=.type "range",data:=.fields #[.int 0 _,.int j t,.int 1 _]}:Obj)=ro;have I2:Inv X pq σ H1 { s1 with heap:=s1.heap.push ro,toks:=s1.toks+1+1}:=I1.kept fun b o e=>Heap.get?_push_of_some _ e
   refine⟨(s1.heap.push ro).objs.size,[(s1.heap.push ro).objs.size],_,_,H1,rfl,I2.kept (t':=s1.toks+1+1) fun b o e=>Heap.get?_push_of_some _ e,hc.symm▸Bs (C:=C) hh _ 0 j.toNat,?_,fun b hb=>?_,q⟩
   ·have e1:(0:Int)+((0:Nat):Int)*1=0:=by simp
    have e2:((j.toNat:Nat):Int)-((0:Nat):Int)=Builtin.Range.rangeSize 0 j 1:=by rw[rangeSize_one];split<;>lia
    show IsRangeIter _ _ (0+((0:Nat):Int)*1) (((j.toNat:Nat):Int)-((0:Nat):Int)) 1;rw[e1,e2];exact Heap.get?_push_size _ rfl
   ·have e:b=(s1.heap.push ro).objs.size:=by simpa using hb
    subst e;exact I2.GI (Nat.le_refl _) (I2.hok.fresh (Nat.le_refl _))
theorem Bt{ea:Addr}{C:Value}{m n:Nat}{g:TG}{tt:TT}{te:TE}{fr:St}{D:Addr}{Q:Hp->Prop}{H1:Hp}{lo:Int}(Pv:Nat->List V->Hp->Prop)(h0:Pv 0 [] H1)(hl:∀ i acc H,i<=m->Pv i acc H->H D=some (.lst acc)/\acc.length<=i)(hz:m<=sizeLine)
 (hs:∀ i acc H,i<m->Pv i acc H->g (.int (lo+i)) (List.replicate n none++fr) H fun σ2 H2=>σ2.drop n=fr/\tt σ2 H2 fun b H3 =>
  if b=true then te σ2 H3 fun v H4=>H4 D=some (.lst acc)/\Pv (i+1) (acc++[v]) (upd H4 D (.lst (acc++[v]))) else Pv (i+1) acc H3)
 (hd:∀ acc H,Pv m acc H->H ea=some (vM ea C)/\Q H):jV (Mv ea C lo m) g tt te n fr D Q H1:=by
 refine⟨fun i k acc H=>k=m-i/\i<=m/\Pv i acc H,⟨m,by simp,Nat.zero_le _,h0⟩,?_⟩
 rintro i k acc H ⟨rfl,hi,p⟩;obtain⟨hD,ha⟩:=hl i acc H hi p;refine⟨hD,?_⟩
 by_cases hlt:i<m
 ·refine .inr ⟨hlt,by lia,Pv (i+1),fun acc' H' p'=>⟨m-(i+1),by lia,rfl,hlt,p'⟩,fun x H' y=>?_⟩
  obtain⟨e,y⟩:=y;subst e y;exact hs i acc _ hlt p
 ·have e:i=m:=by lia
  subst e;obtain⟨h1,h2⟩:=hd acc H p;exact .inl ⟨⟨Nat.le_refl _,h1⟩,h2⟩
section
variable {X:Cx}{pq:bF}{σ:St}{H:Hp}{s:Shared}{h' : Heap}
theorem Inv.yields{t' : Nat}{wr:List Addr}{T:Addr}{o:HO}(I:Inv X pq σ H s)(k:∀ b u,b∉wr->s.heap.get? b=some u->h'.get? b=some u)(hf:∀ b∈wr,qf X pq H b)(hT:s.heap.objs.size<=T)
 (new:cY X.prog X.w (upd H T o) h' T o):Inv X pq σ (upd H T o) { s with heap:=h',toks:=t'}:=by
 have hTn:H T=none:=I.hok.fresh hT;have nT:∀ b u,H b=some u->b≠T:=fun b u e=>cC e hTn
 have nw:∀ b u,H b=some u->b∉wr:=fun b u e hb=>by rw[(hf b hb).1]at e;cases e
 refine I.step (g':=s.gens) (d':=s.drawn) (ch:=wr) (fun b hb=>?_) (fun b o _ _ hc e _=>k b o hc e) (fun b o _ _ hc e _=>⟨o.slots,k b o hc e⟩) (fun b u hc e n=>?_)
  (fun b o hc e=>⟨o,k b o hc e⟩) (fun b xs e=>?_) (fun b ob xs e=>?_) (fun b ps e=>⟨#[],?_⟩) (fun m hm=>?_) (fun b u e=>?_) I.bare
 ·obtain⟨_,f1,_,f3,f4,f5⟩:=hf b hb;exact⟨f3,f1,f4,f5⟩
 ·rw[aQ (Nat.ne_of_lt (Nat.lt_of_lt_of_le (Heap.lt_size e) hT))];exact n
 ·rw[aQ (nT b _ e)];exact e
 ·rw[aQ (nT b _ e)];exact e
 ·rw[aQ (nT b _ e),e];simp
 ·obtain⟨o,es,ep,ho,r⟩:=hm;exact⟨o,es,ep,k _ o (fun hb=>(hf _ hb).2.1 rfl) ho,r⟩
 ·by_cases hb:b=T
  ·subst hb;rw[aj]at e;cases e;exact new
  ·rw[aQ hb]at e;refine(I.hok b u e).stay (fun c v hc q=>k c v ?_ q) (fun c q=>by rw[aQ (nT c _ q)];exact q) fun c xs q=>by rw[aQ (nT c _ q)];exact q
   rcases hc with z|z
   ·rw[z];exact nw b u e
   ·exact nw c _ z
end
section
variable {X:Cx}
theorem Bu:fR X (.type "range") (fun xs H Q=>∃ j:Int,xs=[.int j]/\∀ p,H p=none->Q (.ref p) (upd H p (.Jk 0 j))):=by
 intro pq s σ H xs us Q I r h;obtain⟨j,rfl,q⟩:=h;obtain⟨u,rfl,t,rfl⟩:=vals1 r;refine call_range_1 ⟨.ref s.heap.objs.size,_,I.laid (t':=s.toks+1+1) (fun b o e=>Heap.get?_push_of_some _ e) (Nat.le_refl _) ?_,rfl,q _ I.fresh⟩
 exact⟨_,_,_,Heap.get?_push_size _ rfl⟩
def CW(n:Nat):List V:=(List.range n).map fun i=>V.int ((i:Nat):Int)
theorem Ld(hc:X.calm=true):fR X (.type "list") (fun xs H Q=>∃ p,∃ n:Nat,xs=[.ref p]/\H p=some (.Jk 0 (n:Int))/\n<=900/\∀ l,H l=none->Q (.ref l) (upd H l (.lst (CW n)))):=by
 intro pq s σ H xs us Q I r h;obtain⟨p,n,rfl,hp,hn,q⟩:=h;obtain⟨u,rfl,rx⟩:=vals1 r;cases rx;obtain⟨t,u,v,e⟩:=(show cY X.prog X.w H s.heap p (.Jk 0 (n:Int)) from I.hok p _ hp)
 have hsz:Builtin.Range.rangeSize 0 (n:Int) 1=(n:Int):=by rw[rangeSize_one];split<;>lia
 refine call_list_range (I.ok.hd hc) e (small_one (by lia) (by lia) (by lia) (by lia)) hsz (Nat.le_trans hn (by decide)) fun h' tk acc c kp e' hacc=>?_
 refine⟨.ref s.heap.objs.size,_,I.laid (t':=tk) kp (Nat.le_refl _) ?_,rfl,q _ I.fresh⟩;have hl:acc.toList.length=n:=by rw[Array.length_toList];exact hacc.1
 have hz:(CW n).length<=sizeLine:=by
  unfold CW;rw[List.length_map,List.length_range];exact Nat.le_of_lt (gr (by lia))
 refine⟨hz,acc.toList,c,?_,by simpa using e'⟩
 have key:∀(ys:List Value) (k:Nat),(∀ j v,ys[j]?=some v->∃ t,v=Value.int (((k+j:Nat)):Int) t)->Vals ((List.range' k ys.length).map fun i=>V.int ((i:Nat):Int)) ys:=by
  intro ys
  induction ys with
  | nil=>intro k _;exact .nil
  | cons y r ih =>
    intro k hy;obtain⟨t,ht⟩:=hy 0 y rfl;refine .cons ⟨t,by simpa using ht⟩ (ih (k+1) fun j v hv=>?_)
    obtain⟨t',ht'⟩:=hy (j+1) v (by simpa using hv)
    exact⟨t',by rw[ht'];congr 2;lia⟩
 have z:=key acc.toList 0 fun j v hv=>by
  obtain⟨t,ht⟩:=hacc.2 j v (by simpa using hv)
  exact⟨t,by rw[ht];congr 1;lia⟩
 rw[hl]at z;unfold CW;rw[List.range_eq_range'];exact z
theorem sumK(K:bI)(hc:X.calm=true)(hK:X.K=K:=by rfl):fR X (.builtin "sum") (fun xs H Q=>∃(p:Addr) (ns:List Int),xs=[.ref p]/\aZ K H p (ns.map V.int)/\Q (.int ns.sum) H):=by
 subst hK;intro pq s σ H xs us Q I r h;obtain⟨p,ns,rfl,hq,q⟩:=h;obtain⟨u,rfl,rx⟩:=vals1 r;cases rx;obtain⟨its,rv,pl,hz⟩:=I.list hq;have hi:∀{ns:List Int} {its:List Value},Vals (ns.map V.int) its->∃ xs:Array (Int×Tok),its.toArray=intItems xs/\xs.toList.map (·.1)=ns:=by
  intro ns
  induction ns with
  | nil=>intro its r;cases r;exact⟨#[],by simp[intItems],rfl⟩
  | cons a l ih =>
    intro its r;cases r with
    | cons r1 r2 =>
      obtain⟨t,rfl⟩:=r1;obtain⟨xs,h1,h2⟩:=ih r2;refine⟨#[(a,t)]++xs,?_,by simp[h2]⟩
      have J2:=congrArg Array.toList h1;simp only[intItems,Array.toList_map,List.toList_toArray]at J2;simp[intItems,J2,Array.map_append]
 obtain⟨ar,e1,e2⟩:=hi rv;have hl:s.heap.IsList p (intItems ar):=e1▸pl.isList;refine sum_intListG (I.ok.hd hc) hl fun h' tk t' hk=>?_
 have e3:preSum (numAt ar) ar.size=ns.sum:=by rw[preSum_eq,List.take_of_length_le (by simp),e2]
 rw[e3];exact⟨.int ns.sum,H,I.kept hk,⟨t',rfl⟩,q⟩
end
theorem Bv:∀{us:List Value} {ns:List Int},IntsAre us ns->Vals (ns.map V.int) us
 | _,_,.nil=>.nil
 | _,_,.cons n t r=>.cons ⟨t,rfl⟩ (Bv r)
end L2
namespace HT
open PySem PyProof.Rows
section
variable {prog:Program}{w:World}{A:Around}{E:gj}{s:Shared}
theorem pH{t sl:Addr}{items:Array Value}{vl vu:Value}{lo hi:Option Int}{Q:gj}(ht:IsTup s.heap t items)(hs:s.heap.IsSliceOf sl vl vu .none)(pl:IsPart vl lo)(pu:IsPart vu hi)
 (hw:eU items.size 0 lo=0/\eU items.size items.size hi=items.size) (h:Q (.ref t) s):wpAny (model prog w) A (getItem (.ref t) (.ref sl)) Q E s:=by
 obtain⟨os,hos,hcs,hds⟩:=id hs;have SK:s.TypeIs (.ref sl) "slice":=⟨os,hos,hcs⟩;unfold getItem
 try with_reducible refine wpAny_holding ?_
 first | refine wpAny_bind (wpAny_pure ?_) | skip
 refine wpAny_bind (wpAny_sequenceKey ht.typeIs (by decide) ?_)
 refine wpAny_bind (wpAny_callSpecial?_slot (name:=Str.ofString "__getitem__") ht.typeIs PyProof.Rows.slot_tuple_getitem
  (wpAny_call_entry PyProof.Rows.slot_tuple_getitem ht.typeIs entry_tuple_getitem ?_ (args_tuple_getitem _ _)))
 show wpAny _ _ (Builtin.Tuple.tupleItemsOf (.ref t) >>= _) _ _ s;refine wpAny_bind (tupleItemsOf_ ht ?_);refine wpAny_bind (wpAny_typeOf SK ?_);rw[if_pos (by decide)]
 refine wpAny_bind (lA hs pl pu ?_);have hyes:(((eU items.size 0 lo:Nat):Int)==0&&(1:Int)==1&&(eU items.size items.size hi-eU items.size 0 lo)==items.size)=true:=by
  rw[hw.1,hw.2];simp
 show wpAny _ _ (if(((eU items.size 0 lo:Nat):Int)==0&&(1:Int)==1&&(eU items.size items.size hi-eU items.size 0 lo)==items.size)=true then _ else _) _ _ s
 rw[if_pos hyes];refine wpAny_bind ?_;unfold Builtin.Tuple.tupleIsExact;refine wpAny_bind (wpAny_typeOf ht.typeIs (wpAny_pure ?_));rw[if_pos (by decide)]
 exact wpAny_bind (wpAny_rule (wpAny_pure ⟨_,rfl,wpAny_pure h⟩))
end
end HT
namespace L2
open PySem PySem.Spec PyProof.Rows
section
variable {X:Cx}
def Ht:V->Option Int->Option Int->Hp->VK->Prop:=fun x lo hi H Q=>∃ a xs,x = .ref a/\H a=some (.tup xs)/\∀ p H',aq H H'->H' p=some (.tup (pG xs lo hi))->Q (.ref p) H'
theorem CY:QN X Ht:=by
 intro pq s σ H x v vl vu lo hi sl Q I rx hs pl pu h;obtain⟨a,xs,rfl,hx,q⟩:=h;cases rx;obtain⟨its,r,ht,hz⟩:=I.tuple (aT.of hx);have hlen:its.toArray.size=xs.length:=by rw[List.size_toArray];exact r.length.symm
 refine⟨"tuple",_,PyProof.Rows.slot_tuple_getitem.lookup,ht.typeIs,?_⟩
 by_cases hw:HT.eU xs.length 0 lo=0/\HT.eU xs.length xs.length hi=xs.length
 ·refine HT.pH ht hs pl pu (by rw[hlen];exact hw) ⟨.ref a,H,I,rfl,q a H (aq.refl _) ?_⟩
  unfold pG;rw[hw.1,hw.2,List.drop_zero,Nat.sub_zero,List.take_length];exact hx
 ·refine HT.qN ht hs pl pu (by rw[hlen];exact hw) ?_ (by rw[hlen];exact hz)
  rw[hlen];refine⟨.ref s.heap.objs.size,_,I.laid (t':=s.toks) (o:=.tup (pG xs lo hi)) (fun b ob q=>Heap.get?_push_of_some _ q) (Nat.le_refl _) ?_,rfl,q _ _ (aq.new (I.hok.fresh (Nat.le_refl _))) aj⟩
  exact⟨Nat.le_trans (ux xs lo hi) hz,_,(r.drop (HT.eU xs.length 0 lo)).take (HT.eU xs.length xs.length hi-HT.eU xs.length 0 lo),IsTup.new _ _⟩
end
end L2
namespace Ring
open PySem
abbrev dU:=Int×Int×Int
def bit(S:Int)(k:Nat):Bool:=decide (S/2^k%2=1)
def aS(S:Int):List Nat:=(List.range (Builtin.Int.intBits S)).filter (bit S)
def bump(e:List Int)(i:Int):List Int:=e.set i.toNat (e.getD i.toNat 0+1)
def step(ts:List dU)(e:List Int)(k:Nat):List Int:=match ts[k]? with
 | some t=>bump (bump e t.1) t.2.1
 | none=>e
def kT(p:Nat)(ts:List dU)(S:Int):List Int:=(aS S).foldl (step ts) (List.replicate p 0)
def vP(p:Nat)(ts:List dU)(S:Int):List Nat:=(List.range p).filter fun i=>decide ((kT p ts S).getD i 0%2=1)
def Jp(ts:List dU)(k i:Nat):Int:=match ts[k]? with
 | some t=>(if t.1=(i:Int) then 1 else 0)+(if t.2.1=(i:Int) then 1 else 0)
 | none=>0
theorem lB(e:List Int)(i:Int):(bump e i).length=e.length:=by unfold bump;rw[List.length_set]
theorem Hu(ts:List dU)(e:List Int)(k:Nat):(step ts e k).length=e.length:=by
 unfold step
 split
 ·rw[lB,lB]
 ·rfl
theorem Bw(e:List Int)(j:Int)(i:Nat)(h0:0<=j)(h1:j<e.length):(bump e j).getD i 0=e.getD i 0+if j=(i:Int) then 1 else 0:=by
 unfold bump;rw[List.getD_eq_getElem?_getD,List.getD_eq_getElem?_getD,List.getD_eq_getElem?_getD]
 by_cases h:j=(i:Int)
 ·have hi:j.toNat=i:=by lia
  rw[if_pos h,hi,List.getElem?_set_self (by lia)]
  rfl
 ·have hi:j.toNat≠i:=by lia
  rw[if_neg h,List.getElem?_set_ne hi]
  lia
structure Ep(p:Nat)(ts:List dU):Prop where
 ends:∀ t∈ts,0<=t.1/\t.1<(p:Int)/\0<=t.2.1/\t.2.1<(p:Int)
theorem step_get{p:Nat}{ts:List dU}(W:Ep p ts)(e:List Int)(k i:Nat)(he:e.length=p):(step ts e k).getD i 0=e.getD i 0+Jp ts k i:=by
 unfold step Jp;cases h:ts[k]? with
 | none=>simp
 | some t =>
   obtain⟨a0,a1,b0,b1⟩:=W.ends t (nB h);dsimp only;rw[Bw _ _ _ b0 (by rw[lB,he];exact b1),Bw _ _ _ a0 (by rw[he];exact a1)]
   lia
def sX(ts:List dU)(ks:List Nat)(i:Nat):Int:=(ks.map fun k=>Jp ts k i).sum
theorem Bx{p:Nat}{ts:List dU}(W:Ep p ts)(i:Nat):∀(ks:List Nat) (e:List Int),e.length=p->(ks.foldl (step ts) e).getD i 0=e.getD i 0+sX ts ks i
 | [],e,_=>by simp[sX]
 | k::r,e,he=>by
   rw[List.foldl_cons,Bx W i r _ (by rw[Hu,he]),step_get W e k i he]
   unfold sX;rw[List.map_cons,List.sum_cons]
   lia
theorem Hv{p:Nat}{ts:List dU}(W:Ep p ts)(S:Int)(i:Nat):(kT p ts S).getD i 0=sX ts (aS S) i:=by
 unfold kT;rw[Bx W i _ _ (by simp)]
 have e:(List.replicate p (0:Int)).getD i 0=0:=by
  rw[List.getD_eq_getElem?_getD,List.getElem?_replicate]
  split<;>rfl
 rw[e]
 lia
theorem jk(m k:Nat):bit (m:Int) k=m.testBit k:=by
 unfold bit;rw[Nat.testBit_eq_decide_div_mod_eq];have e:((m:Int)/2^k%2=1)↔(m/2^k%2=1):=by
  have h2:((2:Int)^k)=((2^k:Nat):Int):=by simp
  rw[h2,<-Int.natCast_ediv]
  lia
 simp only[e]
theorem By(m:Nat):Builtin.Int.intBits (m:Int)=if m=0 then 0 else m.log2+1:=by
 unfold Builtin.Int.intBits
 by_cases h:m=0
 ·simp[h]
 ·simp[h]
theorem bits_le{m n:Nat}(h:m<2^n):Builtin.Int.intBits (m:Int)<=n:=by
 rw[By]
 split
 ·exact Nat.zero_le _
 ·rename_i h0
  exact(Nat.log2_lt h0).mpr h
theorem BA{m k:Nat}(h:Builtin.Int.intBits (m:Int)<=k):bit (m:Int) k=false:=by
 rw[jk];rw[By]at h
 by_cases h0:m=0
 ·simp[h0]
 ·rw[if_neg h0]at h;exact Nat.testBit_lt_two_pow (Nat.lt_of_lt_of_le Nat.lt_log2_self (Nat.pow_le_pow_right (by decide) h))
theorem qS(f:Nat->Bool)(a:Nat):∀ d,(∀ k,a<=k->f k=false)->(List.range (a+d)).filter f=(List.range a).filter f
 | 0,_=>rfl
 | d+1,h=>by
   rw[<-Nat.add_assoc,List.range_succ,List.filter_append,qS f a d h];have e:[a+d].filter f=[]:=by rw[List.filter_cons,if_neg (by rw[h _ (by lia)];simp)];rfl
   rw[e,List.append_nil]
theorem gK{m n:Nat}(h:m<2^n):aS (m:Int)=(List.range n).filter fun k=>m.testBit k:=by
 unfold aS;have hb:=bits_le h;obtain⟨d,hd⟩:=Nat.exists_eq_add_of_le hb;have e:(fun k=>m.testBit k)=bit (m:Int):=funext fun k=>(jk m k).symm
 rw[e]
 conv=>rhs;rw[hd]
 exact(qS _ _ d fun k hk=>BA hk).symm
theorem qT{m n:Nat}(h:m<2^n){k:Nat}(hk:k∈aS (m:Int)):k<n:=by
 rw[gK h]at hk;exact List.mem_range.mp (List.mem_filter.mp hk).1
theorem sum_filter(ts:List dU)(i:Nat)(f:Nat->Bool):∀ ks:List Nat,sX ts (ks.filter f) i=(ks.map fun k=>if f k=true then Jp ts k i else 0).sum
 | []=>rfl
 | k::r=>by
   have ih:=sum_filter ts i f r;rw[List.map_cons,List.sum_cons,<-ih];cases h:f k with
   | true =>
     rw[List.filter_cons,if_pos h];unfold sX;rw[List.map_cons,List.sum_cons];simp
   | false =>
     rw[List.filter_cons,if_neg (by rw[h];simp)]
     simp
open PySem L2
def J3(t:dU):List V:=[.int t.1,.int t.2.1,.int t.2.2]
def TupAt(H:Hp)(x:V)(t:dU):Prop:=∃ b,x = .ref b/\H b=some (.tup (J3 t))
structure bU(H:Hp)(w:Addr)(p:Nat)(ts:List dU):Prop where
 ex:∃ b xs,H w=some (.tup [.int (p:Int),.ref b])/\H b=some (.tup xs)/\Paired (TupAt H) xs ts
structure Hw(p:Nat)(ts:List dU):Prop where
 QZ:Ep p ts
 len:ts.length<=24
 Q0:p<=10
theorem TupAt.tups{H H' : Hp}(s:iU H H'){x:V}{t:dU}(h:TupAt H x t):TupAt H' x t:=by
 obtain⟨b,e,h⟩:=h;exact⟨b,e,s _ _ h⟩
theorem bU.tups{H H' : Hp}{w:Addr}{p:Nat}{ts:List dU}(s:iU H H')(h:bU H w p ts):bU H' w p ts:=by
 obtain⟨b,xs,h1,h2,h3⟩:=h.ex;exact⟨b,xs,s _ _ h1,s _ _ h2,Paired.imp' (fun _ _ z=>z.tups s) h3⟩
theorem bU.same{H H' : Hp}{w:Addr}{p:Nat}{ts:List dU}(s:aq H H')(h:bU H w p ts):bU H' w p ts:=h.tups s.tups
def bf(l:List Nat):List V:=l.map fun k=>V.int ((k:Nat):Int)
theorem ql(l:List Nat)(k:Nat):bf (l++[k])=bf l++[.int (k:Int)]:=by unfold bf;rw[List.map_append];rfl
theorem bw(l:List Nat):(bf l).length=l.length:=by unfold bf;rw[List.length_map]
theorem jw{l:List Nat}{i:Nat}{x:V}(h:(bf l)[i]?=some x):∃ k,l[i]?=some k/\x = .int (k:Int):=by
 unfold bf at h;rw[List.getElem?_map]at h;obtain⟨k,e,q⟩:=CD.mp h;exact⟨k,e,q.symm⟩
theorem bG(f:Nat->Bool)(i:Nat):(List.range (i+1)).filter f=(List.range i).filter f++(if f i=true then[i] else[]):=by
 rw[List.range_succ,List.filter_append]
 congr 1
 cases h:f i with
 | true=>rw[List.filter_cons,if_pos h,if_pos rfl];rfl
 | false=>rw[List.filter_cons,if_neg (by rw[h];simp),if_neg (by simp)];rfl
def lC(f:Nat->Bool)(H:Hp)(D:Addr)(i:Nat)(acc:List V)(H2:Hp):Prop:=aq H H2/\H2 D=some (.lst acc)/\acc=bf ((List.range i).filter f)
section
variable {f:Nat->Bool}{H H2 H3:Hp}{D:Addr}{i:Nat}{acc:List V}
theorem lC.start(hD:H D=none):lC f H D 0 [] (upd H D (.lst [])):=⟨aq.new hD,aj,rfl⟩
theorem lC.len(p:lC f H D i acc H2):H2 D=some (.lst acc)/\acc.length<=i:=by
 refine⟨p.2.1,?_⟩;rw[p.2.2,bw];exact Nat.le_trans (List.length_filter_le _ _) (by rw[List.length_range];exact Nat.le_refl _)
theorem lC.yes(p:lC f H D i acc H2)(hD:H D=none)(s:aq H2 H3)(hf:f i=true):H3 D=some (.lst acc)/\lC f H D (i+1) (acc++[.int (i:Int)]) (upd H3 D (.lst (acc++[.int (i:Int)]))):=by
 refine⟨s _ _ p.2.1,(p.1.trans s).put hD,aj,?_⟩;rw[bG,if_pos hf,ql,<-p.2.2]
theorem lC.no(p:lC f H D i acc H2)(s:aq H2 H3)(hf:f i=false):lC f H D (i+1) acc H3:=by
 refine⟨p.1.trans s,s _ _ p.2.1,?_⟩;rw[bG,if_neg (by rw[hf];simp),List.append_nil]
 exact p.2.2
end
def bO(ts:List dU)(k:Nat):dU:=ts.getD k (0,0,0)
def stepT(e:List Int)(t:dU):List Int:=bump (bump e t.1) t.2.1
theorem yT{ts:List dU}:∀(ks:List Nat) (e:List Int),(∀ k∈ks,k<ts.length)->(ks.map (bO ts)).foldl stepT e=ks.foldl (step ts) e
 | [],_,_=>rfl
 | k::r,e,h=>by
   rw[List.map_cons,List.foldl_cons,List.foldl_cons,yT r _ fun j hj=>h j (CB _ hj)]
   have hk:=h k List.mem_cons_self;have e1:ts[k]?=some (bO ts k):=by
    unfold bO;rw[List.getD_eq_getElem?_getD];simp[hk]
   have e2:step ts e k=stepT e (bO ts k):=by
    unfold step stepT;rw[e1]
   rw[e2]
theorem yU{p:Nat}{ts:List dU}{m:Nat}(h:m<2^ts.length):kT p ts (m:Int)=((aS (m:Int)).map (bO ts)).foldl stepT (List.replicate p 0):=by
 unfold kT;rw[yT _ _ fun k hk=>qT h hk]
theorem Fd(e:List Int)(t:dU):(stepT e t).length=e.length:=by unfold stepT;rw[lB,lB]
theorem sY:∀(l:List dU) (e:List Int),(l.foldl stepT e).length=e.length
 | [],_=>rfl
 | t::r,e=>by rw[List.foldl_cons,sY r,Fd]
def nI(l:List Int):List V:=l.map V.int
theorem sZ{l:List Int}{i:Nat}(h:i<l.length):(nI l)[i]?=some (.int (l.getD i 0)):=by
 unfold nI;rw[List.getElem?_map,List.getD_eq_getElem?_getD];simp[h]
theorem vQ(l:List Int)(i:Nat):(nI l).set i (.int (l.getD i 0+1))=nI (bump l (i:Int)):=by
 unfold nI bump;rw[Int.toNat_natCast,List.map_set]
theorem Hx(p:Nat):(List.replicate p [V.int 0]).flatten=nI (List.replicate p 0):=by
 induction p with
 | zero=>rfl
 | succ p ih=>rw[List.replicate_succ,List.flatten_cons,ih,List.replicate_succ];rfl
theorem kB{n j:Nat}(h:j<n):Jo n (j:Int)=some j:=by
 unfold Jo;rw[if_pos (by lia),if_pos (by lia),Int.toNat_natCast]
def tu(k:Nat):PyData:=.int (k:Int)
theorem nJ{K:bI}{H:Hp}:∀ l:List Nat,DatVs K H (bf l) (l.map tu)
 | []=>.nil
 | _::r=>.cons (.int _) (nJ r)
theorem vR:∀ l:List Nat,PyData.canLayAll0 (l.map tu)=true
 | []=>rfl
 | _::r=>by
   have ih:=vR r;simp only[List.map_cons,PyData.canLayAll0,ih,Bool.and_true];rfl
theorem yV:∀ l:List Nat,PyData.depthAll (l.map tu)=0
 | []=>rfl
 | _::r=>by
   have ih:=yV r;show max (PyData.depth (PyData.int _)) (PyData.depthAll (r.map _))=0;rw[ih];rfl
theorem kC(l:List Nat):SeqAt.shaped (.list (l.map tu))=true:=by
 unfold SeqAt.shaped;have e:(PyData.list (l.map tu)).canLay0=PyData.canLayAll0 (l.map tu):=by simp[PyData.canLay0]
 rw[e,vR,Bool.true_and];refine e7 ?_;have e2:PyData.depth (PyData.list (l.map tu))=PyData.depthAll (l.map tu)+1:=by simp[PyData.depth]
 rw[e2,yV]
 decide
theorem Er(l:List Nat):PyData.eqv (.list (l.map tu)) (.list [])=decide (l=[]):=by
 cases l with
 | nil=>rfl
 | cons a r=>rfl
theorem CZ(S:Int)(k:Nat):decide (V.int (Builtin.bitAnd (S/2^k) 1)=V.int 1)=bit S k:=by
 unfold bit;rw[PyProof.Rows.bitAnd_m1];rw[Bool.eq_iff_iff];simp
theorem J4(x:Int):decide (V.int x=V.int 1)=decide (x=1):=by
 rw[Bool.eq_iff_iff];simp
structure qU(p:Int)(t:dU):Prop where
 a0:0<=t.1
 a1:t.1<p
 b0:0<=t.2.1
 b1:t.2.1<p
 ne:t.1≠t.2.1
 l0:1<=t.2.2
 l1:t.2.2<=1000000000000000000000000000000
structure aL(p:Nat)(ts:List dU):Prop where
 p1:1<=p
 p2:p<=10
 len:ts.length<=24
 C1:∀ t∈ts,qU (p:Int) t
theorem aL.Ka{p:Nat}{ts:List dU}(g:aL p ts):Hw p ts:=⟨⟨fun t ht=>let z:=g.C1 t ht;⟨z.a0,z.a1,z.b0,z.b1⟩⟩,g.len,g.p2⟩
def vS(p:Int)(H:Hp)(D:Addr)(n:Nat)(H2:Hp):Prop:=aq H H2/\∃ acc ts,H2 D=some (.lst acc)/\Paired (TupAt H2) acc ts/\acc.length=n/\∀ t∈ts,qU p t
section
variable {p:Int}{H H2 H3:Hp}{D b:Addr}{n:Nat}{t:dU}
theorem vS.start(hD:H D=none):vS p H D 0 (upd H D (.lst [])):=⟨aq.new hD,[],[],aj,.nil,rfl,fun t ht=>nomatch ht⟩
theorem vS.push(h:vS p H D n H2)(hD:H D=none)(s:aq H2 H3)(g:qU p t)(hb:H3 b=some (.tup (J3 t))):
 ∃ acc,H3 D=some (.lst acc)/\acc.length=n/\vS p H D (n+1) (upd H3 D (.lst (acc++[.ref b]))):=by
 obtain⟨s2,acc,ts,hd,pr,hn,gt⟩:=h;have OD:H3 D=some (.lst acc):=s _ _ hd;refine⟨acc,OD,hn,(s2.trans s).put hD,acc++[.ref b],ts++[t],aj,?_,by rw[List.length_append,List.length_singleton,hn],fun u hu=>?_⟩
 ·exact Paired.snoc (Paired.imp' (fun _ _ z=>z.tups (s.tups.trans (iU.put OD))) pr) ⟨b,rfl,iU.put OD _ _ hb⟩
 ·rcases List.mem_append.mp hu with hu|hu
  ·exact gt u hu
  ·cases List.mem_singleton.mp hu;exact g
theorem vS.fin{q:Nat}(h:vS (q:Int) H D n H2):∃ acc ts,H2 D=some (.lst acc)/\ts.length=n/\(∀ t∈ts,qU (q:Int) t)/\∀ l,H2 l=none->∀ w,upd H2 l (.tup acc) w=none->
 aq H (upd (upd H2 l (.tup acc)) w (.tup [.int (q:Int),.ref l]))/\bU (upd (upd H2 l (.tup acc)) w (.tup [.int (q:Int),.ref l])) w q ts:=by
 obtain⟨s2,acc,ts,hd,pr,hn,gt⟩:=h;refine⟨acc,ts,hd,by rw[<-pr.length,hn],gt,fun l hl w hw=>?_⟩
 have n1:aq H2 (upd H2 l (.tup acc)):=aq.new hl;have n2:=n1.trans (aq.new (o:=.tup [.int (q:Int),.ref l]) hw);refine⟨s2.trans n2,l,acc,aj,?_,Paired.imp' (fun _ _ z=>z.tups n2.tups) pr⟩
 rw[aQ (cC aj hw),aj]
end
theorem Hy{p o r:Int}(h:0<=o)(h1:o<p)(r0:0<=r)(r1:r<p-1):0<=(o+1+r)%p/\(o+1+r)%p<p/\o≠(o+1+r)%p:=by
 have hp:0<p:=by lia
 refine⟨Int.emod_nonneg _ (by lia),Int.emod_lt_of_pos _ hp,?_⟩
 by_cases hlt:o+1+r<p
 ·rw[Int.emod_eq_of_lt (by lia) hlt]
  lia
 ·have e:(o+1+r)%p=o+1+r-p:=by
   rw[<-Int.sub_emod_right,Int.emod_eq_of_lt (by lia) (by lia)]
  rw[e]
  lia
theorem dD{n:Nat}(h:n<=24):n<=sizeLine:=Nat.le_of_lt (gr (by lia))
theorem mw{n:Nat}(h:n<=900):n<sizeLine:=gr (by lia)
theorem vh{ns:List Int}{k:Nat}(h:k<ns.length):(ns.map V.int)[k]?=some (.int (ns.getD k 0)):=by
 rw[List.getElem?_map,List.getD_eq_getElem?_getD];simp[h]
theorem d8(x m:Int)(h:0<m):0<=x%m/\x%m<m:=⟨Int.emod_nonneg _ (by lia),Int.emod_lt_of_pos _ h⟩
end Ring
namespace RM
def cy(f:Nat->Bool):Nat->Bool
 | 0=>false
 | n+1=>cy f n^^f n
theorem bS{f g:Nat->Bool}:∀{n:Nat},(∀ k,k<n->f k=g k)->cy f n=cy g n
 | 0,_=>rfl
 | n+1,h=>by
   unfold cy;rw[bS fun k hk=>h k (by lia),h n (by lia)]
theorem jY(f g:Nat->Bool):∀ n,cy (fun k=>f k^^g k) n=(cy f n^^cy g n)
 | 0=>rfl
 | n+1=>by
   unfold cy;rw[jY f g n];cases cy f n<;>cases cy g n<;>cases f n<;>cases g n<;>rfl
theorem qm:∀ n,cy (fun _=>false) n=false
 | 0=>rfl
 | n+1=>by unfold cy;rw[qm n];rfl
theorem jZ(c:Bool)(f:Nat->Bool):∀ n,cy (fun k=>c&&f k) n=(c&&cy f n)
 | 0=>by cases c<;>rfl
 | n+1=>by
   unfold cy;rw[jZ c f n];cases c<;>simp
theorem tw(f:Nat->Nat->Bool)(n:Nat):∀ m,cy (fun x=>cy (fun k=>f x k) n) m=cy (fun k=>cy (fun x=>f x k) m) n
 | 0=>by
   show false=_;rw[<-qm n];rfl
 | m+1=>by
   show(cy (fun x=>cy (fun k=>f x k) n) m^^cy (fun k=>f m k) n)=_
   rw[tw f n m,<-jY];rfl
theorem jx{f:Nat->Bool}{n:Nat}(h:∀ k,k<n->f k=false):cy f n=false:=by
 rw[bS (g:=fun _=>false) h,qm]
theorem qW{f:Nat->Bool}{a:Nat}:∀{n:Nat},a<n->(∀ k,k<n->k≠a->f k=false)->cy f n=f a
 | 0,h,_=>absurd h (Nat.not_lt_zero _)
 | n+1,h,z=>by
   unfold cy
   by_cases e:a=n
   ·subst e;rw[jx fun k hk=>z k (by lia) (by lia)]
    simp
   ·rw[qW (a:=a) (by lia) fun k hk hn=>z k (by lia) hn,z n (by lia) (fun q=>e q.symm)]
    simp
theorem iq(C:Nat->Bool){a m:Nat}(h:a<m):cy (fun x=>C x&&decide (a=x)) m=C a:=by
 rw[qW h fun k _ hk=>by simp[Ne.symm hk]]
 simp
structure Net where
 p:Nat
 n:Nat
 a:Nat->Nat
 b:Nat->Nat
 al:∀ k,k<n->a k<p
 bl:∀ k,k<n->b k<p
 ne:∀ k,k<n->a k≠b k
variable (N:Net)
def Net.inc(k x:Nat):Bool:=decide (N.a k=x)^^decide (N.b k=x)
def Net.bd(m x:Nat):Bool:=cy (fun k=>m.testBit k&&N.inc k x) N.n
def Net.lD(m:Nat):Prop:=∀ x,x<N.p->N.bd m x=false
variable {N}
theorem j4(m q x:Nat):N.bd (m^^^q) x=(N.bd m x^^N.bd q x):=by
 unfold Net.bd;rw[<-jY];refine bS fun k _=>?_
 rw[Nat.testBit_xor];cases m.testBit k<;>cases q.testBit k<;>cases N.inc k x<;>rfl
theorem Es(x:Nat):N.bd 0 x=false:=by
 unfold Net.bd;exact jx fun k _=>by simp
theorem nK{k:Nat}(h:k<N.n)(x:Nat):N.bd (2^k) x=N.inc k x:=by
 unfold Net.bd;rw[qW h fun j _ hj=>by simp[Nat.testBit_two_pow,Ne.symm hj]]
 simp[Nat.testBit_two_pow]
theorem lD.xor{m q:Nat}(h:N.lD m)(h' : N.lD q):N.lD (m^^^q):=fun x hx=>by rw[j4,h x hx,h' x hx];rfl
theorem Hz{m:Nat}(C:Nat->Bool)(h:∀ k,k<N.n->m.testBit k=true->C (N.a k)=C (N.b k)):cy (fun x=>C x&&N.bd m x) N.p=false:=by
 have e:cy (fun x=>C x&&N.bd m x) N.p=cy (fun x=>cy (fun k=>C x&&(m.testBit k&&N.inc k x)) N.n) N.p :=
  bS fun x _=>(jZ (C x) _ N.n).symm
 rw[e,tw];refine jx fun k hk=>?_
 have e2:cy (fun x=>C x&&(m.testBit k&&N.inc k x)) N.p=(m.testBit k&&(C (N.a k)^^C (N.b k))):=by
  rw[<-iq C (N.al k hk),<-iq C (N.bl k hk),<-jY,<-jZ];refine bS fun x _=>?_
  unfold Net.inc;cases C x<;>cases m.testBit k<;>cases decide (N.a k=x)<;>cases decide (N.b k=x)<;>rfl
 rw[e2];cases hb:m.testBit k with
 | false=>rfl
 | true=>rw[h k hk hb];simp
def join(L:Nat->Nat)(u v:Nat):Nat->Nat:=fun x=>if L x=max (L u) (L v) then min (L u) (L v) else L x
theorem join_eq{L:Nat->Nat}{u v x y:Nat}(h:L x=L y):join L u v x=join L u v y:=by unfold join;rw[h]
theorem Fe(L:Nat->Nat)(u v:Nat):join L u v u=join L u v v:=by
 unfold join
 split<;>split<;>lia
theorem yW{L:Nat->Nat}{u v:Nat}(h:L u=L v):join L u v=L:=by
 funext x
 unfold join;rw[h]
 split<;>lia
theorem C2{L:Nat->Nat}{u v x y:Nat}(h:join L u v x=join L u v y):L x=L y\/(L x=L u/\L y=L v)\/(L x=L v/\L y=L u):=by
 unfold join at h;have mm:(max (L u) (L v)=L u/\min (L u) (L v)=L v)\/(max (L u) (L v)=L v/\min (L u) (L v)=L u):=by
  rcases Nat.le_total (L u) (L v) with q|q
  ·exact .inr ⟨Nat.max_eq_right q,Nat.min_eq_left q⟩
  ·exact .inl ⟨Nat.max_eq_left q,Nat.min_eq_right q⟩
 rcases mm with⟨e1,e2⟩|⟨e1,e2⟩
 ·rw[e1,e2]at h
  split at h
  ·rename_i hx
   split at h
   ·rename_i hy
    exact .inl (hx.trans hy.symm)
   ·exact .inr (.inl ⟨hx,h.symm⟩)
  ·split at h
   ·rename_i hy
    exact .inr (.inr ⟨h,hy⟩)
   ·exact .inl h
 ·rw[e1,e2]at h
  split at h
  ·rename_i hx
   split at h
   ·rename_i hy
    exact .inl (hx.trans hy.symm)
   ·exact .inr (.inr ⟨hx,h.symm⟩)
  ·split at h
   ·rename_i hy
    exact .inr (.inl ⟨h,hy⟩)
   ·exact .inl h
theorem join_le{L:Nat->Nat}{u v x:Nat}(h:L x<=x):join L u v x<=x:=by
 unfold join
 split<;>lia
theorem Ff{L:Nat->Nat}{u v:Nat}(h:∀ x,L (L x)=L x)(x:Nat):join L u v (join L u v x)=join L u v x:=by
 have hu:=h u;have hv:=h v;have hx:=h x;have hlo:L (min (L u) (L v))=min (L u) (L v):=by
  rcases Nat.le_total (L u) (L v) with q|q
  ·rw[Nat.min_eq_left q];exact hu
  ·rw[Nat.min_eq_right q];exact hv
 unfold join
 split
 ·rw[hlo]
  split<;>lia
 ·rw[hx]
  split<;>lia
def Net.aY(N:Net)(S:Nat->Bool):Nat->Nat->Nat
 | 0=>fun x=>x
 | k+1=>if S k=true then join (Net.aY N S k) (N.a k) (N.b k) else Net.aY N S k
variable {S:Nat->Bool}
theorem vj:∀(k x:Nat),N.aY S k x<=x
 | 0,_=>Nat.le_refl _
 | k+1,x=>by
   unfold Net.aY
   split
   ·exact join_le (vj k x)
   ·exact vj k x
theorem eG:∀(k x:Nat),N.aY S k (N.aY S k x)=N.aY S k x
 | 0,_=>rfl
 | k+1,x=>by
   by_cases hs:S k=true
   ·have e:N.aY S (k+1)=join (N.aY S k) (N.a k) (N.b k):=by
     conv=>lhs;unfold Net.aY
     rw[if_pos hs]
    rw[e];exact Ff (eG k) x
   ·have e:N.aY S (k+1)=N.aY S k:=by
     conv=>lhs;unfold Net.aY
     rw[if_neg hs]
    rw[e];exact eG k x
theorem yX{x y k:Nat}(h:N.aY S k x=N.aY S k y):∀ d,N.aY S (k+d) x=N.aY S (k+d) y
 | 0=>h
 | d+1=>by
   have ih:=yX h d;show N.aY S (k+d+1) x=N.aY S (k+d+1) y;unfold Net.aY
   split
   ·exact join_eq ih
   ·exact ih
theorem j6{j k:Nat}(h:j<k)(hs:S j=true):N.aY S k (N.a j)=N.aY S k (N.b j):=by
 obtain⟨d,rfl⟩:=Nat.exists_eq_add_of_le (Nat.succ_le_of_lt h);refine yX ?_ d;show N.aY S (j+1) (N.a j)=N.aY S (j+1) (N.b j);unfold Net.aY;rw[if_pos hs];exact Fe _ _ _
inductive Net.my(N:Net)(S:Nat->Bool)(k u:Nat):Nat->Prop
 | refl:Net.my N S k u u
 | fwd {j:Nat} (h:Net.my N S k u (N.a j)) (hj:j<k) (hs:S j=true):Net.my N S k u (N.b j)
 | bwd {j:Nat} (h:Net.my N S k u (N.b j)) (hj:j<k) (hs:S j=true):Net.my N S k u (N.a j)
theorem Net.my.trans{k u v w:Nat}(h:N.my S k u v)(h' : N.my S k v w):N.my S k u w:=by
 induction h' with
 | refl=>exact h
 | fwd _ hj hs ih=>exact .fwd ih hj hs
 | bwd _ hj hs ih=>exact .bwd ih hj hs
theorem Net.my.mono{k l u v:Nat}(h:N.my S k u v)(nH:k<=l):N.my S l u v:=by
 induction h with
 | refl=>exact .refl
 | fwd _ hj hs ih=>exact .fwd ih (by lia) hs
 | bwd _ hj hs ih=>exact .bwd ih (by lia) hs
theorem cN:∀(k u v:Nat),N.aY S k u=N.aY S k v->N.my S k u v
 | 0,u,v,h=>by
   have e:u=v:=h;subst e;exact .refl
 | k+1,u,v,h=>by
   unfold Net.aY at h
   split at h
   ·rename_i hs
    rcases C2 h with q|⟨q1,q2⟩|⟨q1,q2⟩
    ·exact(cN k u v q).mono (by lia)
    ·have c1:=(cN k u _ q1).mono (Nat.le_succ k);have c2:=(cN k _ v q2.symm).mono (Nat.le_succ k);exact Net.my.trans (.fwd c1 (by lia) hs) c2
    ·have c1:=(cN k u _ q1).mono (Nat.le_succ k);have c2:=(cN k _ v q2.symm).mono (Nat.le_succ k);exact Net.my.trans (.bwd c1 (by lia) hs) c2
   ·exact(cN k u v h).mono (by lia)
def Net.ia(N:Net)(k:Nat):Nat->Nat:=N.aY (fun _=>true) k
def Net.Ah(N:Net)(k:Nat):Bool:=!decide (N.ia k (N.a k)=N.ia k (N.b k))
theorem HA(k:Nat):N.ia (k+1)=if N.Ah k=true then join (N.ia k) (N.a k) (N.b k) else N.ia k:=by
 show N.aY (fun _=>true) (k+1)=_
 unfold Net.aY;rw[if_pos rfl];unfold Net.Ah
 by_cases h:N.ia k (N.a k)=N.ia k (N.b k)
 ·rw[if_neg (by simp[h])]
  exact yW h
 ·rw[if_pos (by simp[h])]
  rfl
theorem jl{m:Nat}(hf:∀ k,m.testBit k=true->k<N.n/\N.Ah k=true)(he:N.lD m):m=0:=by
 by_cases h0:m=0
 ·exact h0
 exfalso
 have hK:m.testBit m.log2=true:=Nat.testBit_log2 h0;obtain⟨Q2,Q3⟩:=hf _ hK;generalize hKe:m.log2=K at hK Q2 Q3;have hlt:m<2^(K+1):=by rw[<-hKe];exact Nat.lt_log2_self
 have hcl:=Hz (N:=N) (m:=m^^^2^K) (fun x=>decide (N.ia K x=N.ia K (N.a K))) fun k hk hb=>by
  have hkK:k<K:=by
   rw[Nat.testBit_xor,Nat.testBit_two_pow]at hb
   by_cases e:K=k
   ·subst e;simp[hK]at hb
   ·have hb' : m.testBit k=true:=by simpa[e]using hb
    have:k<K+1:=by
     by_cases q:k<K+1
     ·exact q
     ·have z:=Nat.testBit_lt_two_pow (Nat.lt_of_lt_of_le hlt (Nat.pow_le_pow_right (by decide) (show K+1<=k by lia)))
      rw[hb']at z;cases z
    lia
  have e:N.ia K (N.a k)=N.ia K (N.b k):=j6 (S:=fun _=>true) hkK rfl
  show decide (N.ia K (N.a k)=_)=decide (N.ia K (N.b k)=_);rw[e]
 have e:cy (fun x=>decide (N.ia K x=N.ia K (N.a K))&&N.bd (m^^^2^K) x) N.p=cy (fun x=>decide (N.ia K x=N.ia K (N.a K))&&N.inc K x) N.p :=
  bS fun x hx=>by rw[j4,he x hx,nK Q2];simp
 rw[e]at hcl;have e2:cy (fun x=>decide (N.ia K x=N.ia K (N.a K))&&N.inc K x) N.p=(decide (N.ia K (N.a K)=N.ia K (N.a K))^^decide (N.ia K (N.b K)=N.ia K (N.a K))):=by
  rw[<-iq (fun x=>decide (N.ia K x=N.ia K (N.a K))) (N.al K Q2),<-iq (fun x=>decide (N.ia K x=N.ia K (N.a K))) (N.bl K Q2),<-jY]
  refine bS fun x _=>?_
  unfold Net.inc;cases decide (N.ia K x=N.ia K (N.a K))<;>cases decide (N.a K=x)<;>cases decide (N.b K=x)<;>rfl
 rw[e2]at hcl;unfold Net.Ah at Q3;have hne : ¬ N.ia K (N.b K)=N.ia K (N.a K):=fun q=>by rw[q]at Q3;simp at Q3
 simp[hne]at hcl
def Net.trail(N:Net):Nat->Nat->Nat
 | 0=>fun _=>0
 | k+1=>if N.Ah k=true then fun v=>if N.ia k v=max (N.ia k (N.a k)) (N.ia k (N.b k)) then Net.trail N k v^^^(Net.trail N k (N.a k)^^^Net.trail N k (N.b k)^^^2^k) else Net.trail N k v
   else Net.trail N k
theorem lE:∀(k v j:Nat),(N.trail k v).testBit j=true->j<k/\N.Ah j=true
 | 0,v,j,h=>by simp[Net.trail]at h
 | k+1,v,j,h=>by
   have ih:=lE k;unfold Net.trail at h
   split at h
   ·rename_i hf
    dsimp only at h
    split at h
    ·rw[Nat.testBit_xor,Nat.testBit_xor,Nat.testBit_xor,Nat.testBit_two_pow]at h
     by_cases e:k=j
     ·subst e;exact⟨by lia,hf⟩
     ·have z : ¬((N.trail k v).testBit j=false/\(N.trail k (N.a k)).testBit j=false/\(N.trail k (N.b k)).testBit j=false):=by
       rintro⟨z1,z2,z3⟩;simp[z1,z2,z3,e]at h
      cases h1:(N.trail k v).testBit j with
      | true=>obtain⟨q,r⟩:=ih v j h1;exact⟨by lia,r⟩
      | false=>cases h2:(N.trail k (N.a k)).testBit j with
        | true=>obtain⟨q,r⟩:=ih _ j h2;exact⟨by lia,r⟩
        | false=>cases h3:(N.trail k (N.b k)).testBit j with
          | true=>obtain⟨q,r⟩:=ih _ j h3;exact⟨by lia,r⟩
          | false=>exact absurd ⟨h1,h2,h3⟩ z
    ·obtain⟨q,r⟩:=ih v j h;exact⟨by lia,r⟩
   ·obtain⟨q,r⟩:=ih v j h;exact⟨by lia,r⟩
theorem HB(a b c d e f g h:Bool)(hlh:(d^^f)=(g^^h)):((a^^g)^^(((c^^d)^^(e^^f))^^(c^^e)))=(a^^h):=by
 have e1:(((c^^d)^^(e^^f))^^(c^^e))=(d^^f):=by cases c<;>cases d<;>cases e<;>cases f<;>rfl
 rw[e1,hlh];cases a<;>cases g<;>cases h<;>rfl
theorem qX:∀(k:Nat),k<=N.n->∀ v x,N.bd (N.trail k v) x=(decide (v=x)^^decide (N.ia k v=x))
 | 0,_,v,x=>by
   show N.bd 0 x=(decide (v=x)^^decide (v=x));rw[Es];simp
 | k+1,hk,v,x=>by
   have ih:=qX k (by lia)
   rw[HA];unfold Net.trail
   by_cases hf:N.Ah k=true
   ·rw[if_pos hf,if_pos hf]
    by_cases hm:N.ia k v=max (N.ia k (N.a k)) (N.ia k (N.b k))
    ·have e:join (N.ia k) (N.a k) (N.b k) v=min (N.ia k (N.a k)) (N.ia k (N.b k)):=by unfold join;rw[if_pos hm]
     show N.bd (if N.ia k v=_ then _ else _) x=_
     rw[if_pos hm,e,j4,j4,j4,nK (by lia),ih,ih,ih]
     unfold Net.inc;refine HB _ false _ _ _ _ _ _ ?_;rw[hm];rcases Nat.le_total (N.ia k (N.a k)) (N.ia k (N.b k)) with q|q
     ·rw[Nat.max_eq_right q,Nat.min_eq_left q,Bool.xor_comm]
     ·rw[Nat.max_eq_left q,Nat.min_eq_right q]
    ·have e:join (N.ia k) (N.a k) (N.b k) v=N.ia k v:=by unfold join;rw[if_neg hm]
     show N.bd (if N.ia k v=_ then _ else _) x=_
     rw[if_neg hm,e,ih]
   ·rw[if_neg hf,if_neg hf];exact ih v x
def Net.ring(N:Net)(c:Nat):Nat:=N.trail N.n (N.a c)^^^N.trail N.n (N.b c)^^^2^c
theorem HC{c:Nat}(h:c<N.n):N.ia N.n (N.a c)=N.ia N.n (N.b c):=j6 (S:=fun _=>true) h rfl
theorem oR{c:Nat}(h:c<N.n):N.lD (N.ring c):=fun x _=>by
 unfold Net.ring;rw[j4,j4,nK h,qX _ (Nat.le_refl _),qX _ (Nat.le_refl _),HC h];unfold Net.inc;cases decide (N.a c=x)<;>cases decide (N.b c=x)<;>cases decide (N.ia N.n (N.b c)=x)<;>rfl
theorem qY{c j:Nat}(h:(N.ring c).testBit j=true):j=c\/(j<N.n/\N.Ah j=true):=by
 unfold Net.ring at h;rw[Nat.testBit_xor,Nat.testBit_xor,Nat.testBit_two_pow]at h
 by_cases e:c=j
 ·exact .inl e.symm
 ·right
  cases h1:(N.trail N.n (N.a c)).testBit j with
  | true=>exact lE _ _ _ h1
  | false=>cases h2:(N.trail N.n (N.b c)).testBit j with
    | true=>exact lE _ _ _ h2
    | false=>simp[h1,h2,e]at h
theorem BB{c:Nat}(hf:N.Ah c=false):(N.ring c).testBit c=true:=by
 unfold Net.ring;rw[Nat.testBit_xor,Nat.testBit_xor,Nat.testBit_two_pow];cases h1:(N.trail N.n (N.a c)).testBit c with
 | true=>obtain⟨_,q⟩:=lE _ _ _ h1;rw[hf]at q;cases q
 | false=>cases h2:(N.trail N.n (N.b c)).testBit c with
   | true=>obtain⟨_,q⟩:=lE _ _ _ h2;rw[hf]at q;cases q
   | false=>simp
def cnt(f:Nat->Bool):Nat->Nat
 | 0=>0
 | n+1=>cnt f n+(if f n=true then 1 else 0)
theorem jy{f g:Nat->Bool}:∀{n:Nat},(∀ k,k<n->f k=g k)->cnt f n=cnt g n
 | 0,_=>rfl
 | n+1,h=>by
   unfold cnt;rw[jy fun k hk=>h k (by lia),h n (by lia)]
theorem qZ{f g:Nat->Bool}{h:Nat}(hg:g h=true):∀{p:Nat},h<p->(∀ x,x<p->f x=(g x && !decide (x=h)))->cnt g p=cnt f p+1
 | 0,hh,_=>absurd hh (Nat.not_lt_zero _)
 | p+1,hh,e=>by
   unfold cnt
   by_cases q:h=p
   ·subst q;have z:cnt g h=cnt f h:=jy fun k hk=>by rw[e k (by lia)];simp[show k≠h by lia]
    rw[z,if_pos hg,e h (by lia)]
    simp
   ·rw[qZ hg (by lia) fun x hx=>e x (by lia),e p (by lia)]
    simp[Ne.symm q]
    lia
theorem oS(f:Nat->Bool):∀ n,((List.range n).filter f).length=cnt f n
 | 0=>rfl
 | n+1=>by
   rw[List.range_succ,List.filter_append,List.length_append,oS f n];show _=cnt f n+(if f n=true then 1 else 0)
   cases h:f n with
   | true=>rw[List.filter_cons,if_pos h];rfl
   | false=>rw[List.filter_cons,if_neg (by rw[h];simp)];rfl
theorem rf(f:Nat->Bool):∀ n,cnt f n+cnt (fun k=>!f k) n=n
 | 0=>rfl
 | n+1=>by
   have ih:=rf f n;unfold cnt;cases h:f n<;>simp<;>lia
theorem Et{f:Nat->Bool}:∀{n:Nat},(∀ k,k<n->f k=true)->cnt f n=n
 | 0,_=>rfl
 | n+1,h=>by
   unfold cnt;rw[Et fun k hk=>h k (by lia),if_pos (h n (by lia))]
variable {N:Net}{S:Nat->Bool}
def Net.root(N:Net)(S:Nat->Bool)(k x:Nat):Bool:=decide (N.aY S k x=x)
theorem oU(k:Nat):N.aY S (k+1)=if S k=true then join (N.aY S k) (N.a k) (N.b k) else N.aY S k:=by
 conv=>lhs;unfold Net.aY
theorem rh{k x:Nat}(h:x<N.p):N.aY S k x<N.p:=Nat.lt_of_le_of_lt (vj k x) h
theorem Fg{L:Nat->Nat}{u v:Nat}(hr:∀ x,L (L x)=L x)(hne:L u≠L v)(x:Nat):decide (join L u v x=x)=(decide (L x=x) && !decide (x=max (L u) (L v))):=by
 have hhi:L (max (L u) (L v))=max (L u) (L v):=by
  rcases Nat.le_total (L u) (L v) with q|q
  ·rw[Nat.max_eq_right q];exact hr v
  ·rw[Nat.max_eq_left q];exact hr u
 have hlo:L (min (L u) (L v))=min (L u) (L v):=by
  rcases Nat.le_total (L u) (L v) with q|q
  ·rw[Nat.min_eq_left q];exact hr u
  ·rw[Nat.min_eq_right q];exact hr v
 unfold join
 by_cases h:L x=max (L u) (L v)
 ·rw[if_pos h];have h1 : ¬ min (L u) (L v)=x:=fun z=>by
   rw[<-z,hlo]at h
   lia
  by_cases h2:x=max (L u) (L v)
  ·simp[h1,h2]
   lia
  ·have h3 : ¬ L x=x:=fun z=>h2 (z.symm.trans h)
   simp[h1,h3]
 ·rw[if_neg h];have h2 : ¬ x=max (L u) (L v):=fun z=>h (by rw[z];exact hhi)
  simp[h2]
theorem C3{k:Nat}(hk:k<N.n):cnt (N.root S k) N.p=cnt (N.root S (k+1)) N.p+(if(S k && !decide (N.aY S k (N.a k)=N.aY S k (N.b k)))=true then 1 else 0):=by
 cases hs:S k with
 | false =>
   have e:N.root S (k+1)=N.root S k:=by unfold Net.root;rw[oU,if_neg (by rw[hs];simp)]
   rw[e];simp
 | true =>
   by_cases h:N.aY S k (N.a k)=N.aY S k (N.b k)
   ·have e:N.root S (k+1)=N.root S k:=by unfold Net.root;rw[oU,if_pos hs,yW h]
    rw[e];simp[h]
   ·have hhi:N.aY S k (max (N.aY S k (N.a k)) (N.aY S k (N.b k)))=max (N.aY S k (N.a k)) (N.aY S k (N.b k)):=by
     rcases Nat.le_total (N.aY S k (N.a k)) (N.aY S k (N.b k)) with q|q
     ·rw[Nat.max_eq_right q];exact eG _ _
     ·rw[Nat.max_eq_left q];exact eG _ _
    have h1:=rh (S:=S) (k:=k) (N.al k hk);have h2:=rh (S:=S) (k:=k) (N.bl k hk);rw[qZ (f:=N.root S (k+1)) (g:=N.root S k) (h:=max (N.aY S k (N.a k)) (N.aY S k (N.b k))) (e7 hhi) (by lia) fun x _=>by
     unfold Net.root;rw[oU,if_pos hs];exact Fg (eG k) h x]
    simp[h]
theorem qo{m n:Nat}(h:∀ k,m.testBit k=true->k<n):m<2^n:=Nat.lt_pow_two_of_testBit m fun k hk=>by
 cases q:m.testBit k with
 | false=>rfl
 | true=>exact absurd (h k q) (by lia)
theorem eV{m n k:Nat}(h:m<2^n)(hb:m.testBit k=true):k<n:=by
 by_cases q:k<n
 ·exact q
 ·have z:=Nat.testBit_lt_two_pow (Nat.lt_of_lt_of_le h (Nat.pow_le_pow_right (by decide) (show n<=k by lia)))
  rw[hb]at z;cases z
theorem HD{m q:Nat}(hm:m<2^N.n)(hq:q<2^N.n)(em:N.lD m)(eq:N.lD q)(h:∀ c,c<N.n->N.Ah c=false->m.testBit c=q.testBit c):m=q:=by
 have z:m^^^q=0:=jl (N:=N) (fun k hk=>by
  have hk':=eV (Nat.xor_lt_two_pow hm hq) hk;refine⟨hk',?_⟩;cases hf:N.Ah k with
  | true=>rfl
  | false =>
    rw[Nat.testBit_xor,h k hk' hf]at hk;simp at hk) (lD.xor em eq)
 have e:m=m^^^q^^^q:=by rw[Nat.xor_assoc,Nat.xor_self,Nat.xor_zero]
 rw[e,z,Nat.zero_xor]
theorem Ai{c:Nat}(h:c<N.n):N.ring c<2^N.n:=qo fun k hk=>by
 rcases qY hk with rfl|⟨q,_⟩
 ·exact h
 ·exact q
theorem vU{c d:Nat}(hc:N.Ah c=false)(hd:N.Ah d=false):(N.ring c).testBit d=decide (c=d):=by
 by_cases e:c=d
 ·subst e;rw[BB hc];simp
 ·cases q:(N.ring c).testBit d with
  | false=>simp[e]
  | true=>rcases qY q with rfl | ⟨_,r⟩
          ·exact absurd rfl e
          ·rw[hd]at r;cases r
end RM
namespace Ring
open PySem L2
def maskOf(f:Nat->Bool):Nat->Nat
 | 0=>0
 | n+1=>(if f n=true then 2^n else 0)+maskOf f n
theorem Aj(f:Nat->Bool):∀ n,maskOf f n<2^n
 | 0=>by show 0<1;decide
 | n+1=>by
   have ih:=Aj f n;have e:2^(n+1)=2^n+2^n:=by rw[Nat.pow_succ];lia
   unfold maskOf
   split<;>lia
theorem rj(f:Nat->Bool)(j:Nat):∀ n,(maskOf f n).testBit j=(decide (j<n)&&f j)
 | 0=>by simp[maskOf]
 | n+1=>by
   have ih:=rj f j n;have hl:=Aj f n;unfold maskOf
   by_cases h:f n=true
   ·rw[if_pos h];rcases Nat.lt_trichotomy j n with q|q|q
    ·rw[Nat.testBit_two_pow_add_gt q,ih];simp[q,show j<n+1 by lia]
    ·subst q;rw[Nat.testBit_two_pow_add_eq,ih];simp[h]
    ·have z:2^n+maskOf f n<2^j:=Nat.lt_of_lt_of_le (show 2^n+maskOf f n<2^(n+1) by rw[Nat.pow_succ];lia) (Nat.pow_le_pow_right (by decide) q)
     rw[Nat.testBit_lt_two_pow z];simp[show ¬ j<n+1 by lia]
   ·rw[if_neg h,Nat.zero_add,ih]
    by_cases q:j=n
    ·subst q;have h' : f j=false:=by simpa using h
     simp[h']
    ·by_cases r:j<n
     ·simp[r,show j<n+1 by lia]
     ·simp[r,show ¬ j<n+1 by lia]
theorem Mw{a b x y:Nat}(q:x/2+y/2=a/2+b/2)(h:x%2+y%2=a%2+b%2):x+y=a+b:=by lia
theorem Mx{u v:Nat}(hu:u=0\/u=1)(hv:v=0\/v=1):(u ||| v)+(u&&&v)=u+v:=by
 rcases hu with rfl|rfl<;>rcases hv with rfl|rfl<;>rfl
theorem My:∀ a b:Nat,(a ||| b)+(a&&&b)=a+b:=by
 intro a
 induction a using Nat.strongRecOn with
 | ind a ih =>
   intro b
   by_cases h:a=0
   ·subst h;simp
   ·have q:=ih (a/2) (by lia) (b/2)
    rw[<-Nat.or_div_two,<-Nat.and_div_two]at q;refine Mw q ?_;have e1:(a ||| b)%2=a%2 ||| b%2:=Nat.or_mod_two_pow (n:=1)
    have e2:(a&&&b)%2=a%2&&&b%2:=Nat.and_mod_two_pow (n:=1);rw[e1,e2];exact Mx (Nat.mod_two_eq_zero_or_one a) (Nat.mod_two_eq_zero_or_one b)
theorem or_int(a b:Nat):Builtin.bitOr (a:Int) (b:Int)=((a ||| b:Nat):Int):=by
 have q:=My a b;rw[PyProof.Rows.bitOr_and,PyProof.Rows.bitAnd_pp (by lia) (by lia)]
 have h:(a:Int)+b-((a&&&b:Nat):Int)=((a ||| b:Nat):Int):=by lia
 simpa using h
theorem oW(k:Nat):(1:Int)*2^(k:Int).toNat=((2^k:Nat):Int):=by
 rw[Int.toNat_natCast,Int.one_mul];simp
theorem jz{ts:List dU}{k:Nat}(h:k<ts.length):bO ts k∈ts:=by
 unfold bO;rw[List.getD_eq_getElem?_getD];simp[h]
theorem yY{ts:List dU}{k:Nat}(h:k<ts.length):ts[k]?=some (bO ts k):=by
 unfold bO;rw[List.getD_eq_getElem?_getD];simp[h]
def aL.N{p:Nat}{ts:List dU}(g:aL p ts):RM.Net where
 p:=p
 n:=ts.length
 a:=fun k=>(bO ts k).1.toNat
 b:=fun k=>(bO ts k).2.1.toNat
 al:=fun k hk=>by
  have z:=g.C1 _ (jz hk);have z0:=z.a0;have z1:=z.a1
  lia
 bl:=fun k hk=>by
  have z:=g.C1 _ (jz hk);have z0:=z.b0;have z1:=z.b1
  lia
 ne:=fun k hk e=>by
  have z:=g.C1 _ (jz hk);have z0:=z.a0;have z1:=z.b0;exact z.ne (by lia)
theorem HE{p:Nat}{ts:List dU}{g:aL p ts}{k:Nat}(h:k<ts.length):(bO ts k).1=((g.N.a k:Nat):Int):=by
 have z:=(g.C1 _ (jz h)).a0;show _=(((bO ts k).1.toNat:Nat):Int)
 lia
theorem HF{p:Nat}{ts:List dU}{g:aL p ts}{k:Nat}(h:k<ts.length):(bO ts k).2.1=((g.N.b k:Nat):Int):=by
 have z:=(g.C1 _ (jz h)).b0;show _=(((bO ts k).2.1.toNat:Nat):Int)
 lia
theorem Kc{p:Nat}{ts:List dU}{g:aL p ts}{k:Nat}(h:k<ts.length)(x:Nat):Jp ts k x%2=if g.N.inc k x=true then 1 else 0:=by
 unfold Jp RM.Net.inc;rw[yY h];dsimp only;rw[HE (g:=g) h,HF (g:=g) h];generalize g.N.a k=u;generalize g.N.b k=v
 by_cases h1:u=x
 ·by_cases h2:v=x
  ·simp[h1,h2]
  ·have OE : ¬((v:Int)=(x:Int)):=by lia
   simp[h1,h2,OE]
 ·have J2 : ¬((u:Int)=(x:Int)):=by lia
  by_cases h2:v=x
  ·simp[h1,h2,J2]
  ·have OE : ¬((v:Int)=(x:Int)):=by lia
   simp[h1,h2,J2,OE]
theorem HG{p:Nat}{ts:List dU}{g:aL p ts}(m x:Nat):∀ n,n<=ts.length->((List.range n).map fun k=>if m.testBit k=true then Jp ts k x else 0).sum%2=if RM.cy (fun k=>m.testBit k&&g.N.inc k x) n=true then 1 else 0
 | 0,_=>rfl
 | n+1,h=>by
   have ih:=HG (g:=g) m x n (by lia)
   have hd:=Kc (g:=g) (k:=n) (by lia) x
   rw[List.range_succ,List.map_append,List.sum_append];show(_+((if m.testBit n=true then Jp ts n x else 0)+0))%2=if(RM.cy _ n^^(m.testBit n&&g.N.inc n x))=true then 1 else 0
   generalize ((List.range n).map fun k=>if m.testBit k=true then Jp ts k x else 0).sum=u at ih ⊢
   generalize RM.cy (fun k=>m.testBit k&&g.N.inc k x) n=v at ih ⊢
   generalize g.N.inc n x=i at hd ⊢;generalize Jp ts n x=d at hd ⊢;cases m.testBit n<;>cases v<;>cases i<;>simp at ih hd ⊢ <;> lia
theorem Eu{p:Nat}{ts:List dU}(g:aL p ts){m:Nat}(hm:m<2^ts.length){x:Nat}:decide ((kT p ts (m:Int)).getD x 0%2=1)=g.N.bd m x:=by
 rw[Hv g.Ka.QZ,gK hm,sum_filter];have h:=HG (g:=g) m x ts.length (Nat.le_refl _);rw[h];show _=RM.cy _ ts.length;generalize RM.cy (fun k=>m.testBit k&&g.N.inc k x) ts.length=v
 cases v<;>simp
theorem BC{p:Nat}{ts:List dU}(g:aL p ts){m:Nat}(hm:m<2^ts.length):vP p ts (m:Int)=[]↔g.N.lD m:=by
 unfold vP;rw[List.filter_eq_nil_iff]
 constructor
 ·intro h x hx;have q:=h x (List.mem_range.mpr hx);rw[Eu g hm]at q
  simpa using q
 ·intro h x hx;rw[Eu g hm,h x (List.mem_range.mp hx)];simp
def qp(f:Nat->Nat)(n:Nat):List V:=(List.range n).map fun x=>V.int ((f x:Nat):Int)
theorem rq(f:Nat->Nat)(n:Nat):(qp f n).length=n:=by unfold qp;rw[List.length_map,List.length_range]
theorem j7{f:Nat->Nat}{n x:Nat}(h:x<n):(qp f n)[x]?=some (.int ((f x:Nat):Int)):=by
 unfold qp;rw[List.getElem?_map,List.getElem?_range h];rfl
theorem Kd{f:Nat->Nat}{n x:Nat}{v:V}(h:(qp f n)[x]?=some v):x<n/\v = .int ((f x:Nat):Int):=by
 have hx:x<n:=by
  have:=(xZ.mp h).1
  rwa [rq]at this
 rw[j7 hx]at h;exact⟨hx,(Option.some.inj h).symm⟩
theorem Fi(f:Nat->Nat)(n:Nat):qp f (n+1)=qp f n++[.int ((f n:Nat):Int)]:=by
 unfold qp;rw[List.range_succ,List.map_append];rfl
def BD(f:Nat->Nat)(H:Hp)(D:Addr)(i:Nat)(acc:List V)(H2:Hp):Prop:=aq H H2/\H2 D=some (.lst acc)/\acc=qp f i
section
variable {f:Nat->Nat}{H H2 H3:Hp}{D:Addr}{i:Nat}{acc:List V}{v:V}
theorem BD.start(hD:H D=none):BD f H D 0 [] (upd H D (.lst [])):=⟨aq.new hD,aj,rfl⟩
theorem BD.len(p:BD f H D i acc H2):H2 D=some (.lst acc)/\acc.length<=i:=⟨p.2.1,by rw[p.2.2,rq];exact Nat.le_refl _⟩
theorem BD.next(p:BD f H D i acc H2)(hD:H D=none)(s:aq H2 H3)(hv:v = .int ((f i:Nat):Int)):H3 D=some (.lst acc)/\BD f H D (i+1) (acc++[v]) (upd H3 D (.lst (acc++[v]))):=by
 refine⟨s _ _ p.2.1,(p.1.trans s).put hD,aj,?_⟩;rw[Fi,<-p.2.2,hv]
end
theorem yZ{N:RM.Net}{m:Nat}:∀ n,((List.range n).filter fun k=>m.testBit k).foldl (fun L k=>RM.join L (N.a k) (N.b k)) (fun x=>x)=N.aY (fun k=>m.testBit k) n
 | 0=>rfl
 | n+1=>by
   rw[bG,List.foldl_append,yZ n,RM.oU]
   split<;>rfl
def pieceOf(L:Nat->Nat)(p s:Nat):List Nat:=(List.range p).filter fun x=>decide (L x=s)
def iL(L:Nat->Nat)(p:Nat):List Nat:=(List.range p).filter fun x=>decide (L x=x)
def Le(D:Addr)(H0 H:Hp)(y:V)(l:List Nat):Prop:=∃ b,y = .ref b/\b≠D/\H0 b=none/\H b=some (.lst (bf l))
def vV(L:Nat->Nat)(p:Nat)(H:Hp)(D:Addr)(i:Nat)(H2:Hp):Prop:=aq H H2/\∃ ys,H2 D=some (.lst ys)/\Paired (Le D H H2) ys ((iL L i).map (pieceOf L p))/\ys.length<=i
section
variable {L:Nat->Nat}{p i:Nat}{H H2 H3:Hp}{D b:Addr}
theorem vV.start(hD:H D=none):vV L p H D 0 (upd H D (.lst [])):=⟨aq.new hD,[],aj,.nil,Nat.le_refl _⟩
theorem vW:iL L (i+1)=iL L i++(if L i=i then[i] else[]):=by
 unfold iL;rw[bG]
 by_cases h:L i=i<;>simp[h]
theorem vV.skip(h:vV L p H D i H2)(hn : ¬ L i=i):vV L p H D (i+1) H2:=by
 obtain⟨s,ys,hd,pr,hl⟩:=h;refine⟨s,ys,hd,?_,by lia⟩
 rw[vW,if_neg hn,List.append_nil];exact pr
theorem vV.push(h:vV L p H D i H2)(hD:H D=none)(hr:L i=i)(s:aq H2 H3)(hb:H2 b=none)(hb3:H3 b=some (.lst (bf (pieceOf L p i)))):
 ∃ ys,H3 D=some (.lst ys)/\ys.length<=i/\vV L p H D (i+1) (upd H3 D (.lst (ys++[.ref b]))):=by
 obtain⟨s2,ys,hd,pr,hl⟩:=h;have OD:=s _ _ hd;have hbD:b≠D:=fun e=>by rw[e,hd]at hb;cases hb
 refine⟨ys,OD,hl,(s2.trans s).put hD,ys++[.ref b],aj,?_,by rw[List.length_append,List.length_singleton];lia⟩
 rw[vW,if_pos hr,List.map_append];refine Paired.snoc (Paired.imp' (fun _ _ ⟨e,he,hn,h0,q⟩=>⟨e,he,hn,h0,by rw[aQ hn];exact s _ _ q⟩) pr) ?_
 exact⟨b,rfl,hbD,s2.free hb,by rw[aQ hbD];exact hb3⟩
end
def uz(p:Nat)(ts:List dU)(g:aL p ts)(ks:List Nat):Nat->Nat:=ks.foldl (fun L k=>RM.join L (g.N.a k) (g.N.b k)) fun x=>x
theorem C4{p:Nat}{ts:List dU}{g:aL p ts}{ks:List Nat}{k:Nat}:uz p ts g (ks++[k])=RM.join (uz p ts g ks) (g.N.a k) (g.N.b k):=by
 unfold uz;rw[List.foldl_append];rfl
def cA(p:Nat)(ts:List dU)(g:aL p ts)(m:Nat):Nat->Nat:=g.N.aY (fun k=>m.testBit k) ts.length
theorem C5{p:Nat}{ts:List dU}{g:aL p ts}{m:Nat}(hm:m<2^ts.length):uz p ts g (aS (m:Int))=cA p ts g m:=by
 unfold uz cA;rw[gK hm];exact yZ _
theorem Ke(a b:Nat):(if(b:Int)<(a:Int) then(b:Int) else(a:Int))=((min a b:Nat):Int):=by
 split<;>lia
theorem Kf(a b:Nat):(if(b:Int) > (a:Int) then(b:Int) else(a:Int))=((max a b:Nat):Int):=by
 split<;>lia
theorem mz(a b:Nat):decide (V.int (a:Int)=V.int (b:Int))=decide (a=b):=by
 rw[Bool.eq_iff_iff];simp
 lia
end Ring
namespace RM
variable {N:Net}{S:Nat->Bool}
variable {pt r j:Nat}{l:List Nat}
theorem HH{l:List Nat}:∀{p:Nat},l.Nodup->(∀ x∈l,x<p)->l.length<=p:=by
 intro p hn hl;have hp:l.Perm ((List.range p).filter fun x=>decide (x∈l)):=by
  refine(List.perm_ext_iff_of_nodup hn (List.Pairwise.filter _ List.nodup_range)).mpr fun a=>?_
  rw[List.mem_filter,List.mem_range];simp;exact fun h=>hl a h
 rw[hp.length_eq];have:=List.length_filter_le (fun x=>decide (x∈l)) (List.range p)
 rwa [List.length_range]at this
end RM
namespace Ring
open PySem L2
theorem vX(l:List Nat):bf l=(l.map fun x=>((x:Nat):Int)).map V.int:=by unfold bf;rw[List.map_map];rfl
theorem nM(u:Nat)(l:List Nat):JQ (.int (u:Int)) (bf l)=decide (u∈l):=by
 unfold JQ bf;rw[List.any_map,Bool.eq_iff_iff,List.any_eq_true];simp only[Function.comp,decide_eq_true_eq]
 constructor
 ·rintro⟨x,hx,h⟩;have e:((x:Nat):Int)=(u:Int):=eq_of_beq h;have:x=u:=by lia
  exact this▸hx
 ·intro h;exact⟨u,h,by simp[JP]⟩
theorem oX(l:List Nat):(bf l).all qO=true:=by
 unfold bf;rw[List.all_map,List.all_eq_true];intro x _;rfl
theorem and_int(a b:Nat):Builtin.bitAnd (a:Int) (b:Int)=((a&&&b:Nat):Int):=by
 rw[PyProof.Rows.bitAnd_pp (by lia) (by lia)]
 simp
theorem pM{c:Nat}:∀{n:Nat},c<n->(List.range n).filter (fun k=>decide (k=c))=[c]
 | 0,h=>absurd h (Nat.not_lt_zero _)
 | n+1,h=>by
   rw[bG]
   by_cases e:c=n
   ·subst e;have z:(List.range c).filter (fun k=>decide (k=c))=[]:=by
     rw[List.filter_eq_nil_iff];intro x hx;have:=List.mem_range.mp hx;simp
     lia
    rw[z];simp
   ·rw[pM (by lia)]
    simp[Ne.symm e]
theorem Ak{l:List Nat}{i:Nat}{k:Nat}(h:l[i]?=some k):(bf l)[i]?=some (.int (k:Int)):=by
 unfold bf;rw[List.getElem?_map,h];rfl
theorem HJ(l:List Nat):PyData.eqv (.list (l.map tu)) (.list (l.map tu))=true:=SeqAt.eqv_refl _ (by
 have e:(PyData.list (l.map tu)).canLay0=PyData.canLayAll0 (l.map tu):=by simp[PyData.canLay0]
 rw[e,vR])
def rz(f:Nat->Bool)(l:List Nat)(H:Hp)(D:Addr)(i:Nat)(acc:List V)(H2:Hp):Prop:=aq H H2/\H2 D=some (.lst acc)/\acc=bf ((l.take i).filter f)
section
variable {f:Nat->Bool}{l:List Nat}{H H2 H3:Hp}{D:Addr}{i k:Nat}{acc:List V}
theorem rz.start(hD:H D=none):rz f l H D 0 [] (upd H D (.lst [])):=⟨aq.new hD,aj,rfl⟩
theorem rz.len(p:rz f l H D i acc H2):H2 D=some (.lst acc)/\acc.length<=i:=by
 refine⟨p.2.1,?_⟩;rw[p.2.2,bw];exact Nat.le_trans (List.length_filter_le _ _) (by rw[List.length_take];lia)
theorem rz.yes(p:rz f l H D i acc H2)(hD:H D=none)(s:aq H2 H3)(hk:l[i]?=some k)(hf:f k=true):H3 D=some (.lst acc)/\rz f l H D (i+1) (acc++[.int (k:Int)]) (upd H3 D (.lst (acc++[.int (k:Int)]))):=by
 refine⟨s _ _ p.2.1,(p.1.trans s).put hD,aj,?_⟩;rw[List.take_add_one,hk,List.filter_append];show _=bf (_++[k].filter f);rw[List.filter_cons,if_pos hf,List.filter_nil,ql,<-p.2.2]
theorem rz.no(p:rz f l H D i acc H2)(s:aq H2 H3)(hk:l[i]?=some k)(hf:f k=false):rz f l H D (i+1) acc H3:=by
 refine⟨p.1.trans s,s _ _ p.2.1,?_⟩;rw[List.take_add_one,hk,List.filter_append];show _=bf (_++[k].filter f);rw[List.filter_cons,if_neg (by rw[hf];simp),List.filter_nil,List.append_nil]
 exact p.2.2
theorem rz.fin(p:rz f l H D l.length acc H2):H2 D=some (.lst (bf (l.filter f))):=by rw[p.2.1,p.2.2,List.take_length]
end
def ye(f:Nat->Int)(l:List Nat)(H:Hp)(D:Addr)(i:Nat)(acc:List V)(H2:Hp):Prop:=aq H H2/\H2 D=some (.lst acc)/\acc=((l.take i).map f).map V.int
section
variable {f:Nat->Int}{l:List Nat}{H H2 H3:Hp}{D:Addr}{i k:Nat}{acc:List V}{v:V}
theorem ye.start(hD:H D=none):ye f l H D 0 [] (upd H D (.lst [])):=⟨aq.new hD,aj,rfl⟩
theorem ye.len(p:ye f l H D i acc H2):H2 D=some (.lst acc)/\acc.length<=i:=by
 refine⟨p.2.1,?_⟩;rw[p.2.2,List.length_map,List.length_map,List.length_take]
 lia
theorem ye.next(p:ye f l H D i acc H2)(hD:H D=none)(s:aq H2 H3)(hk:l[i]?=some k)(hv:v = .int (f k)):H3 D=some (.lst acc)/\ye f l H D (i+1) (acc++[v]) (upd H3 D (.lst (acc++[v]))):=by
 refine⟨s _ _ p.2.1,(p.1.trans s).put hD,aj,?_⟩;rw[List.take_add_one,hk,List.map_append,List.map_append,<-p.2.2,hv];rfl
theorem ye.fin(p:ye f l H D l.length acc H2):H2 D=some (.lst ((l.map f).map V.int)):=by rw[p.2.1,p.2.2,List.take_length]
end
end Ring
namespace RM
theorem vY(f:Nat->Bool):∀ n,cy f n=decide (cnt f n%2=1)
 | 0=>rfl
 | n+1=>by
   unfold cy cnt;rw[vY f n]
   by_cases h:f n=true
   ·rw[h,if_pos rfl]
    by_cases q:cnt f n%2=1
    ·have q' : ¬(cnt f n+1)%2=1:=by lia
     simp[q,q']
    ·have q' : (cnt f n+1)%2=1:=by lia
     simp[q,q']
   ·have h' : f n=false:=by simpa using h
    rw[h',if_neg (by decide)]
    simp
end RM
namespace Ring
open PySem L2
def lenOf(ts:List dU)(m:Nat):Int:=((aS (m:Int)).map fun k=>(bO ts k).2.2).sum
def Fj(ts:List dU)(f:Nat->Bool):Nat->Int
 | 0=>0
 | n+1=>Fj ts f n+(if f n=true then(bO ts n).2.2 else 0)
theorem uA(ts:List dU)(f:Nat->Bool):∀ n,(((List.range n).filter f).map fun k=>(bO ts k).2.2).sum=Fj ts f n
 | 0=>rfl
 | n+1=>by
   rw[bG,List.map_append,List.sum_append,uA ts f n];show _=Fj ts f n+(if f n=true then(bO ts n).2.2 else 0)
   split<;>simp
theorem Fl{ts:List dU}{m:Nat}(hm:m<2^ts.length):lenOf ts m=Fj ts (fun k=>m.testBit k) ts.length:=by
 unfold lenOf;rw[gK hm];exact uA ts _ _
section
variable {p:Nat}{ts:List dU}(g:aL p ts)
include g
end
end Ring
namespace RM
def sm(f:Nat->Nat):Nat->Nat
 | 0=>0
 | n+1=>sm f n+f n
theorem gM{f g:Nat->Nat}:∀{n:Nat},(∀ k,k<n->f k=g k)->sm f n=sm g n
 | 0,_=>rfl
 | n+1,h=>by
   show sm f n+f n=sm g n+g n;rw[gM fun k hk=>h k (by lia),h n (by lia)]
theorem tD(f g:Nat->Nat):∀ n,sm (fun k=>f k+g k) n=sm f n+sm g n
 | 0=>rfl
 | n+1=>by
   show sm (fun k=>f k+g k) n+(f n+g n)=sm f n+f n+(sm g n+g n)
   rw[tD f g n]
   lia
theorem vm:∀ n,sm (fun _=>0) n=0
 | 0=>rfl
 | n+1=>by
   show sm (fun _=>0) n+0=0
   rw[vm n]
theorem Ew(f:Nat->Nat->Nat)(n:Nat):∀ p,sm (fun x=>sm (fun k=>f x k) n) p=sm (fun k=>sm (fun x=>f x k) p) n
 | 0=>(vm n).symm
 | p+1=>by
   show sm (fun x=>sm (fun k=>f x k) n) p+sm (fun k=>f p k) n=sm (fun k=>sm (fun x=>f x k) p+f p k) n
   rw[Ew f n p,tD]
theorem jh(f:Nat->Bool):∀ n,cnt f n=sm (fun k=>if f k=true then 1 else 0) n
 | 0=>rfl
 | n+1=>by
   show cnt f n+(if f n=true then 1 else 0)=sm (fun k=>if f k=true then 1 else 0) n+(if f n=true then 1 else 0)
   rw[jh f n]
theorem Ex{f g:Nat->Nat}:∀{n:Nat},(∀ k,k<n->f k<=g k)->sm f n<=sm g n
 | 0,_=>Nat.le_refl _
 | n+1,h=>by
   have h1:=Ex (f:=f) (g:=g) (n:=n) fun k hk=>h k (by lia)
   have h2:=h n (by lia)
   show sm f n+f n<=sm g n+g n
   lia
theorem HK{f g:Nat->Nat}{n:Nat}(h:∀ k,k<n->f k<=g k)(e:sm f n=sm g n):∀ k,k<n->f k=g k:=by
 induction n with
 | zero=>exact fun k hk=>absurd hk (Nat.not_lt_zero _)
 | succ n ih =>
   intro k hk;have h1:=Ex (f:=f) (g:=g) (n:=n) fun k hk=>h k (by lia)
   have h2:=h n (by lia)
   have e:sm f n+f n=sm g n+g n:=e
   by_cases hkn:k=n
   ·subst hkn
    lia
   ·exact ih (fun j hj=>h j (by lia)) (by lia) k (by lia)
theorem Mz{f g:Nat->Bool}{n:Nat}(h:∀ k,k<n->f k=true->g k=true):cnt f n<=cnt g n:=by
 rw[jh,jh];refine Ex fun k hk=>?_
 by_cases hf:f k=true
 ·rw[if_pos hf,if_pos (h k hk hf)];exact Nat.le_refl _
 ·rw[if_neg hf];exact Nat.zero_le _
theorem HL{f g:Nat->Bool}{n:Nat}(h:∀ k,k<n->f k=true->g k=true)(e:cnt f n=cnt g n):∀ k,k<n->g k=true->f k=true:=fun k hk hg=>by
 rw[jh,jh]at e;have q:=HK (n:=n) (fun k hk=>by
  by_cases hf:f k=true
  ·rw[if_pos hf,if_pos (h k hk hf)];exact Nat.le_refl _
  ·rw[if_neg hf];exact Nat.zero_le _) e k hk
 rw[if_pos hg]at q
 by_cases hf:f k=true
 ·exact hf
 ·rw[if_neg hf]at q
  lia
theorem nN{f:Nat->Bool}:∀{n:Nat},0<cnt f n->∃ k,k<n/\f k=true
 | 0,h=>absurd h (Nat.lt_irrefl _)
 | n+1,h=>by
   by_cases hf:f n=true
   ·exact⟨n,by lia,hf⟩
   ·have h:0<cnt f n+(if f n=true then 1 else 0):=h
    rw[if_neg hf]at h;obtain⟨k,hk,q⟩:=nN (f:=f) (n:=n) (by lia)
    exact⟨k,by lia,q⟩
theorem oY{f:Nat->Bool}{k:Nat}(hf:f k=true):∀{n:Nat},k<n->0<cnt f n
 | 0,h=>absurd h (Nat.not_lt_zero _)
 | n+1,h=>by
   show 0<cnt f n+(if f n=true then 1 else 0)
   by_cases hk:k=n
   ·subst hk;rw[if_pos hf]
    lia
   ·have:=oY hf (n:=n) (by lia)
    lia
theorem mC{f:Nat->Bool}:∀{n:Nat},2<=cnt f n->∃ c d,c<d/\d<n/\f c=true/\f d=true
 | 0,h=>absurd h (by show ¬ 2<=0;lia)
 | n+1,h=>by
   have h:2<=cnt f n+(if f n=true then 1 else 0):=h
   by_cases hf:f n=true
   ·rw[if_pos hf]at h;obtain⟨k,hk,q⟩:=nN (f:=f) (n:=n) (by lia)
    exact⟨k,n,hk,by lia,q,hf⟩
   ·rw[if_neg hf]at h;obtain⟨c,d,h1,h2,h3,h4⟩:=mC (f:=f) (n:=n) (by lia)
    exact⟨c,d,h1,by lia,h3,h4⟩
theorem vn{f:Nat->Bool}{u v:Nat}(hu:f u=true)(hv:f v=true)(ne:u≠v):∀{n:Nat},u<n->v<n->2<=cnt f n
 | 0,h,_=>absurd h (Nat.not_lt_zero _)
 | n+1,h1,h2=>by
   show 2<=cnt f n+(if f n=true then 1 else 0)
   by_cases e1:u=n
   ·subst e1;have:=oY hv (n:=u) (by lia)
    rw[if_pos hu]
    lia
   ·by_cases e2:v=n
    ·subst e2;have:=oY hu (n:=v) (by lia)
     rw[if_pos hv]
     lia
    ·have:=vn hu hv ne (n:=n) (by lia) (by lia)
     lia
theorem Al(a:Nat):∀ n,cnt (fun x=>decide (a=x)) n=if a<n then 1 else 0
 | 0=>rfl
 | n+1=>by
   show cnt (fun x=>decide (a=x)) n+(if decide (a=n)=true then 1 else 0)=_
   rw[Al a n]
   by_cases e:a=n
   ·subst e;simp
   ·have d:(if decide (a=n)=true then 1 else 0)=0:=if_neg (by simpa using e)
    rw[d]
    by_cases h:a<n
    ·rw[if_pos h,if_pos (by lia)]
    ·rw[if_neg h,if_neg (by lia)]
theorem Am{f g:Nat->Bool}:∀{n:Nat},(∀ x,x<n->¬(f x=true/\g x=true))->cnt (fun x=>f x^^g x) n=cnt f n+cnt g n
 | 0,_=>rfl
 | n+1,h=>by
   show cnt (fun x=>f x^^g x) n+(if(f n^^g n)=true then 1 else 0)=cnt f n+(if f n=true then 1 else 0)+(cnt g n+(if g n=true then 1 else 0))
   rw[Am fun x hx=>h x (by lia)]
   have q:=h n (by lia)
   cases hf:f n<;>cases hg:g n
   ·simp
   ·simp
    lia
   ·simp
    lia
   ·exact absurd ⟨hf,hg⟩ q
variable {N:Net}
def Net.dg(N:Net)(m x:Nat):Nat:=cnt (fun k=>m.testBit k&&N.inc k x) N.n
theorem HM(m x:Nat):N.bd m x=decide (N.dg m x%2=1):=vY _ _
theorem rA{m x:Nat}(e:N.lD m)(hx:x<N.p):N.dg m x%2=0:=by
 have h:=e x hx;rw[HM]at h;have:=of_decide_eq_false h
 lia
theorem jm{k x:Nat}(hk:k<N.n):N.inc k x=true↔(N.a k=x\/N.b k=x):=by
 have ne:=N.ne k hk;unfold Net.inc
 by_cases h1:N.a k=x
 ·have h2 : ¬ N.b k=x:=fun z=>ne (h1.trans z.symm)
  simp[h1,h2]
 ·by_cases h2:N.b k=x
  ·simp[h1,h2]
  ·simp[h1,h2]
theorem Kg{k:Nat}(hk:k<N.n):cnt (N.inc k) N.p=2:=by
 have ne:=N.ne k hk;have e:cnt (N.inc k) N.p=cnt (fun x=>decide (N.a k=x)^^decide (N.b k=x)) N.p:=rfl
 rw[e,Am fun x _ ⟨h1,h2⟩=>ne ((mX h1).trans (mX h2).symm),Al,Al,if_pos (N.al k hk),if_pos (N.bl k hk)]
theorem C6(m:Nat):sm (fun x=>N.dg m x) N.p=2*cnt (fun k=>m.testBit k) N.n:=by
 have e:sm (fun x=>N.dg m x) N.p=sm (fun x=>sm (fun k=>if(m.testBit k&&N.inc k x)=true then 1 else 0) N.n) N.p:=gM fun x _=>jh _ _
 rw[e,Ew,jh];have d:∀ n,2*sm (fun k=>if m.testBit k=true then 1 else 0) n=sm (fun k=>(if m.testBit k=true then 1 else 0)+(if m.testBit k=true then 1 else 0)) n:=fun n=>by
  rw[tD]
  lia
 rw[d];refine gM fun k hk=>?_
 by_cases h:m.testBit k=true
 ·rw[if_pos h];have q:=Kg hk;rw[jh]at q;show _=2;exact(gM fun x _=>by rw[h,Bool.true_and]).trans q
 ·rw[if_neg h];have h' : m.testBit k=false:=by simpa using h
  have:sm (fun x=>if(m.testBit k&&N.inc k x)=true then 1 else 0) N.p=sm (fun _=>0) N.p:=gM fun x _=>by rw[h'];rfl
  rw[this,vm]
theorem Lf{q m:Nat}(h:∀ k,q.testBit k=true->m.testBit k=true)(x:Nat):N.dg q x<=N.dg m x:=Mz fun k _ hq=>by
 rw[Bool.and_eq_true]at hq ⊢;exact⟨h k hq.1,hq.2⟩
theorem y9{m k x:Nat}(hk:k<N.n)(hb:m.testBit k=true)(hx:N.a k=x\/N.b k=x):0<N.dg m x:=oY (k:=k) (by rw[hb,Bool.true_and];exact(jm hk).mpr hx) hk
theorem An{m x:Nat}(h:0<N.dg m x):∃ k,k<N.n/\m.testBit k=true/\(N.a k=x\/N.b k=x):=by
 obtain⟨k,hk,q⟩:=nN h;rw[Bool.and_eq_true]at q;exact⟨k,hk,q.1,(jm hk).mp q.2⟩
theorem alone{m x y:Nat}(h:N.dg m x=0)(c:N.my (fun k=>m.testBit k) N.n x y):y=x:=by
 induction c with
 | refl=>rfl
 | fwd _ hj hs ih=>exact absurd (y9 hj hs (.inl ih)) (by lia)
 | bwd _ hj hs ih=>exact absurd (y9 hj hs (.inr ih)) (by lia)
theorem Fo{S:Nat->Bool}{k u v:Nat}(hk:k<=N.n)(c:N.my S k u v):∃ t,(∀ j,t.testBit j=true->j<k/\S j=true)/\∀ x,N.bd t x=(decide (u=x)^^decide (v=x)):=by
 induction c with
 | refl=>exact⟨0,fun j hj=>by simp at hj,fun x=>by rw[Es];simp⟩
 | fwd _ hj hs ih =>
   rename_i j _
   obtain⟨t,h1,h2⟩:=ih;refine⟨t^^^2^j,fun i hi=>?_,fun x=>?_⟩
   ·rw[Nat.testBit_xor,Nat.testBit_two_pow]at hi
    by_cases e:j=i
    ·subst e;exact⟨hj,hs⟩
    ·rw[h8 e,Bool.xor_false]at hi;exact h1 i hi
   ·rw[j4,h2,nK (by lia)]
    unfold Net.inc;cases decide (u=x)<;>cases decide (N.a j=x)<;>cases decide (N.b j=x)<;>rfl
 | bwd _ hj hs ih =>
   rename_i j _
   obtain⟨t,h1,h2⟩:=ih;refine⟨t^^^2^j,fun i hi=>?_,fun x=>?_⟩
   ·rw[Nat.testBit_xor,Nat.testBit_two_pow]at hi
    by_cases e:j=i
    ·subst e;exact⟨hj,hs⟩
    ·rw[h8 e,Bool.xor_false]at hi;exact h1 i hi
   ·rw[j4,h2,nK (by lia)]
    unfold Net.inc;cases decide (u=x)<;>cases decide (N.a j=x)<;>cases decide (N.b j=x)<;>rfl
def Net.Ring(N:Net)(m:Nat):Prop:=m≠0/\N.lD m/\∀ q,(∀ k,q.testBit k=true->m.testBit k=true)->N.lD q->q=0\/q=m
section
variable {m s:Nat}
theorem Kh(hm:m<2^N.n)(ev:N.lD m)(C:Nat->Bool)(hC:∀ x,x<N.p->C x=decide (N.aY (fun k=>m.testBit k) N.n x=s))(h2:2<=cnt C N.p)
 (Tv:∀ k,k<N.n->m.testBit k=true->C (N.a k)=true) (hl:cnt C N.p=cnt (fun k=>m.testBit k) N.n):N.Ring m:=by
 have Lg:∀ k,k<N.n->m.testBit k=true->C (N.a k)=true/\C (N.b k)=true:=fun k hk hb=>by
  have h:=Tv k hk hb;refine⟨h,?_⟩;rw[hC _ (N.al k hk)]at h;rw[hC _ (N.bl k hk)];rw[j6 (S:=fun k=>m.testBit k) hk hb]at h
  exact h
 have pos:∀ x,x<N.p->C x=true->0<N.dg m x:=fun x hx hc=>by
  cases hz:N.dg m x with
  | succ d=>lia
  | zero =>
    exfalso
    obtain⟨y,hy,Lh,hne⟩:∃ y,y<N.p/\C y=true/\y≠x:=by
     obtain⟨c,d,h1,h3,h4,h5⟩:=mC h2
     by_cases e:c=x
     ·exact⟨d,h3,h5,by lia⟩
     ·exact⟨c,by lia,h4,e⟩
    rw[hC x hx]at hc;rw[hC y hy]at Lh;exact hne (alone hz (cN _ _ _ ((mX hc).trans (mX Lh).symm)))
 have two:∀ x,x<N.p->(if C x=true then 2 else 0)=N.dg m x:=by
  refine HK (fun x hx=>?_) ?_
  ·by_cases hc:C x=true
   ·rw[if_pos hc];have h1:=pos x hx hc;have h3:=rA ev hx
    lia
   ·rw[if_neg hc];exact Nat.zero_le _
  ·rw[C6,<-hl,jh];have d:∀ n,2*sm (fun k=>if C k=true then 1 else 0) n=sm (fun k=>(if C k=true then 1 else 0)+(if C k=true then 1 else 0)) n:=fun n=>by
    rw[tD]
    lia
   rw[d];exact gM fun x _=>by split<;>rfl
 obtain⟨c0,hc0,hcc⟩:=nN (f:=C) (n:=N.p) (by lia)
 refine⟨fun z=>?_,ev,fun q hq eq=>?_⟩
 ·have h:=pos c0 hc0 hcc;obtain⟨k,_,hb,_⟩:=An h;rw[z]at hb;simp at hb
 ·by_cases hq0:q=0
  ·exact .inl hq0
  ·right
   have full:∀ x,x<N.p->0<N.dg q x->∀ k,k<N.n->m.testBit k=true->(N.a k=x\/N.b k=x)->q.testBit k=true:=fun x hx h k hk hb Jq=>by
    have h1:=Lf (N:=N) hq x;have h3:=rA eq hx;have h4:=two x hx;have h5:N.dg q x=N.dg m x:=by
     by_cases hc:C x=true
     ·rw[if_pos hc]at h4
      lia
     ·rw[if_neg hc]at h4
      lia
    have h6:=HL (f:=fun k=>q.testBit k&&N.inc k x) (g:=fun k=>m.testBit k&&N.inc k x) (n:=N.n) (fun k _ z=>by
     rw[Bool.and_eq_true]at z ⊢;exact⟨hq k z.1,z.2⟩) h5 k hk (by rw[hb,Bool.true_and];exact(jm hk).mpr Jq)
    rw[Bool.and_eq_true]at h6;exact h6.1
   obtain⟨k0,hb0⟩:∃ k,q.testBit k=true:=Nat.exists_testBit_of_ne_zero hq0;have hk0:k0<N.n:=eV hm (hq k0 hb0);have spread:∀{y},N.my (fun k=>m.testBit k) N.n (N.a k0) y->0<N.dg q y:=fun {y} c=>by
    induction c with
    | refl=>exact y9 hk0 hb0 (.inl rfl)
    | fwd _ hj hs ih=>exact y9 hj (full _ (N.al _ hj) ih _ hj hs (.inl rfl)) (.inr rfl)
    | bwd _ hj hs ih=>exact y9 hj (full _ (N.bl _ hj) ih _ hj hs (.inr rfl)) (.inl rfl)
   refine Nat.eq_of_testBit_eq fun k=>?_
   cases hb:m.testBit k with
   | false =>
     cases hz:q.testBit k with
     | false=>rfl
     | true =>
       have:=hq k hz;rw[hb]at this;cases this
   | true =>
     have hk:=eV hm hb;have e1:=(Lg k hk hb).1;have e2:=(Lg k0 hk0 (hq k0 hb0)).1;rw[hC _ (N.al k hk)]at e1;rw[hC _ (N.al k0 hk0)]at e2;exact full _ (N.al k hk) (spread (cN _ _ _ ((mX e2).trans (mX e1).symm))) k hk hb (.inl rfl)
theorem vZ(hm:m<2^N.n)(r:N.Ring m):∃ k0,k0<N.n/\m.testBit k0=true/\∀ k,k<N.n->m.testBit k=true->N.aY (fun k=>m.testBit k) N.n (N.a k)=N.aY (fun k=>m.testBit k) N.n (N.a k0):=by
 obtain⟨h0,ev,mn⟩:=r;obtain⟨k0,hb0⟩:=Nat.exists_testBit_of_ne_zero h0;have hk0:=eV hm hb0;refine⟨k0,hk0,hb0,?_⟩;generalize hs:N.aY (fun k=>m.testBit k) N.n (N.a k0)=s
 have bit:∀ k,(Ring.maskOf (fun k=>m.testBit k&&decide (N.aY (fun k=>m.testBit k) N.n (N.a k)=s)) N.n).testBit k=(decide (k<N.n)&&(m.testBit k&&decide (N.aY (fun k=>m.testBit k) N.n (N.a k)=s))):=fun k=>Ring.rj _ k _
 have sub:∀ k,(Ring.maskOf (fun k=>m.testBit k&&decide (N.aY (fun k=>m.testBit k) N.n (N.a k)=s)) N.n).testBit k=true->m.testBit k=true:=fun k hk=>by
  rw[bit,Bool.and_eq_true,Bool.and_eq_true]at hk;exact hk.2.1
 have Tw:N.lD (Ring.maskOf (fun k=>m.testBit k&&decide (N.aY (fun k=>m.testBit k) N.n (N.a k)=s)) N.n):=fun x hx=>by
  have e:N.bd (Ring.maskOf (fun k=>m.testBit k&&decide (N.aY (fun k=>m.testBit k) N.n (N.a k)=s)) N.n) x=(decide (N.aY (fun k=>m.testBit k) N.n x=s)&&N.bd m x):=by
   unfold Net.bd;rw[<-jZ];refine bS fun k hk=>?_
   rw[bit,e7 hk,Bool.true_and];cases hb:m.testBit k with
   | false=>simp
   | true =>
     cases hi:N.inc k x with
     | false=>simp
     | true =>
       have el:N.aY (fun k=>m.testBit k) N.n (N.a k)=N.aY (fun k=>m.testBit k) N.n x:=by
        rcases(jm hk).mp hi with z|z
        ·rw[z]
        ·rw[<-z];exact j6 (S:=fun k=>m.testBit k) hk hb
       rw[el];simp
  rw[e,ev x hx,Bool.and_false]
 rcases mn _ sub Tw with q|q
 ·have:=bit k0;rw[q,hb0,hs,e7 hk0]at this;simp at this
 ·intro k hk hb;have h:=bit k;rw[q,hb,e7 hk]at h;exact mX (by simpa using h.symm)
theorem za(S:Nat->Bool):∀ k,k<=N.n->cnt (N.root S k) N.p+cnt (fun j=>S j && !decide (N.aY S j (N.a j)=N.aY S j (N.b j))) k=N.p
 | 0,_=>by
   show cnt (N.root S 0) N.p+0=N.p;rw[Et (f:=N.root S 0) fun x _=>e7 rfl]
   rfl
 | k+1,hk=>by
   have ih:=za S k (by lia)
   have st:=C3 (N:=N) (S:=S) (k:=k) (by lia)
   show cnt (N.root S (k+1)) N.p+(cnt (fun j=>S j && !decide (N.aY S j (N.a j)=N.aY S j (N.b j))) k+if(S k && !decide (N.aY S k (N.a k)=N.aY S k (N.b k)))=true then 1 else 0)=N.p
   lia
theorem BE(hm:m<2^N.n)(r:N.Ring m)(C:Nat->Bool)(hC:∀ x,x<N.p->C x=decide (N.aY (fun k=>m.testBit k) N.n x=s))
 (Tv:∀ k,k<N.n->m.testBit k=true->C (N.a k)=true):2<=cnt C N.p/\cnt C N.p=cnt (fun k=>m.testBit k) N.n/\∀ x,x<N.p->C x=false->N.aY (fun k=>m.testBit k) N.n x=x/\∀ y,N.aY (fun k=>m.testBit k) N.n y=x->y=x:=by
 obtain⟨h0,ev,mn⟩:=r;obtain⟨k0,hb0⟩:=Nat.exists_testBit_of_ne_zero h0;have hk0:=eV hm hb0;have Lg:∀ k,k<N.n->m.testBit k=true->C (N.a k)=true/\C (N.b k)=true:=fun k hk hb=>by
  have h:=Tv k hk hb;refine⟨h,?_⟩;rw[hC _ (N.al k hk)]at h;rw[hC _ (N.bl k hk),<-j6 (S:=fun k=>m.testBit k) hk hb]
  exact h
 have h2:2<=cnt C N.p:=vn (Lg k0 hk0 hb0).1 (Lg k0 hk0 hb0).2 (N.ne k0 hk0) (N.al k0 hk0) (N.bl k0 hk0);have none:∀ x,x<N.p->C x=false->N.dg m x=0:=fun x hx hc=>by
  cases hz:N.dg m x with
  | zero=>rfl
  | succ d =>
    exfalso
    obtain⟨k,hk,hb,Jq⟩:=An (N:=N) (m:=m) (x:=x) (by lia)
    rcases Jq with e|e
    ·have:=(Lg k hk hb).1;rw[e,hc]at this;cases this
    ·have:=(Lg k hk hb).2;rw[e,hc]at this;cases this
 have Fp:∀ x,x<N.p->C x=false->N.aY (fun k=>m.testBit k) N.n x=x/\∀ y,N.aY (fun k=>m.testBit k) N.n y=x->y=x:=fun x hx hc=>by
  have hz:=none x hx hc;have r1:N.aY (fun k=>m.testBit k) N.n x=x:=alone hz (cN _ _ _ (eG _ _).symm)
  exact⟨r1,fun y hy=>alone hz (cN _ _ _ (r1.trans hy.symm))⟩
 refine⟨h2,?_,Fp⟩;have pos:∀ x,x<N.p->C x=true->0<N.dg m x:=fun x hx hc=>by
  cases hz:N.dg m x with
  | succ d=>lia
  | zero =>
    exfalso
    obtain⟨y,hy,Lh,hne⟩:∃ y,y<N.p/\C y=true/\y≠x:=by
     obtain⟨c,d,h1,h3,h4,h5⟩:=mC h2
     by_cases e:c=x
     ·exact⟨d,h3,h5,by lia⟩
     ·exact⟨c,by lia,h4,e⟩
    rw[hC x hx]at hc;rw[hC y hy]at Lh;exact hne (alone hz (cN _ _ _ ((mX hc).trans (mX Lh).symm)))
 have ge:cnt C N.p<=cnt (fun k=>m.testBit k) N.n:=by
  have h:sm (fun x=>if C x=true then 2 else 0) N.p<=sm (fun x=>N.dg m x) N.p:=Ex fun x hx=>by
   by_cases hc:C x=true
   ·rw[if_pos hc];have h1:=pos x hx hc;have h3:=rA ev hx
    lia
   ·rw[if_neg hc];exact Nat.zero_le _
  rw[C6]at h;have d:sm (fun x=>if C x=true then 2 else 0) N.p=2*cnt C N.p:=by
   rw[jh];have d:∀ n,2*sm (fun k=>if C k=true then 1 else 0) n=sm (fun k=>(if C k=true then 1 else 0)+(if C k=true then 1 else 0)) n:=fun n=>by
    rw[tD]
    lia
   rw[d];exact gM fun x _=>by split<;>rfl
  lia
 refine Nat.le_antisymm ge (Nat.le_of_not_lt fun more=>?_)
 have Tz:=za (N:=N) (fun k=>m.testBit k) N.n (Nat.le_refl _)
 have hr:cnt (N.root (fun k=>m.testBit k) N.n) N.p+cnt C N.p=N.p+1:=by
  have hc0:=(Lg k0 hk0 hb0).1;rw[hC _ (N.al k0 hk0)]at hc0;have hs:=mX hc0;have zX:s<N.p:=by rw[<-hs];exact rh (N.al k0 hk0)
  have hss:N.aY (fun k=>m.testBit k) N.n s=s:=by rw[<-hs];exact eG _ _
  have e:cnt (N.root (fun k=>m.testBit k) N.n) N.p=cnt (fun x=>!C x^^decide (s=x)) N.p:=jy fun x hx=>by
   unfold Net.root;cases hc:C x with
   | false =>
     have ne : ¬ s=x:=fun z=>by
      have:=hC x hx;rw[hc,<-z,hss]at this;simp at this
     rw[e7 (Fp x hx hc).1,h8 ne];rfl
   | true =>
     have h:=hC x hx;rw[hc]at h;have h:=mX h.symm;rw[h];simp
  rw[e,Am fun x hx ⟨z1,z2⟩=>by
   have z2:=mX z2;have:=hC x hx;rw[<-z2,hss]at this;rw[<-z2,this]at z1;simp at z1,Al,if_pos zX]
  have:=rf C N.p
  lia
 have split:cnt (fun k=>m.testBit k) N.n=cnt (fun j=>m.testBit j && !decide (N.aY (fun k=>m.testBit k) j (N.a j)=N.aY (fun k=>m.testBit k) j (N.b j))) N.n+cnt (fun j=>m.testBit j&&decide (N.aY (fun k=>m.testBit k) j (N.a j)=N.aY (fun k=>m.testBit k) j (N.b j))) N.n:=by
  rw[<-Am fun x _ ⟨z1,z2⟩=>by
   rw[Bool.and_eq_true]at z1 z2;have:=z1.2;rw[z2.2]at this;cases this]
  refine jy fun k _=>?_
  cases m.testBit k<;>cases decide (N.aY (fun k=>m.testBit k) k (N.a k)=N.aY (fun k=>m.testBit k) k (N.b k))<;>rfl
 obtain⟨c,d,hcd,hd,hc1,hd1⟩:=mC (f:=fun j=>m.testBit j&&decide (N.aY (fun k=>m.testBit k) j (N.a j)=N.aY (fun k=>m.testBit k) j (N.b j))) (n:=N.n) (by lia)
 have whole:∀ j,j<N.n->(m.testBit j&&decide (N.aY (fun k=>m.testBit k) j (N.a j)=N.aY (fun k=>m.testBit k) j (N.b j)))=true->∀ i,m.testBit i=true->i<=j:=fun j hj h i hi=>by
  rw[Bool.and_eq_true]at h;obtain⟨t,t1,t2⟩:=Fo (Nat.le_of_lt hj) (cN _ _ _ (mX h.2));have own:(t^^^2^j).testBit j=true:=by
   rw[Nat.testBit_xor,Nat.testBit_two_pow,e7 rfl];cases hz:t.testBit j with
   | false=>rfl
   | true=>exact absurd (t1 j hz).1 (Nat.lt_irrefl _)
  have sub:∀ k,(t^^^2^j).testBit k=true->m.testBit k=true:=fun k hk=>by
   rw[Nat.testBit_xor,Nat.testBit_two_pow]at hk
   by_cases e:j=k
   ·subst e;exact h.1
   ·rw[h8 e,Bool.xor_false]at hk;exact(t1 k hk).2
  have Tw:N.lD (t^^^2^j):=fun x hx=>by
   rw[j4,t2,nK hj];unfold Net.inc;cases decide (N.a j=x)<;>cases decide (N.b j=x)<;>rfl
  rcases mn _ sub Tw with q|q
  ·rw[q]at own;simp at own
  ·rw[<-q,Nat.testBit_xor,Nat.testBit_two_pow]at hi
   by_cases e:j=i
   ·lia
   ·rw[h8 e,Bool.xor_false]at hi;exact Nat.le_of_lt (t1 i hi).1
 have h1:m.testBit d=true:=by
  rw[Bool.and_eq_true]at hd1;exact hd1.1
 have:=whole c (by lia) hc1 d h1
 lia
end
end RM
namespace Ring
open PySem L2
def eH(L:Nat->Nat)(p:Nat):List Nat:=(iL L p).filter fun s=>decide (1<(pieceOf L p s).length)
def MA(L:Nat->Nat)(p k:Nat):List Nat->Bool
 | [s]=>decide ((pieceOf L p s).length=k)
 | _=>false
def uB(p:Nat)(ts:List dU)(g:aL p ts)(m:Nat):Bool:=decide (vP p ts (m:Int)=[])&&MA (cA p ts g m) p (aS (m:Int)).length (eH (cA p ts g m) p)
theorem jA(L:Nat->Nat)(p s:Nat):(pieceOf L p s).length=RM.cnt (fun x=>decide (L x=s)) p:=RM.oS _ _
theorem rB{m n:Nat}(hm:m<2^n):(aS (m:Int)).length=RM.cnt (fun k=>m.testBit k) n:=by
 rw[gK hm];exact RM.oS _ _
theorem Fq{f:Nat->Bool}{n c:Nat}(hc:c<n)(h:∀ k,k<n->f k=decide (k=c)):(List.range n).filter f=[c]:=by
 rw[<-pM hc];exact List.filter_congr fun k hk=>h k (List.mem_range.mp hk)
theorem Ft{p:Nat}{ts:List dU}(g:aL p ts){m:Nat}(hm:m<2^ts.length):uB p ts g m=true↔g.N.Ring m:=by
 have eL:cA p ts g m=g.N.aY (fun k=>m.testBit k) g.N.n:=rfl
 have ep:g.N.p=p:=rfl
 constructor
 ·intro h;unfold uB at h;rw[Bool.and_eq_true]at h;obtain⟨h1,h2⟩:=h;have ev:=(BC g hm).mp (mX h1);unfold MA at h2
  split at h2
  ·rename_i s hs
   have h2:=mX h2;have hmem:s∈eH (cA p ts g m) p:=by rw[hs];exact List.mem_singleton.mpr rfl
   unfold eH at hmem;have hlen:=mX (List.mem_filter.mp hmem).2;refine RM.Kh (s:=s) hm ev (fun x=>decide (cA p ts g m x=s)) (fun x _=>by rw[eL]) ?_ (fun k hk hb=>?_) ?_
   ·rw[ep,<-jA];exact hlen
   ·
    have hak:=g.N.al k hk;have hbk:=g.N.bl k hk;have e:cA p ts g m (g.N.b k)=cA p ts g m (g.N.a k):=(RM.j6 (S:=fun k=>m.testBit k) hk hb).symm
    have hr:cA p ts g m (cA p ts g m (g.N.a k))=cA p ts g m (g.N.a k):=RM.eG _ _;have hlt:cA p ts g m (g.N.a k)<p:=RM.rh hak;have ht:cA p ts g m (g.N.a k)∈eH (cA p ts g m) p:=by
     unfold eH iL;refine List.mem_filter.mpr ⟨List.mem_filter.mpr ⟨List.mem_range.mpr hlt,e7 hr⟩,e7 ?_⟩;rw[jA];exact RM.vn (u:=g.N.a k) (v:=g.N.b k) (e7 rfl) (e7 e) (g.N.ne k hk) hak hbk
    rw[hs]at ht;exact e7 (List.mem_singleton.mp ht)
   ·rw[ep,<-jA,h2];exact rB hm
  ·cases h2
 ·intro r;obtain⟨k0,hk0,hb0,hall⟩:=RM.vZ hm r;generalize hs:g.N.aY (fun k=>m.testBit k) g.N.n (g.N.a k0)=s at hall
  obtain⟨h2,hl,Fp⟩:=RM.BE (s:=s) hm r (fun x=>decide (cA p ts g m x=s)) (fun x _=>by rw[eL]) (fun k hk hb=>e7 (hall k hk hb))
  have zX:s<p:=by rw[<-hs];exact RM.rh (g.N.al k0 hk0)
  have hss:cA p ts g m s=s:=by rw[eL,<-hs];exact RM.eG _ _
  have ht:eH (cA p ts g m) p=[s]:=by
   unfold eH iL;rw[List.filter_filter];refine Fq zX fun x hx=>?_
   by_cases e:x=s
   ·subst e;rw[e7 hss,jA,e7 rfl,Bool.and_true];exact e7 h2
   ·rw[h8 e]
    by_cases Jq:cA p ts g m x=x
    ·have hc:decide (cA p ts g m x=s)=false:=h8 (by rw[Jq];exact e)
     obtain⟨_,q⟩:=Fp x hx hc;have : ¬ 1<(pieceOf (cA p ts g m) p x).length:=fun z=>by
      rw[jA]at z;obtain⟨c,d,h1,_,h3,h4⟩:=RM.mC z;have h3:=q c (mX h3);have h4:=q d (mX h4)
      lia
     rw[h8 this,Bool.false_and]
    ·rw[h8 Jq,Bool.and_false]
  unfold uB;rw[e7 ((BC g hm).mpr r.2.1),ht,Bool.true_and];refine e7 ?_;rw[jA,rB hm];exact hl
theorem C7{p:Nat}{ts:List dU}{g:aL p ts}{m:Nat}(ev:vP p ts (m:Int)=[]):uB p ts g m=MA (cA p ts g m) p (aS (m:Int)).length (eH (cA p ts g m) p):=by
 unfold uB;rw[e7 ev,Bool.true_and]
theorem HN(u v:Bool):decide (V.bl u=V.bl v)=decide (u=v):=decide_eq_decide.mpr ⟨fun z=>V.bl.inj z,fun z=>by rw[z]⟩
def MB(H:Hp)(y:V)(l:List Nat):Prop:=∃ b,y = .ref b/\H b=some (.lst (bf l))
def wc(f:List Nat->Bool)(ls:List (List Nat))(H:Hp)(D:Addr)(i:Nat)(acc:List V)(H2:Hp):Prop:=aq H H2/\H2 D=some (.lst acc)/\Paired (MB H) acc ((ls.take i).filter f)
section
variable {f:List Nat->Bool}{ls:List (List Nat)}{H H2 H3:Hp}{D:Addr}{i:Nat}{acc:List V}{y:V}{l:List Nat}
theorem wc.start(hD:H D=none):wc f ls H D 0 [] (upd H D (.lst [])):=⟨aq.new hD,aj,.nil⟩
theorem wc.len(h:wc f ls H D i acc H2):H2 D=some (.lst acc)/\acc.length<=i:=⟨h.2.1,by
 rw[h.2.2.length];exact Nat.le_trans (List.length_filter_le _ _) (by rw[List.length_take];lia)⟩
theorem wc.yes(h:wc f ls H D i acc H2)(hD:H D=none)(hl:ls[i]?=some l)(hf:f l=true)(hy:MB H y l):H2 D=some (.lst acc)/\wc f ls H D (i+1) (acc++[y]) (upd H2 D (.lst (acc++[y]))):=by
 refine⟨h.2.1,h.1.put hD,aj,?_⟩;rw[List.take_add_one,hl,List.filter_append];show Paired _ _ (_++List.filter f [l]);rw[List.filter_cons,if_pos hf];exact Paired.snoc h.2.2 hy
theorem wc.no(h:wc f ls H D i acc H2)(hl:ls[i]?=some l)(hf:f l=false):wc f ls H D (i+1) acc H2:=by
 refine⟨h.1,h.2.1,?_⟩;rw[List.take_add_one,hl,List.filter_append];show Paired _ _ (_++List.filter f [l]);rw[List.filter_cons,if_neg (by rw[hf];exact Bool.false_ne_true)]
 simpa using h.2.2
end
end Ring
namespace L2
open PySem PySem.Spec PyProof.Rows
section
variable {prog:Program}{w:World}{A:Around}{E:gj}{s:Shared}
theorem Dc{it t:Addr}{i:Nat}{items:Array Value}{x:Value}{Q:gj}(hit:s.heap.IsTupleIter it t i)(ht:s.heap.IsTuple t items)(hx:items[i]?=some x)
 (q:∀ h',h'.IsTupleIter it t (i+1)->Heap.SameBut it s.heap h'->Q x { s with heap:=h'}):wpAny (model prog w) A (Builtin.SmallTypes.nextOf (.ref it)) Q E s:=by
 obtain⟨o,ho,hc,hd⟩:=id hit;obtain⟨ot,TF,_,nt,hdt⟩:=ht;rw[Builtin.SmallTypes.nextOf];refine dO (wpAny_callSpecial?_slot (name:=Str.ofString "__next__") hit.typeIs F.slot_tuple_iterator_next (wpAny_call_entry F.slot_tuple_iterator_next hit.typeIs F.entry_tuple_iterator_next ?_ (F.args_tuple_iterator_next_1 _)));show wpAny _ _ (field (.ref it) 0 >>= fun _=>_) _ _ s
 refine dO (wpAny_field ho hd (x:=.ref t) rfl ?_);show wpAny _ _ (if(Value.ref t==Value.none)=true then _ else _) _ _ s
 rw[if_neg (by simp)]
 show wpAny _ _ (field (.ref it) 1 >>= fun _=>_) _ _ s
 refine dO (wpAny_field ho hd (x:=.int i 0) rfl ?_);show wpAny _ _ (seqItems? (.ref t) >>= fun _=>_) _ _ s
 refine dO (wpAny_seqItems TF hdt ?_);simp only[Int.toNat_natCast,hx];refine dO (wpAny_setField ho hd (by simp) (wpAny_pure ⟨x,rfl,wpAny_pure (q _ ?_ (Heap.SameBut.update ..))⟩))
 refine⟨_,Heap.get?_update_self _ ho (Obj.isFreed_of_fields (Obj.data_mapFields hd _)),(Obj.cls_mapFields ..).trans hc,?_⟩;rw[Obj.data_mapFields hd];simp[rawInt]
theorem Fv{it t:Addr}{i:Nat}{items:Array Value}{Q:gj}(hh:A.handled=none)(hit:s.heap.IsTupleIter it t i)(ht:s.heap.IsTuple t items)(hx:items[i]?=none)
 (q:∀ h' e,Heap.ExtBut it s.heap h'->(∃ o,h'.get? e=some o/\o.cls = .type "StopIteration")->E (.ref e) { s with heap:=h'}):wpAny (model prog w) A (Builtin.SmallTypes.nextOf (.ref it)) Q E s:=by
 obtain⟨o,ho,hc,hd⟩:=id hit;obtain⟨ot,TF,_,nt,hdt⟩:=ht;rw[Builtin.SmallTypes.nextOf];refine dO (wpAny_callSpecial?_slot (name:=Str.ofString "__next__") hit.typeIs F.slot_tuple_iterator_next (wpAny_call_entry F.slot_tuple_iterator_next hit.typeIs F.entry_tuple_iterator_next ?_ (F.args_tuple_iterator_next_1 _)));show wpAny _ _ (field (.ref it) 0 >>= fun _=>_) _ _ s
 refine dO (wpAny_field ho hd (x:=.ref t) rfl ?_);show wpAny _ _ (if(Value.ref t==Value.none)=true then _ else _) _ _ s
 rw[if_neg (by simp)]
 show wpAny _ _ (field (.ref it) 1 >>= fun _=>_) _ _ s
 refine dO (wpAny_field ho hd (x:=.int i 0) rfl ?_);show wpAny _ _ (seqItems? (.ref t) >>= fun _=>_) _ _ s
 refine dO (wpAny_seqItems TF hdt ?_);simp only[Int.toNat_natCast,hx];refine dO (wpAny_rule (dO (wpAny_setField ho hd (by simp) ?_)))
 show wpAny _ _ (newExc (.type "StopIteration") [] >>= fun _=>_) _ _ _
 refine dO ?_;simp only[newExc,newTuple];refine dO (wpAny_newObj_type ?_ (by size_fits))
 refine dO (m:=firstArgMember _ _) (wpAny_of_eq (a:=Value.none) (by first | rfl | (simp only[firstArgMember];rfl)) (wpAny_newObj_type ?_ (by size_fits)))
 exact wpAny_raiseNew_none hh (q _ _ (((Heap.SameBut.update ..).extBut.push _).push _) ⟨_,Heap.get?_push_size _ rfl,rfl⟩)
theorem uC(hh:A.handled=none)(it t:Addr)(hne:t≠it)(items:Array Value):
 Draws prog w A it [it,t] items.size (fun i v=>items[i]?=some v) (fun i h=>h.IsTupleIter it t i/\h.IsTuple t items) where
 live:=fun _ _ st=>let⟨o,ho,_⟩:=st.1;⟨o,ho⟩
 frame:=fun _ _ _ st hk=>⟨st.1.at fun o e=>hk it (by simp) o e,st.2.at fun o e=>hk t (by simp) o e⟩
 item:=fun i s Q E hi st hQ=>Dc st.1 st.2 (x:=items[i]) (by simp[hi]) fun h' TH hs'=>hQ _ h' s.toks (by simp[hi]) ⟨TH,st.2.extBut hs'.extBut hne⟩ hs'
 done:=fun s Q E st hE=>Fv hh st.1 st.2 (by simp) hE
end
open AutoSeq1 (wpAny_loadPart') in
theorem tE(l:Addr)(items:Array Value)(n:Nat)(dct:Option Addr)(sl:Array (Option Value)):
 Meets (Builtin.«enumerate.__new__» ⟨[.type "enumerate",.ref l],[]⟩) (fun _ R s=>s.heap.get? l=some { cls:=.type "tuple",dict:=dct,data:=.seq items n,slots:=sl}/\
  R (.ok (.ret (.ref (s.heap.push { cls:=.type "tuple_iterator",data:=.fields #[.ref l,.int 0 0]}).objs.size)))
    { s with heap:=(s.heap.push { cls:=.type "tuple_iterator",data:=.fields #[.ref l,.int 0 0]}).push { cls:=.type "enumerate",data:=.fields #[.none,.bool false,.ref s.heap.objs.size,rawInt 0,.none,.none]}}) :=
 .of_wp fun prog w A R s h=>by
  obtain⟨hp,g,d,tk,os⟩:=s;obtain⟨hl,h⟩:=h;have hsub:=sub_enumerate;have hL:Heap.IsTuple (Shared.heap ⟨hp,g,d,tk,os⟩) l items:=⟨_,hl,rfl,n,rfl⟩
  wp_walk using wpAny_loadPart' hl
  refine wpAny_stack_any fun st=>wpAny_pure ?_
  split
  ·rename_i c _ _ _ _ _
   cases(c==Value.type "enumerate")
   ·wp_walk using wpAny_loadPart' hl,wpAny_pyIter_tuple hL
    exact⟨_,rfl,h⟩
   ·wp_walk using wpAny_loadPart' hl,wpAny_pyIter_tuple hL
    exact⟨_,rfl,h⟩
  ·wp_walk using wpAny_loadPart' hl,wpAny_pyIter_tuple hL
   exact⟨_,rfl,h⟩
section
variable {prog:Program}{w:World}{A:Around}{E:gj}{s:Shared}
theorem Dd{l:Addr}{items:Array Value}{Q:gj}(hL:s.heap.IsTuple l items)
 (h:∀ h',IsEnum h' (s.heap.objs.size+1) s.heap.objs.size 0 .none->h'.IsTupleIter s.heap.objs.size l 0->h'.objs.size=s.heap.objs.size+2->(∀ b o,s.heap.get? b=some o->h'.get? b=some o)->Q (.ref (s.heap.objs.size+1)) { s with heap:=h'}) :
 wpAny (model prog w) A (call (.type "enumerate") [.ref l]) Q E s:=by
 obtain⟨⟨c,dct,dt,sl⟩,hl,hc,n,hd⟩:=hL
 replace hc:c = .type "tuple":=hc
 replace hd:dt = .seq items n:=hd
 subst hc hd;refine callType_new F.called_enumerate (by decide) (F.typeCall_enumerate_1 _) (F.newCall_enumerate_1 _) (fun obj=>F.args_object_init_2 obj _) F.entry_enumerate_new (tE l items n dct sl) ⟨hl,?_⟩
 have hz:(s.heap.push { cls:=.type "tuple_iterator",data:=.fields #[.ref l,.int 0 0]}).objs.size=s.heap.objs.size+1:=Heap.size_push ..;show _/\_;rw[hz];have he:IsEnum ((s.heap.push { cls:=.type "tuple_iterator",data:=.fields #[.ref l,.int 0 0]}).push { cls:=.type "enumerate",data:=.fields #[.none,.bool false,.ref s.heap.objs.size,rawInt 0,.none,.none]}) (s.heap.objs.size+1) s.heap.objs.size 0 .none:=by
  have z:=Heap.get?_push_size (s.heap.push { cls:=.type "tuple_iterator",data:=.fields #[.ref l,.int 0 0]}) (o:={ cls:=.type "enumerate",data:=.fields #[.none,.bool false,.ref s.heap.objs.size,rawInt 0,.none,.none]}) rfl;rw[hz]at z;exact z
 exact⟨⟨_,he,rfl⟩,h _ he ⟨_,Heap.get?_push_of_some _ (Heap.get?_push_size _ rfl),rfl,rfl⟩ (by rw[Heap.size_push,hz]) fun b o x=>Heap.get?_push_of_some _ (Heap.get?_push_of_some _ x)⟩
end
def Fw(K:bI)(a:Addr):It :=
 ⟨fun i H=>∃ xs x,aT K H a xs/\xs[i]?=some x,fun i H v H'=>∃ T x,v = .ref T/\H T=none/\H' = upd H T (.tup [.int (i:Int),x])/\∀ xs,aT K H a xs->xs[i]?=some x,fun i H=>∃ xs,aT K H a xs/\xs.length=i⟩
theorem De{P:Program}{w:World}{K:bI}{elts:List Expr}{k:Nat}{pos:Pos}(a e it:Addr)(hne:e≠it):
 Turn P w K (.Tuple elts k pos) (Fw K a) [e,it] e (fun i h=>(∃ old,IsEnum h e it (i:Int) old)/\h.IsTupleIter it a i) where
 mem:=by simp
 obj:=fun i h st b hb=>by
  obtain⟨⟨old,he⟩,o,ho,c,d⟩:=st;have hb' : b=e\/b=it:=by simpa using hb
  rcases hb' with rfl|rfl
  ·exact⟨_,he,fun v z=>by cases z⟩
  ·exact⟨o,ho,fun v z=>by rw[d]at z;cases z⟩
 keep:=fun i h h' st k=>by
  obtain⟨⟨old,he⟩,hit⟩:=st;exact⟨⟨old,k e (by simp) _ he⟩,hit.at fun o x=>k it (by simp) o x⟩
 item:=by
  intro X hP hw hK hc i pq s σ H E I hf st hg;subst hP hw hK;obtain⟨xs,x,hq,hx⟩:=hg;obtain⟨its,rv,p,hz⟩:=I.tuple hq;obtain⟨u,hu,ru⟩:=rv.get hx;obtain⟨⟨old,he⟩,hit⟩:=st;have pT:s.heap.IsTuple a its.toArray:=p;have hai:a≠it:=fun z=>by
   obtain⟨o1,h1,_,_,d1⟩:=pT;obtain⟨o2,h2,_,d2⟩:=hit;rw[z,h2]at h1;cases h1;rw[d2]at d1;cases d1
  have hae:e∉[it,a]:=fun z=>by
   have z' : e=it\/e=a:=by simpa using z
   rcases z' with z' | z'
   ·exact hne z'
   ·obtain⟨o1,h1,_,_,d1⟩:=pT;rw[<-z',he]at h1;cases h1;cases d1
  refine wpAny_pyNext_enum_itemD (uC (A:=X.A.in1) (I.ok.hd hc) it a hai its.toArray) he ⟨hit,pT⟩ (by have:=(xZ.mp hu).1;simpa using this) hne hae fun y h1 tk hy ho TJ hT hsz hk=>?_
  have hyu:y=u:=by
   have z:its.toArray[i]?=some u:=by simpa using hu
   rw[hy]at z;exact Option.some.inj z
  subst hyu;refine⟨_,rfl,wpAny_letOwnedTupleGo_enum ho fun h2 he2 hs2=>?_⟩
  have hTe:s.heap.objs.size≠e:=Nat.ne_of_gt (Heap.lt_size he);have hT2:h2.get? s.heap.objs.size=some { cls:=.type "tuple",data:=.seq #[.int i tk,y]}:=(hs2.2 _ hTe).trans hT;refine⟨.ref s.heap.objs.size,upd H s.heap.objs.size (.tup [.int (i:Int),x]),I.yields (wr:=[e,it]) (t':=tk+1) (fun b o hb q=>?_) hf (Nat.le_refl _) ?_,rfl,⟨_,x,rfl,I.fresh,rfl,fun ys hy=>by rw[I.yI hy hq];exact hx⟩,⟨⟨y,by simpa using he2⟩,?_⟩,fun b hb=>?_⟩
  ·have J2:b≠e:=fun z=>hb (by simp[z])
   have OE:b≠it:=fun z=>hb (by simp[z])
   exact(hs2.2 b J2).trans (hk b o J2 OE q)
  ·exact⟨dl rfl,[.int i tk,y],.cons ⟨_,rfl⟩ (.cons ru .nil),⟨_,hT2,rfl,_,rfl⟩⟩
  ·exact TJ.1.at fun o q=>(hs2.2 it (Ne.symm hne)).trans q
  ·rw[aQ]
   ·exact(hf b hb).1
   ·have hb' : b=e\/b=it:=by simpa using hb
    rcases hb' with rfl|rfl
    ·exact Ne.symm hTe
    ·obtain⟨o,q,_⟩:=hit;exact Nat.ne_of_lt (Heap.lt_size q)
 done:=by
  intro X hP hw hK hc i pq s σ H E I hf st hg;subst hP hw hK;obtain⟨xs,hq,hx⟩:=hg;obtain⟨its,rv,p,hz⟩:=I.tuple hq;obtain⟨⟨old,he⟩,hit⟩:=st;have pT:s.heap.IsTuple a its.toArray:=p;have hai:a≠it:=fun z=>by
   obtain⟨o1,h1,_,_,d1⟩:=pT;obtain⟨o2,h2,_,d2⟩:=hit;rw[z,h2]at h1;cases h1;rw[d2]at d1;cases d1
  obtain⟨f0,f1,f2,f3,f4,f5⟩:=hf it (by simp)
  have hl:=rv.length;have hi:i=its.toArray.size:=by rw[List.size_toArray];lia
  subst hi;exact wpAny_pyNext_enum_endD (uC (A:=X.A.in1) (I.ok.hd hc) it a hai its.toArray) he ⟨hit,pT⟩ fun h' eb=>⟨rfl,I.turned (t':=s.toks) (fun b o hb e=>eb b o hb e) f0 f1 f3 f4 f5⟩
 self:=fun _ _ _ _ _ st h=>by
  obtain⟨⟨old,he⟩,_⟩:=st;exact wpAny_pyIter_enum he h
section
variable {X:Cx}{elts:List Expr}{n:Nat}{tp:Pos}
def MC(K:bI)(ta:TA):TI:=fun σ H R=>ta σ H fun vs H1=>∃ a,vs=[.ref a]/\(∃ xs,aT K H1 a xs)/\R (Fw K a) H1
theorem BF(K:bI){a:Expr}{ta:TA}{p pos:Pos}(hg:Gl X "enumerate")(hm:X.mg "enumerate"=none)(ha:PA X [a] ta)(hs:starEach [a] X.env=[(false,eval a X.env)]:=by rfl)(hK:X.K=K:=by rfl):
 PI X (.Tuple elts n tp) (.Call (.Name "enumerate" p) [a] [] pos) (MC K ta):=by
 subst hK;intro pq s σ H R I h;refine Call_ (lX I hg hm boot_enumerate (PyProof.Rows.callWith_type1 (fP (ha pos pq s σ H _ I h) fun us s1 ⟨vs,H1,I1,r1,q1⟩=>?_) hs rfl))
 obtain⟨a,e,⟨xs,hq⟩,q⟩:=q1;subst e;cases r1 with
 | cons r rr =>
   cases rr;cases r;obtain⟨its,rv,pl,hz⟩:=I1.tuple hq;refine Dd (show s1.heap.IsTuple a its.toArray from pl) fun h' he hit hsz hk=>?_
   have I2:Inv X pq σ H1 { s1 with heap:=h'}:=I1.kept (t':=s1.toks) hk
   refine wpAny_pyIter_enum he ⟨_,[s1.heap.objs.size+1,s1.heap.objs.size],_,_,H1,rfl,I2,De a _ _ (Nat.succ_ne_self _),⟨⟨_,he⟩,hit⟩,fun b hb=>?_,q⟩
   have hb' : b=s1.heap.objs.size+1\/b=s1.heap.objs.size:=by simpa using hb
   have hbs:s1.heap.objs.size<=b:=by
    rcases hb' with rfl|rfl
    ·exact Nat.le_succ _
    ·exact Nat.le_refl _
   exact I1.GI hbs (I1.hok.fresh hbs)
end
section
variable {K:bI}{a:Addr}{xs:List V}{g:TG}{tt:TT}{te:TE}{n:Nat}{fr:St}{D:Addr}{Q:Hp->Prop}{H1:Hp}
theorem Df(Pv:Nat->List V->Hp->Prop)(h0:Pv 0 [] H1)(hl:∀ i acc H,i<=xs.length->Pv i acc H->aT K H a xs/\H D=some (.lst acc)/\acc.length<=i)(hz:xs.length<=sizeLine)
 (hs:∀ i x T acc H,xs[i]?=some x->Pv i acc H->H T=none->g (.ref T) (List.replicate n none++fr) (upd H T (.tup [.int (i:Int),x])) fun σ2 H2=>σ2.drop n=fr/\tt σ2 H2 fun b H3 =>
  if b=true then te σ2 H3 fun v H4=>H4 D=some (.lst acc)/\Pv (i+1) (acc++[v]) (upd H4 D (.lst (acc++[v]))) else Pv (i+1) acc H3)
 (hd:∀ acc H,Pv xs.length acc H->Q H):jV (Fw K a) g tt te n fr D Q H1:=by
 refine⟨fun i m acc H=>m=xs.length-i/\i<=xs.length/\Pv i acc H,⟨xs.length,by simp,Nat.zero_le _,h0⟩,?_⟩
 rintro i m acc H ⟨rfl,hi,p⟩;obtain⟨q,hD,ha⟩:=hl i acc H hi p;refine⟨hD,?_⟩
 by_cases hlt:i<xs.length
 ·refine .inr ⟨⟨xs,xs[i],q,by simp[hlt]⟩,by lia,Pv (i+1),fun acc' H' p'=>⟨xs.length-(i+1),by lia,rfl,hlt,p'⟩,fun v H' y=>?_⟩
  obtain⟨T,x,rfl,hT,rfl,y⟩:=y;exact hs i x T acc _ (y xs q) p hT
 ·have e:i=xs.length:=by lia
  subst e;exact .inl ⟨⟨xs,q,rfl⟩,hd acc H p⟩
end
end L2
namespace RM
variable {N:Net}
def Net.cut(N:Net)(C:Nat->Bool):Nat:=Ring.maskOf (fun k=>C (N.a k)^^C (N.b k)) N.n
def Net.par(N:Net)(q m:Nat):Bool:=cy (fun k=>q.testBit k&&m.testBit k) N.n
theorem Ey(q r m:Nat):N.par (q^^^r) m=(N.par q m^^N.par r m):=by
 unfold Net.par;rw[<-jY];refine bS fun k _=>?_
 rw[Nat.testBit_xor];cases q.testBit k<;>cases r.testBit k<;>cases m.testBit k<;>rfl
theorem BG(m:Nat):N.par 0 m=false:=jx fun k _=>by simp
theorem Kl{k:Nat}(h:k<N.n)(m:Nat):N.par (2^k) m=m.testBit k:=by
 unfold Net.par;rw[qW h fun j _ hj=>by simp[Nat.testBit_two_pow,Ne.symm hj]]
 simp[Nat.testBit_two_pow]
theorem rC(C:Nat->Bool)(k:Nat):(N.cut C).testBit k=(decide (k<N.n)&&(C (N.a k)^^C (N.b k))):=Ring.rj _ k _
theorem MD(C:Nat->Bool):N.cut C<2^N.n:=Ring.Aj _ _
theorem Fx{C D:Nat->Bool}(h:∀ x,x<N.p->C x=D x):N.cut C=N.cut D:=by
 refine Nat.eq_of_testBit_eq fun k=>?_
 rw[rC,rC]
 by_cases hk:k<N.n
 ·rw[h _ (N.al k hk),h _ (N.bl k hk)]
 ·rw[h8 hk];rfl
theorem Km{q:Nat}(e:N.lD q)(C:Nat->Bool):N.par q (N.cut C)=false:=by
 have h:N.par q (N.cut C)=cy (fun x=>C x&&N.bd q x) N.p:=by
  have e1:cy (fun x=>C x&&N.bd q x) N.p=cy (fun x=>cy (fun k=>C x&&(q.testBit k&&N.inc k x)) N.n) N.p:=bS fun x _=>(jZ _ _ _).symm
  rw[e1,tw];unfold Net.par;refine bS fun k hk=>?_
  rw[rC,e7 hk,Bool.true_and];have e2:cy (fun x=>C x&&(q.testBit k&&N.inc k x)) N.p=(q.testBit k&&(C (N.a k)^^C (N.b k))):=by
   have e3:∀ x,(C x&&(q.testBit k&&N.inc k x))=((q.testBit k&&(C x&&decide (N.a k=x)))^^(q.testBit k&&(C x&&decide (N.b k=x)))):=fun x=>by
    unfold Net.inc;cases C x<;>cases q.testBit k<;>cases decide (N.a k=x)<;>cases decide (N.b k=x)<;>rfl
   rw[bS fun x _=>e3 x,jY,jZ,jZ,iq C (N.al k hk),iq C (N.bl k hk)]
   cases q.testBit k<;>rfl
  exact e2.symm
 rw[h];exact jx fun x hx=>by rw[e x hx,Bool.and_false]
theorem BH{k:Nat}(hk:k<N.n)(hf:N.Ah k=true):N.ring k=0:=jl (fun j hj=>by
 rcases qY hj with e|e
 ·subst e;exact⟨hk,hf⟩
 ·exact e) (oR hk)
theorem Fy{m:Nat}(k:Nat):(m^^^N.cut fun x=>N.par (N.trail N.n x) m).testBit k=if k<N.n then N.par (N.ring k) m else m.testBit k:=by
 rw[Nat.testBit_xor,rC]
 by_cases hk:k<N.n
 ·rw[if_pos hk,e7 hk,Bool.true_and];unfold Net.ring;rw[Ey,Ey,Kl hk];cases m.testBit k<;>cases N.par (N.trail N.n (N.a k)) m<;>cases N.par (N.trail N.n (N.b k)) m<;>rfl
 ·rw[if_neg hk,h8 hk];simp
theorem BI{m k:Nat}(hm:m<2^N.n)(h:(m^^^N.cut fun x=>N.par (N.trail N.n x) m).testBit k=true):k<N.n/\N.Ah k=false/\N.par (N.ring k) m=true:=by
 rw[Fy]at h
 by_cases hk:k<N.n
 ·rw[if_pos hk]at h;refine⟨hk,?_,h⟩;cases hf:N.Ah k with
  | false=>rfl
  | true =>
    rw[BH hk hf,BG]at h;cases h
 ·rw[if_neg hk]at h;exact absurd (eV hm h) hk
theorem Dg{m:Nat}(hm:m<2^N.n)(h:∀ k,k<N.n->N.Ah k=false->N.par (N.ring k) m=false):m=N.cut fun x=>N.par (N.trail N.n x) m:=by
 have z:(m^^^N.cut fun x=>N.par (N.trail N.n x) m)=0:=Nat.eq_of_testBit_eq fun k=>by
  rw[Nat.zero_testBit];cases hb:(m^^^N.cut fun x=>N.par (N.trail N.n x) m).testBit k with
  | false=>rfl
  | true =>
    obtain⟨h1,h2,h3⟩:=BI hm hb;rw[h k h1 h2]at h3;cases h3
 exact Nat.eq_of_testBit_eq fun k=>by
  have:=congrArg (fun q=>q.testBit k) z
  simp only[Nat.testBit_xor,Nat.zero_testBit]at this;cases h1:m.testBit k<;>cases h2:(N.cut fun x=>N.par (N.trail N.n x) m).testBit k
  ·rfl
  ·rw[h1,h2]at this;cases this
  ·rw[h1,h2]at this;cases this
  ·rfl
end RM
namespace Ring
def orM(ks:List Nat):Nat:=ks.foldl (fun m k=>m ||| 2^k) 0
theorem HP(ks:List Nat)(j:Nat):∀ m,(ks.foldl (fun m k=>m ||| 2^k) m).testBit j=(m.testBit j || decide (j∈ks)):=by
 induction ks with
 | nil=>intro m;simp
 | cons k r ih =>
   intro m;rw[List.foldl_cons,ih,Nat.testBit_or,Nat.testBit_two_pow]
   by_cases h:k=j
   ·subst h;simp
   ·have h' : ¬ j=k:=fun z=>h z.symm
    simp[h,h']
theorem Kn(ks:List Nat)(j:Nat):(orM ks).testBit j=decide (j∈ks):=by
 unfold orM;rw[HP];simp
theorem Dh(f:Nat->Bool)(n:Nat):orM ((List.range n).filter f)=maskOf f n:=Nat.eq_of_testBit_eq fun j=>by
 rw[Kn,rj,Bool.eq_iff_iff];simp
open PySem L2
theorem Ko{p:Nat}{ts:List dU}{g:aL p ts}{q m:Nat}(hm:m<2^ts.length):decide ((aS ((q&&&m:Nat):Int)).length%2=1)=g.N.par q m:=by
 rw[rB (n:=ts.length) (Nat.and_lt_two_pow q hm)];unfold RM.Net.par;rw[RM.vY];have e:RM.cnt (fun k=>(q&&&m).testBit k) ts.length=RM.cnt (fun k=>q.testBit k&&m.testBit k) g.N.n:=RM.jy fun k _=>by rw[Nat.testBit_and]
 rw[e]
def xorL(rs:List Nat):Nat:=rs.foldl (fun m r=>m^^^r) 0
theorem Fz(rs:List Nat):∀ m,rs.foldl (fun m r=>m^^^r) m=m^^^xorL rs:=by
 induction rs with
 | nil=>intro m;show m=m^^^0;simp
 | cons r rs ih =>
   intro m;show rs.foldl (fun m r=>m^^^r) (m^^^r)=m^^^rs.foldl (fun m r=>m^^^r) (0^^^r)
   rw[ih,ih,Nat.zero_xor,Nat.xor_assoc]
theorem xorL_cons(rs:List Nat)(r:Nat):xorL (r::rs)=r^^^xorL rs:=by
 show rs.foldl (fun m r=>m^^^r) (0^^^r)=_
 rw[Fz,Nat.zero_xor]
end Ring
namespace L2
open PySem PySem.Spec PyProof.Rows
section
variable {prog:Program}{w:World}{A:Around}{E:gj}{s:Shared}{T:String}{r d:Addr}{n:Nat}{P:Nat->Value->Prop}{OK:Heap->Prop}
theorem BJ{R:List Value->Shared->Prop}(K:PySem.W.KdlSrc prog w T r d n P OK)(hh:A.handled=none)(hok:OK s.heap)(hn:n<=sizeLine)
 (h:∀(h' : Heap) (tk:Nat) (acc:Array Value),(∀ b o,s.heap.get? b=some o->h'.get? b=some o)->s.heap.objs.size<h'.objs.size->ItemsOf P acc n->R acc.toList { s with heap:=h',toks:=tk}) :
 wpAny (model prog w) A (collect (.ref r)) R E s:=by
 have hlt:=K.there _ hok;unfold collect;refine dO (wpAny_runValue (codeAny_builtin PySem.F.entry_proto_collect ?_));rw[Around.under_plainId PySem.F.plain_proto_collect _];show wpAny _ A.in1 (newList [] >>= fun l=>again (.builtin "list.__iadd__" ⟨[l,.ref r],[]⟩)) _ _ s
 refine dO (wpAny_newObj_type ?_);refine wpAny_pure ⟨plainId_quiet PySem.F.plain_list_iadd _,codeAny_builtin PySem.F.entry_list_iadd ?_⟩;rw[Around.under_plainId PySem.F.plain_list_iadd _];have hS₁:(s.heap.push { cls:=.type "list",data:=.seq ([]:List Value).toArray}).get? s.heap.objs.size=some { cls:=.type "list",data:=.seq #[]}:=Heap.get?_push_size _ rfl;show wpAny _ A.in1 (Builtin.List.listExtendWith (.ref s.heap.objs.size) (.ref r) (.ref s.heap.objs.size)) _ _ _;have key:=PySem.W.kdl_extend (A:=A) (s:={ s with heap:=s.heap.push { cls:=.type "list",data:=.seq ([]:List Value).toArray}})
  (R:=fun(q:Result) (s' : Shared)=>∃(h' : Heap) (tk:Nat) (acc' : Array Value) (c' : Nat),q = .ok (.ret (.ref s.heap.objs.size))/\s' = { s with heap:=h',toks:=tk}/\
   (∀ b o,s.heap.get? b=some o->h'.get? b=some o)/\h'.get? s.heap.objs.size=some { cls:=.type "list",dict:=none,data:=.seq acc' c',slots:=#[]}/\ItemsOf P acc' n)
  K hh (K.keep _ _ hok fun b _ o e=>Heap.get?_push_of_some _ e) s.heap.objs.size (Nat.ne_of_gt hlt.1) (Nat.ne_of_gt hlt.2) (.ref s.heap.objs.size) 0 hS₁
  (fun h' tk acc' c' hk hS' hacc=>⟨h',tk,acc',c',rfl,rfl,fun b o e=>hk b o (Nat.ne_of_lt (Heap.lt_size e)) (Heap.get?_push_of_some _ e),hS',hacc⟩) hn
 refine wpAny_mono key (fun fin s' x=>?_) fun e s' x=>?_
 ·cases fin with
  | done f =>
    obtain⟨h',tk,acc',c',e,rfl,hk,hS',hacc⟩:=x;cases e;show wpAny _ A (load s.heap.objs.size >>= _) _ _ _;refine dO (wpAny_load hS' ?_);exact wpAny_pure (h h' tk acc' hk (Heap.lt_size hS') hacc)
  | again c₁ =>
    refine⟨x.1,codeAny_mono x.2 fun q s₂ y=>?_⟩
    obtain⟨h',tk,acc',c',rfl,rfl,hk,hS',hacc⟩:=y;show wpAny _ A (load s.heap.objs.size >>= _) _ _ _;refine dO (wpAny_load hS' ?_);exact wpAny_pure (h h' tk acc' hk (Heap.lt_size hS') hacc)
 ·obtain⟨_,_,_,_,e',_⟩:=x;cases e'
end
end L2
namespace RM
variable {N:Net}
theorem Di{S:Nat->Bool}{f:Nat->Bool}{k u v:Nat}(h:∀ j,j<k->f (N.a j)=f (N.b j))(c:N.my S k u v):f u=f v:=by
 induction c with
 | refl=>rfl
 | fwd _ hj _ ih=>exact ih.trans (h _ hj)
 | bwd _ hj _ ih=>exact ih.trans (h _ hj).symm
theorem FA{f:Nat->Bool}(h:∀ j,j<N.n->f (N.a j)=f (N.b j))(x:Nat):f x=f (N.ia N.n x) :=
 Di h (cN N.n x _ (eG N.n x).symm)
theorem Dj{r:Nat}(h:N.ia N.n r=r):N.trail N.n r=0:=jl (fun k hk=>lE N.n r k hk) fun x _=>by
 rw[qX N.n (Nat.le_refl _),h];cases decide (r=x)<;>rfl
theorem HQ(f:Nat->Bool):∀ n,cnt f n<=n:=fun n=>by have:=rf f n;lia
end RM
namespace Ring
open PySem L2
theorem wd{α β:Type}{F:α->β->Prop}:∀{l1 l2:List α} {r1 r2:List β},Paired F l1 r1->Paired F l2 r2->Paired F (l1++l2) (r1++r2)
 | _,_,_,_,.nil,h=>h
 | _,_,_,_,.cons a t,h=>.cons a (wd t h)
theorem Ao{α β:Type}{F:α->β->Prop}:∀{l:List α} {r:List β} (i:Nat),Paired F l r->Paired F (l.take i) (r.take i)
 | _,_,0,_=>by simp only[List.take_zero];exact .nil
 | _,_,i+1,.nil=>by simp only[List.take_nil];exact .nil
 | _,_,i+1,.cons a t=>.cons a (Ao i t)
theorem Aq{α β:Type}{F:α->β->Prop}:∀{l:List α} {r:List β} (i:Nat),Paired F l r->Paired F (l.drop i) (r.drop i)
 | _,_,0,h=>h
 | _,_,i+1,.nil=>by simp only[List.drop_nil];exact .nil
 | _,_,i+1,.cons _ t=>Aq i t
theorem OF(xs:List V)(a:Nat):pG xs none (some (a:Int))=xs.take a:=by
 unfold pG;rw[HT.vI,HT.vf,List.drop_zero,Nat.sub_zero]
 by_cases h:a<=xs.length
 ·rw[Nat.min_eq_left h]
 ·rw[Nat.min_eq_right (by lia),List.take_of_length_le (Nat.le_refl _),List.take_of_length_le (by lia)]
theorem cutD(xs:List V)(a:Nat):pG xs (some (a:Int)) none=xs.drop a:=by
 unfold pG;rw[HT.vI,HT.vf]
 by_cases h:a<=xs.length
 ·rw[Nat.min_eq_left h,List.take_of_length_le (by rw[List.length_drop];exact Nat.le_refl _)]
 ·rw[Nat.min_eq_right (by lia),List.drop_of_length_le (Nat.le_refl _),List.drop_of_length_le (by lia),List.take_nil]
end Ring
namespace L2
open PySem PySem.Spec PyProof.Rows
section
variable {X:Cx}
def Dk:R2:=fun x y H Q=>∃ a b xs ys,x = .ref a/\y = .ref b/\H a=some (.tup xs)/\H b=some (.tup ys)/\xs.length+ys.length<=sizeLine/\∀ p H',aq H H'->H' p=some (.tup (xs++ys))->Q (.ref p) H'
theorem Ez:mZ X (binaryOp .Add) Dk:=by
 intro pq s σ H x y v u Q I rx ry h;obtain⟨a,b,xs,ys,rfl,rfl,ha,hb,hz,q⟩:=h
 by_cases hx:xs=[]
 ·subst hx;cases rx;cases ry;obtain⟨its,r1,p1,_⟩:=I.tuple (aT.of ha);obtain⟨its2,r2,p2,_⟩:=I.tuple (aT.of hb);obtain⟨⟨cls,dd,data,sl⟩,ho,hc,n,hd⟩:=id p1;obtain⟨⟨NZ,dd2,data2,sl2⟩,ho2,hc2,n2,hd2⟩:=id p2;simp only at hc hd hc2 hd2;subst hc hd hc2 hd2;cases r1;exact concat_meets ⟨_,ho,rfl⟩ ⟨_,ho2,rfl⟩ noFill_tuple_add seq_tuple_add PySem.F.slot_tuple_add PySem.F.entry_tuple_add (PySem.F.args_tuple_add_2 _ _)
   (tuple_addW0 a b _ its2.toArray n n2 dd dd2 sl sl2 rfl) ⟨ho,ho2,⟨.ref b,H,I,rfl,q b H (aq.refl _) hb⟩⟩
 ·exact JL pq s σ H _ _ _ _ Q I rx ry ⟨a,b,xs,ys,rfl,rfl,aT.of ha,aT.of hb,hx,hz,fun z=>q a H (aq.refl _) (by rw[z,List.append_nil];exact ha),fun z p hp=>q p _ (aq.new hp) aj⟩
end
theorem FD{K:bI}{a:Addr}{xs:List V}{g:TG}{tb:TS}{D:Ends}{σ:St}{H:Hp}(Pv:Nat->St->Hp->Prop)(h0:Pv 0 σ H)(hl:∀ i σ H,i<=xs.length->Pv i σ H->aT K H a xs)
 (hs:∀ i x T σ H,xs[i]?=some x->Pv i σ H->H T=none->g (.ref T) σ (upd H T (.tup [.int (i:Int),x])) fun σ2 H2=>tb { D with nx:=Pv (i+1),ct:=Pv (i+1),bk:=D.nx} σ2 H2) (hd:∀ σ H,Pv xs.length σ H->D.nx σ H) :
 ∃ W:Nat->Nat->St->Hp->Prop,(∃ m,W 0 m σ H)/\∀ i m σ H,W i m σ H->
   ((Fw K a).stop i H/\D.nx σ H)\/((Fw K a).go i H/\∃ N:St->Hp->Prop,(∀ σ' H',N σ' H'->∃ m',m'<m/\W (i+1) m' σ' H')/\∀ x H',(Fw K a).Jm i H x H'->g x σ H' fun σ2 H2=>tb { D with nx:=N,ct:=N,bk:=D.nx} σ2 H2):=by
 refine⟨fun i m σ H=>m=xs.length-i/\i<=xs.length/\Pv i σ H,⟨xs.length,by simp,Nat.zero_le _,h0⟩,?_⟩
 rintro i m σ H ⟨rfl,hi,p⟩;have q:=hl i σ H hi p
 by_cases hlt:i<xs.length
 ·refine .inr ⟨⟨xs,xs[i],q,by simp[hlt]⟩,Pv (i+1),fun σ' H' p'=>⟨xs.length-(i+1),by lia,rfl,hlt,p'⟩,fun v H' y=>?_⟩
  obtain⟨T,x,rfl,hT,rfl,y1⟩:=y;exact hs i x T σ _ (y1 xs q) p hT
 ·have e:i=xs.length:=by lia
  subst e;exact .inl ⟨⟨xs,q,rfl⟩,hd σ H p⟩
end L2
namespace Ring
open PySem L2
def oV:Option Int->V
 | none=>.eS
 | some i=>.int i
abbrev Pr:=Option Int×Option Int
def sel(q:Pr)(u:Bool):Option Int:=if u=true then q.2 else q.1
def rD:Option Int->Option Int->Int->Bool
 | none,none,_=>true
 | none,some _,_=>false
 | some _,none,_=>false
 | some x,some y,l=>decide ((if x-y<0 then -(x-y) else x-y)<=l)
def cg(R:List Pr)(i:Nat):Pr:=R.getD i (none,none)
def Ar(R:List Pr)(t:dU)(u:Bool):Bool:=rD (cg R t.1.toNat).1 (sel (cg R t.2.1.toNat) u) t.2.2&&rD (cg R t.1.toNat).2 (sel (cg R t.2.1.toNat) (!u)) t.2.2
def HR(ts:List dU)(m i:Nat)(R:List Pr):Prop:=(cg R i).1=some 0/\∀ k,k<ts.length->Ar R (bO ts k) (m.testBit k)=true
def tF(p:Nat)(ts:List dU)(m:Nat)(W:List (List Pr)):Prop:=∀ i,i<p->HR ts m i (W.getD i [])
def fb(H:Hp)(x:V)(q:Pr):Prop:=∃ b,x = .ref b/\H b=some (.tup [oV q.1,oV q.2])
def RowW(H:Hp)(x:V)(R:List Pr):Prop:=∃ b ys,x = .ref b/\H b=some (.tup ys)/\Paired (fb H) ys R
def ff(H:Hp)(b:Addr)(W:List (List Pr)):Prop:=∃ ys,H b=some (.tup ys)/\Paired (RowW H) ys W
def Kp(p:Nat)(W:List (List Pr)):Prop:=W.length=p/\∀ R∈W,R.length=p
theorem fb.same{H H' : Hp}(s:aq H H'){x:V}{q:Pr}(h:fb H x q):fb H' x q:=let⟨b,e,z⟩:=h;⟨b,e,s _ _ z⟩
theorem RowW.same{H H' : Hp}(s:aq H H'){x:V}{R:List Pr}(h:RowW H x R):RowW H' x R:=let⟨b,ys,e,z,pr⟩:=h;⟨b,ys,e,s _ _ z,Paired.imp' (fun _ _ z=>z.same s) pr⟩
theorem ff.same{H H' : Hp}(s:aq H H'){b:Addr}{W:List (List Pr)}(h:ff H b W):ff H' b W:=let⟨ys,z,pr⟩:=h;⟨ys,s _ _ z,Paired.imp' (fun _ _ z=>z.same s) pr⟩
theorem fb.tups{H H' : Hp}(s:iU H H'){x:V}{q:Pr}(h:fb H x q):fb H' x q:=let⟨b,e,z⟩:=h;⟨b,e,s _ _ z⟩
theorem RowW.tups{H H' : Hp}(s:iU H H'){x:V}{R:List Pr}(h:RowW H x R):RowW H' x R:=let⟨b,ys,e,z,pr⟩:=h;⟨b,ys,e,s _ _ z,Paired.imp' (fun _ _ z=>z.tups s) pr⟩
theorem jB{α β:Type}{F:α->β->Prop}{l:List α}{r:List β}(pr:Paired F l r){i:Nat}(h:i<r.length)(d:β):∃ x,l[i]?=some x/\F x (r.getD i d):=by
 have hl:i<l.length:=by rw[pr.length];exact h
 obtain⟨y,hy,hf⟩:=Paired.vL pr (i:=i) (x:=l[i]) (by simp[hl])
 refine⟨l[i],by simp[hl],?_⟩
 rw[List.getD_eq_getElem?_getD,hy];exact hf
theorem RowW.at{H:Hp}{ys:List V}{R:List Pr}(pr:Paired (fb H) ys R){i:Nat}(h:i<R.length):∃ b,ys[i]?=some (.ref b)/\H b=some (.tup [oV (cg R i).1,oV (cg R i).2]):=by
 obtain⟨x,hx,b,rfl,hb⟩:=jB pr h (none,none);exact⟨b,hx,hb⟩
theorem EA(a:Option Int):decide (oV a=V.int 0)=decide (a=some 0):=by
 cases a with
 | none=>rw[Bool.eq_iff_iff];simp[oV]
 | some i=>rw[Bool.eq_iff_iff];simp[oV]
theorem vo(a:Option Int):decide (oV a=V.eS)=a.isNone:=by
 cases a with
 | none=>rfl
 | some i=>rw[Bool.eq_iff_iff];simp[oV]
theorem Kp.row{p:Nat}{W:List (List Pr)}(h:Kp p W){i:Nat}(hi:i<p):(W.getD i []).length=p:=by
 have hl:i<W.length:=by rw[h.1];exact hi
 rw[List.getD_eq_getElem?_getD];simp only[hl,List.getElem?_eq_getElem,Option.getD_some];exact h.2 _ (List.getElem_mem hl)
theorem we(q:Pr)(u:Bool):([oV q.1,oV q.2]:List V)[u.toNat]?=some (oV (sel q u)):=by
 cases u<;>rfl
end Ring
namespace RM
variable {N:Net}{m t0:Nat}
def Net.Jr(N:Net)(t v:Nat):Nat:=if N.a t=v then N.b t else N.a t
def Net.bK(N:Net)(left v:Nat):List Nat:=(List.range N.n).filter fun t=>left.testBit t&&(decide (N.a t=v) || decide (N.b t=v))
theorem bA{left v t:Nat}:t∈N.bK left v↔t<N.n/\left.testBit t=true/\(N.a t=v\/N.b t=v):=by
 unfold Net.bK;rw[List.mem_filter,List.mem_range,Bool.and_eq_true,Bool.or_eq_true,decide_eq_true_eq,decide_eq_true_eq]
inductive Wk(N:Net)(m t0:Nat):List (Nat×Int)->Nat->Nat->Prop
 | start:Wk N m t0 [(t0,1)] (N.b t0) (m^^^2^t0)
 | next {acc:List (Nat×Int)} {v left t:Nat} (h:Wk N m t0 acc v left) (h0:left≠0) (ht:(N.bK left v)[0]?=some t):Wk N m t0 (acc++[(t,if N.a t=v then 1 else -1)]) (N.Jr t v) (left^^^2^t)
theorem BK{t v:Nat}(h:N.a t=v\/N.b t=v):(N.a t=v/\N.b t=N.Jr t v)\/(N.b t=v/\N.a t=N.Jr t v):=by
 unfold Net.Jr
 by_cases e:N.a t=v
 ·rw[if_pos e];exact .inl ⟨e,rfl⟩
 ·rw[if_neg e];rcases h with h|h
  ·exact absurd h e
  ·exact .inr ⟨h,rfl⟩
theorem wg{left t n:Nat}(ht:t<n)(hb:left.testBit t=true):cnt (fun j=>left.testBit j) n=cnt (fun j=>(left^^^2^t).testBit j) n+1 :=
 qZ (h:=t) hb ht fun x _=>by
  rw[Nat.testBit_xor,Nat.testBit_two_pow]
  by_cases e:x=t
  ·subst e;simp[hb]
  ·rw[h8 e,h8 (fun z=>e z.symm)]
   simp
theorem HS(hm:m<2^N.n)(hb:m.testBit t0=true){acc:List (Nat×Int)}{v left:Nat}(h:Wk N m t0 acc v left):acc.length+cnt (fun j=>left.testBit j) N.n=cnt (fun j=>m.testBit j) N.n:=by
 induction h with
 | start =>
   have:=wg (eV hm hb) hb;show 1+_=_
   lia
 | next h h0 ht ih =>
   have hm2:=bA.mp (nB ht);have:=wg hm2.1 hm2.2.1;rw[List.length_append,List.length_singleton]
   lia
variable {N:Net}{m t0:Nat}
theorem wj(m x:Nat):(N.bK m x).length=N.dg m x:=by
 unfold Net.bK Net.dg;rw[oS];refine jy fun k hk=>?_
 congr 1
 apply Bool.eq_iff_iff.mpr;rw[Bool.or_eq_true,decide_eq_true_eq,decide_eq_true_eq];exact(jm hk).symm
def Net.D2(N:Net)(m:Nat):Prop:=∀ x,x<N.p->N.dg m x=0\/N.dg m x=2
theorem D2.TL(h:N.D2 m):N.lD m:=fun x hx=>by
 rw[HM];refine h8 ?_;rcases h x hx with e|e<;>lia
theorem ME(C:Nat->Bool):∀ n,sm (fun x=>if C x=true then 2 else 0) n=2*cnt C n:=fun n=>by
 rw[jh];have:sm (fun k=>if C k=true then 2 else 0) n=sm (fun k=>(if C k=true then 1 else 0)+(if C k=true then 1 else 0)) n:=gM fun k _=>by
  by_cases h:C k=true
  ·rw[if_pos h,if_pos h]
  ·rw[if_neg h,if_neg h]
 rw[this,tD]
 lia
theorem Kq(hm:m<2^N.n)(r:N.Ring m):N.D2 m:=by
 obtain⟨k0,hk0,hb0,hall⟩:=vZ hm r;generalize hs:N.aY (fun k=>m.testBit k) N.n (N.a k0)=s at hall
 have hC:∀ x,x<N.p->(fun x=>decide (N.aY (fun k=>m.testBit k) N.n x=s)) x=decide (N.aY (fun k=>m.testBit k) N.n x=s):=fun x _=>rfl
 obtain⟨h2,hl,Fp⟩:=BE (s:=s) hm r _ hC (fun k hk hb=>e7 (hall k hk hb))
 generalize hCC:(fun x=>decide (N.aY (fun k=>m.testBit k) N.n x=s))=C at hC h2 hl Fp
 have none:∀ x,x<N.p->C x=false->N.dg m x=0:=fun x hx hc=>by
  cases hz:N.dg m x with
  | zero=>rfl
  | succ d =>
    exfalso
    obtain⟨k,hk,hb,Jq⟩:=An (N:=N) (m:=m) (x:=x) (by lia)
    rw[hC x hx]at hc;refine of_decide_eq_false hc ?_;rcases Jq with e|e
    ·rw[<-e];exact hall k hk hb
    ·rw[<-e,<-j6 (S:=fun k=>m.testBit k) hk hb]
     exact hall k hk hb
 have pos:∀ x,x<N.p->C x=true->0<N.dg m x:=fun x hx hc=>by
  cases hz:N.dg m x with
  | succ d=>lia
  | zero =>
    exfalso
    obtain⟨y,hy,Lh,hne⟩:∃ y,y<N.p/\C y=true/\y≠x:=by
     obtain⟨c,d,h1,h3,h4,h5⟩:=mC h2
     by_cases e:c=x
     ·exact⟨d,h3,h5,by lia⟩
     ·exact⟨c,by lia,h4,e⟩
    rw[hC x hx]at hc;rw[hC y hy]at Lh;exact hne (alone hz (cN _ _ _ ((mX hc).trans (mX Lh).symm)))
 have hle:∀ x,x<N.p->(if C x=true then 2 else 0)<=N.dg m x:=fun x hx=>by
  by_cases hc:C x=true
  ·rw[if_pos hc];have h1:=pos x hx hc;have h3:=rA r.2.1 hx
   lia
  ·rw[if_neg hc];exact Nat.zero_le _
 have he:sm (fun x=>if C x=true then 2 else 0) N.p=sm (fun x=>N.dg m x) N.p:=by
  rw[ME,C6,hl]
 intro x hx;have:=HK hle he x hx
 by_cases hc:C x=true
 ·rw[if_pos hc]at this;exact .inr this.symm
 ·rw[if_neg hc]at this;exact .inl this.symm
theorem Li(hm:m<2^N.n)(hb:m.testBit t0=true){acc:List (Nat×Int)}{v left:Nat}(h:Wk N m t0 acc v left):∀ x,N.bd (m^^^left) x=(decide (N.a t0=x)^^decide (v=x)):=by
 induction h with
 | start =>
   intro x;rw[<-Nat.xor_assoc,Nat.xor_self,Nat.zero_xor,nK (eV hm hb)];rfl
 | @next acc v left t h h0 ht ih =>
   intro x;have hm2:=bA.mp (nB ht);rw[<-Nat.xor_assoc,j4,ih x,nK hm2.1];unfold Net.inc;rcases BK hm2.2.2 with⟨e1,e2⟩|⟨e1,e2⟩
   ·rw[e1,e2];cases decide (N.a t0=x)<;>cases decide (v=x)<;>cases decide (N.Jr t v=x)<;>rfl
   ·rw[e1,e2];cases decide (N.a t0=x)<;>cases decide (v=x)<;>cases decide (N.Jr t v=x)<;>rfl
theorem jn(hb:m.testBit t0=true){acc:List (Nat×Int)}{v left:Nat}(h:Wk N m t0 acc v left):∀ k,left.testBit k=(m.testBit k && !decide (k∈acc.map (·.1))):=by
 induction h with
 | start =>
   intro k;rw[Nat.testBit_xor,Nat.testBit_two_pow]
   by_cases e:t0=k
   ·subst e;simp[hb]
   ·have e' : ¬ k=t0:=fun z=>e z.symm
    simp[e,e']
 | @next acc v left t h h0 ht ih =>
   intro k;have hm2:=bA.mp (nB ht);have hin:=hm2.2.1;rw[ih t]at hin;rw[Nat.testBit_xor,Nat.testBit_two_pow,ih k,List.map_append]
   by_cases e:t=k
   ·subst e;rw[hin];simp
   ·have e' : ¬ k=t:=fun z=>e z.symm
    have e3:(k∈acc.map (·.1)++[(t,if N.a t=v then(1:Int) else -1)].map (·.1))↔k∈acc.map (·.1):=by simp[e']
    rw[show decide (k∈acc.map (·.1)++[(t,if N.a t=v then(1:Int) else -1)].map (·.1))=decide (k∈acc.map (·.1)) from decide_eq_decide.mpr e3]
    simp[e]
theorem Dl(hm:m<2^N.n)(hb:m.testBit t0=true){acc:List (Nat×Int)}{v left:Nat}(h:Wk N m t0 acc v left):left<2^N.n:=qo fun k hk=>by
 rw[jn hb h k,Bool.and_eq_true]at hk;exact eV hm hk.1
theorem As(hm:m<2^N.n)(hb:m.testBit t0=true){acc:List (Nat×Int)}{v left:Nat}(h:Wk N m t0 acc v left):v<N.p/\∃ acc' l y,acc=acc'++[(l,y)]/\l<N.n/\m.testBit l=true/\(N.a l=v\/N.b l=v)/\left.testBit l=false:=by
 have hl:=jn hb h;have key:v<N.p/\∃ acc' l y,acc=acc'++[(l,y)]/\l<N.n/\(N.a l=v\/N.b l=v):=by
  cases h with
  | start=>exact⟨N.bl t0 (eV hm hb),[],t0,1,rfl,eV hm hb,.inr rfl⟩
  | @next acc v left t h h0 ht =>
    have hm2:=bA.mp (nB ht);rcases BK hm2.2.2 with⟨e1,e2⟩|⟨e1,e2⟩
    ·exact⟨by rw[<-e2];exact N.bl t hm2.1,acc,t,_,rfl,hm2.1,.inr e2⟩
    ·exact⟨by rw[<-e2];exact N.al t hm2.1,acc,t,_,rfl,hm2.1,.inl e2⟩
 obtain⟨hv,acc',l,y,rfl,h1,h2⟩:=key;refine⟨hv,acc',l,y,rfl,h1,?_,h2,?_⟩
 ·
  clear hl;have:∀{acc:List (Nat×Int)} {v left:Nat},Wk N m t0 acc v left->∀ q∈acc,m.testBit q.1=true:=fun {acc v left} h=>by
   induction h with
   | start =>
     intro q hq;rw[List.mem_singleton.mp hq];exact hb
   | @next acc v left t h h0 ht ih =>
     intro q hq;rcases List.mem_append.mp hq with z|z
     ·exact ih q z
     ·rw[List.mem_singleton.mp z];have hm2:=(bA.mp (nB ht)).2.1;rw[jn hb h t,Bool.and_eq_true]at hm2;exact hm2.1
  exact this h (l,y) (by simp)
 ·rw[hl l];simp
theorem Dm{q:Nat}(hq:∀ k,q.testBit k=true->m.testBit k=true){x k:Nat}(h:k∈N.bK q x):k∈N.bK m x:=by
 obtain⟨h1,h2,h3⟩:=bA.mp h;exact bA.mpr ⟨h1,hq k h2,h3⟩
theorem Kr{l:List Nat}(h:l.length=2):∃ x y,l=[x,y]:=by
 match l,h with
 | [x,y],_=>exact⟨x,y,rfl⟩
theorem uD{x l:Nat}(h:N.D2 m)(hx:x<N.p)(hl:l∈N.bK m x):∃ t,t≠l/\(N.bK m x=[l,t]\/N.bK m x=[t,l]):=by
 have hd:=h x hx;rw[<-wj]at hd;have h0:(N.bK m x).length≠0:=fun z=>by
  rw[List.length_eq_zero_iff]at z;rw[z]at hl;cases hl
 obtain⟨u,w,e⟩:=Kr (hd.resolve_left h0);have hnd:(N.bK m x).Nodup:=List.Nodup.sublist (List.filter_sublist) List.nodup_range;rw[e]at hl hnd;have hne:u≠w:=by simpa using hnd
 rcases List.mem_cons.mp hl with z|z
 ·subst z;exact⟨w,Ne.symm hne,.inl e⟩
 ·rw[List.mem_singleton]at z;subst z;exact⟨u,hne,.inr e⟩
theorem both{q x l t:Nat}(h:N.D2 m)(hx:x<N.p)(hq:∀ k,q.testBit k=true->m.testBit k=true)(ev:N.lD q)(hl:l∈N.bK m x)(ht:t∈N.bK m x)(hb:q.testBit l=true):q.testBit t=true:=by
 by_cases e:t=l
 ·rw[e];exact hb
 obtain⟨u,hu,hp⟩:=uD h hx hl;have hut:u=t:=by
  rcases hp with z|z <;> · rw[z]at ht;simp at ht;lia
 subst hut;have MF:=bA.mp hl;have h1:=y9 (N:=N) MF.1 hb MF.2.2;have h3:=rA ev hx;obtain⟨c,d,hcd,hd,fc,fd⟩:=mC (show 2<=cnt (fun k=>q.testBit k&&N.inc k x) N.n from(by have:N.dg q x=cnt (fun k=>q.testBit k&&N.inc k x) N.n:=rfl;lia))
 rw[Bool.and_eq_true]at fc fd;have JX:c∈N.bK m x:=bA.mpr ⟨by lia,hq c fc.1,(jm (by lia)).mp fc.2⟩
 have Q4:d∈N.bK m x:=bA.mpr ⟨hd,hq d fd.1,(jm hd).mp fd.2⟩;have hz:c=u\/d=u:=by
  rcases hp with z|z <;> · rw[z]at JX Q4;simp at JX Q4;lia
 rcases hz with z|z
 ·rw[<-z];exact fc.1
 ·rw[<-z];exact fd.1
theorem OG(hm:m<2^N.n)(h:N.D2 m)(hb:m.testBit t0=true){acc:List (Nat×Int)}{v left:Nat}(w:Wk N m t0 acc v left)(hv:v≠N.a t0):∃ acc' l y t,acc=acc'++[(l,y)]/\t<N.n/\(N.bK m v=[l,t]\/N.bK m v=[t,l])/\left≠0/\(N.bK left v)[0]?=some t:=by
 obtain⟨Nr,acc',l,y,e,hl,MF,Q5,TM⟩:=As hm hb w;have TN:l∈N.bK m v:=bA.mpr ⟨hl,MF,Q5⟩;obtain⟨t,hne,hp⟩:=uD h Nr TN;have TQ:t∈N.bK m v:=by rcases hp with z | z<;>rw[z]<;>simp
 have HU:=bA.mp TQ;have HV:left.testBit t=true:=by
  cases hz:left.testBit t with
  | true=>rfl
  | false =>
    exfalso
    have hbd:=Li hm hb w v;rw[h8 (fun z=>hv z.symm),e7 rfl]at hbd
    have hsub:∀ k,(m^^^left).testBit k=true->m.testBit k=true:=fun k hk=>by
     rw[Nat.testBit_xor,jn hb w k]at hk;cases TR:m.testBit k with
     | true=>rfl
     | false =>
       rw[TR]at hk;simp at hk
    have h2:=Lf (N:=N) hsub v;have h3:2<=N.dg (m^^^left) v:=vn (u:=l) (v:=t) (by rw[Nat.testBit_xor,MF,TM];exact(jm hl).mpr Q5) (by rw[Nat.testBit_xor,HU.2.1,hz];exact(jm HU.1).mpr HU.2.2) (Ne.symm hne) hl HU.1
    have h4:=h v Nr;rw[HM]at hbd;have:=mX hbd
    lia
 have hmem:t∈N.bK left v:=bA.mpr ⟨HU.1,HV,HU.2.2⟩;refine⟨acc',l,y,t,e,HU.1,hp,(fun z=>by rw[z,Nat.zero_testBit]at HV;cases HV),?_⟩
 cases hc:N.bK left v with
 | nil=>rw[hc]at hmem;cases hmem
 | cons x r =>
   have hx:x∈N.bK left v:=by rw[hc];exact List.mem_cons_self
   have hxm:x∈N.bK m v:=Dm (fun k hk=>by rw[jn hb w k,Bool.and_eq_true]at hk;exact hk.1) hx
   have qJ:x≠l:=fun z=>by
    have:=(bA.mp hx).2.1;rw[z,TM]at this;cases this
   have:x=t:=by rcases hp with z | z <;> · rw[z]at hxm;simp at hxm;lia
   rw[this];rfl
theorem Ks{acc:List (Nat×Int)}{v left:Nat}(w:Wk N m t0 acc v left):t0∈acc.map (·.1):=by
 induction w with
 | start=>simp
 | next h h0 ht ih=>rw[List.map_append];exact Ni _ ih
theorem EB(hm:m<2^N.n)(h:N.D2 m)(hb:m.testBit t0=true){acc:List (Nat×Int)}{left:Nat}(w:Wk N m t0 acc (N.a t0) left):N.Ring m↔left=0:=by
 constructor
 ·intro r;have ev:N.lD (m^^^left):=fun x _=>by rw[Li hm hb w x];cases decide (N.a t0=x)<;>rfl
  have hsub:∀ k,(m^^^left).testBit k=true->m.testBit k=true:=fun k hk=>by
   rw[Nat.testBit_xor,jn hb w k]at hk;cases TR:m.testBit k with
   | true=>rfl
   | false =>
     rw[TR]at hk;simp at hk
  rcases r.2.2 _ hsub ev with z|z
  ·exfalso
   have h1:(m^^^left).testBit t0=true:=by
    rw[Nat.testBit_xor,jn hb w t0,hb,e7 (Ks w)];rfl
   rw[z,Nat.zero_testBit]at h1;cases h1
  ·have e2:m^^^(m^^^left)=m^^^m:=by rw[z]
   rw[<-Nat.xor_assoc,Nat.xor_self,Nat.zero_xor]at e2;exact e2
 ·rintro rfl;refine⟨fun z=>?_,D2.TL h,fun q hq ev=>?_⟩
  ·rw[z,Nat.zero_testBit]at hb;cases hb
  ·have key:∀{acc:List (Nat×Int)} {v left:Nat},Wk N m t0 acc v left->∀ k∈acc.map (·.1),(q.testBit k=true↔q.testBit t0=true):=fun {acc v left} w=>by
    induction w with
    | start =>
      intro k hk;have:k=t0:=by simpa using hk
      rw[this]
    | @next acc v left t w h0 ht ih =>
      intro k hk;rw[List.map_append]at hk;rcases List.mem_append.mp hk with z|z
      ·exact ih k z
      ·have e:k=t:=by simpa using z
       subst e;obtain⟨Nr,acc',l,y,rfl,hl,MF,Q5,TM⟩:=As hm hb w;have h1:l∈N.bK m v:=bA.mpr ⟨hl,MF,Q5⟩;have hkm:=bA.mp (nB ht);have h2:k∈N.bK m v:=bA.mpr ⟨hkm.1,by have:=hkm.2.1;rw[jn hb w k,Bool.and_eq_true]at this;exact this.1,hkm.2.2⟩
       rw[<-ih l (by simp)]
       exact⟨fun z=>both h Nr hq ev h2 h1 z,fun z=>both h Nr hq ev h1 h2 z⟩
   have hall:∀ k,m.testBit k=true->k∈acc.map (·.1):=fun k hk=>by
    have:=jn hb w k;rw[Nat.zero_testBit,hk,Bool.true_and]at this;cases hd:decide (k∈acc.map (·.1)) with
    | true=>exact mX hd
    | false=>rw[hd]at this;cases this
   cases h0:q.testBit t0 with
   | false =>
     left
     apply Nat.eq_of_testBit_eq;intro k;rw[Nat.zero_testBit];cases hk:q.testBit k with
     | false=>rfl
     | true =>
       have:=(key w k (hall k (hq k hk))).mp hk;rw[h0]at this;cases this
   | true =>
     right
     apply Nat.eq_of_testBit_eq;intro k;cases hk:m.testBit k with
     | true=>exact(key w k (hall k hk)).mpr h0
     | false =>
       cases hk2:q.testBit k with
       | false=>rfl
       | true=>rw[hq k hk2]at hk;cases hk
theorem HW{left n:Nat}(hl:left<2^n):cnt (fun j=>left.testBit j) n=0↔left=0:=by
 constructor
 ·intro h;apply Classical.byContradiction;intro h0;obtain⟨j,hj⟩:=Nat.exists_testBit_of_ne_zero h0;have:=oY (f:=fun j=>left.testBit j) hj (eV hl hj)
  lia
 ·rintro rfl;rw[jh];refine(gM fun k _=>?_).trans (vm n)
  rw[if_neg (by rw[Nat.zero_testBit];simp)]
theorem Ku(hm:m<2^N.n)(hb:m.testBit t0=true){acc:List (Nat×Int)}{v left:Nat}(h:Wk N m t0 acc v left):acc.length=cnt (fun j=>m.testBit j) N.n↔left=0:=by
 have:=HS hm hb h;rw[<-HW (Dl hm hb h)]
 lia
end RM
namespace Ring
open PySem L2
def Gz(H:Hp)(x:V)(q:Nat×Int):Prop:=∃ b,x = .ref b/\H b=some (.tup [.int (q.1:Int),.int q.2])
def WalkAt(H:Hp)(D:Addr)(acc:List (Nat×Int)):Prop:=∃ xs,H D=some (.lst xs)/\Paired (Gz H) xs acc
theorem Gz.same{H H' : Hp}(s:aq H H'){x:V}{q:Nat×Int}(h:Gz H x q):Gz H' x q:=by
 obtain⟨b,e,hb⟩:=h;exact⟨b,e,s _ _ hb⟩
theorem uE{α β:Type}{F:α->β->Prop}{x:α}{y:β}(h:F x y):∀{l:List α} {r:List β},Paired F l r->Paired F (l++[x]) (r++[y])
 | _,_,.nil=>.cons h .nil
 | _,_,.cons h1 h2=>.cons h1 (uE h h2)
theorem Gz.put{H:Hp}{D:Addr}{xs ys:List V}(hD:H D=some (.lst xs)){x:V}{q:Nat×Int}(h:Gz H x q):Gz (upd H D (.lst ys)) x q:=by
 obtain⟨b,e,hb⟩:=h;have:b≠D:=fun z=>by
  rw[z,hD]at hb;cases hb
 exact⟨b,e,by rw[aQ this];exact hb⟩
theorem WalkAt.push{H:Hp}{D b:Addr}{acc:List (Nat×Int)}{xs:List V}{q:Nat×Int}(hD:H D=some (.lst xs))(h:Paired (Gz H) xs acc)(hb:H b=some (.tup [.int (q.1:Int),.int q.2])):WalkAt (upd H D (.lst (xs++[.ref b]))) D (acc++[q]) :=
 ⟨xs++[.ref b],aj,uE (Gz.put hD ⟨b,rfl,hb⟩) (Paired.imp' (fun _ _ z=>Gz.put hD z) h)⟩
structure Rows(H0:Hp)(D:Addr)(es:List Addr)(f:Nat->List Nat)(H:Hp):Prop where
 same:aq H0 H
 nd:es.Nodup
 ne:D∉es
 fr:∀ b∈es,H0 b=none
 Dn:H0 D=none
 lst:H D=some (.lst (es.map V.ref))
 at_:∀ i b,es[i]?=some b->H b=some (.lst (bf (f i)))
theorem Rows.go{H0 H H' : Hp}{D:Addr}{es:List Addr}{f:Nat->List Nat}(h:Rows H0 D es f H)(s:aq H H'):Rows H0 D es f H' :=
 ⟨h.same.trans s,h.nd,h.ne,h.fr,h.Dn,s _ _ h.lst,fun i b e=>s _ _ (h.at_ i b e)⟩
theorem Rows.push{H0 H:Hp}{D b:Addr}{es:List Addr}{f:Nat->List Nat}{i k:Nat}(h:Rows H0 D es f H)(hb:es[i]?=some b):Rows H0 D es (fun j=>if j=i then f j++[k] else f j) (upd H b (.lst (bf (f i)++[.int (k:Int)]))):=by
 have hm:=nB hb;have hne:D≠b:=fun z=>h.ne (z▸hm)
 refine⟨h.same.put (h.fr b hm),h.nd,h.ne,h.fr,h.Dn,by rw[aQ hne];exact h.lst,fun j c hc=>?_⟩
 by_cases e:j=i
 ·subst e;rw[hb]at hc;cases hc;rw[aj,if_pos rfl,ql]
 ·have:c≠b:=fun z=>by
   subst z;obtain⟨h1,h2⟩:=xZ.mp hc;obtain⟨h3,h4⟩:=xZ.mp hb;exact e ((List.getElem_inj h.nd).mp (h2.trans h4.symm))
  rw[aQ this,if_neg e];exact h.at_ j c hc
theorem Rows.get{H0 H:Hp}{D:Addr}{es:List Addr}{f:Nat->List Nat}{i:Nat}(h:Rows H0 D es f H)(hi:i<es.length):∃ b,(es.map V.ref)[i]?=some (.ref b)/\es[i]?=some b/\H b=some (.lst (bf (f i))):=by
 have e:es[i]?=some es[i]:=List.getElem?_eq_getElem hi;exact⟨es[i],by rw[List.getElem?_map,e];rfl,e,h.at_ i _ e⟩
def uF(H0:Hp)(D:Addr)(i:Nat)(acc:List V)(H:Hp):Prop:=∃ es,acc=es.map V.ref/\es.length=i/\Rows H0 D es (fun _=>[]) H
theorem uF.start{H0:Hp}{D:Addr}(hD:H0 D=none):uF H0 D 0 [] (upd H0 D (.lst [])) :=
 ⟨[],rfl,rfl,aq.new hD,List.nodup_nil,List.not_mem_nil,fun _ h=>(List.not_mem_nil h).elim,hD,aj,fun i b e=>by cases e⟩
theorem uF.len{H0 H:Hp}{D:Addr}{i:Nat}{acc:List V}(h:uF H0 D i acc H):H D=some (.lst acc)/\acc.length<=i:=by
 obtain⟨es,rfl,e,r⟩:=h;exact⟨r.lst,by rw[List.length_map];lia⟩
theorem uF.next{H0 H:Hp}{D b:Addr}{i:Nat}{acc:List V}(h:uF H0 D i acc H)(hb:H b=none):upd H b (.lst []) D=some (.lst acc)/\uF H0 D (i+1) (acc++[.ref b]) (upd (upd H b (.lst [])) D (.lst (acc++[.ref b]))):=by
 obtain⟨es,rfl,e,r⟩:=h;have MG:D≠b:=fun z=>by
  have:=r.lst;rw[z,hb]at this;cases this
 have hbn:b∉es:=fun hm=>by
  obtain⟨j,hj⟩:=List.getElem?_of_mem hm;have:=r.at_ j b hj;rw[hb]at this;cases this
 have hb0:H0 b=none:=r.same.free hb;refine⟨by rw[aQ MG];exact r.lst,es++[b],by simp,by simp[e],(r.same.put hb0).put r.Dn,?_,?_,fun c hc=>?_,r.Dn,by rw[aj];simp,fun j c hc=>?_⟩
 ·exact List.nodup_append.mpr ⟨r.nd,by simp,fun x hx y hy=>by rw[List.mem_singleton.mp hy];exact fun z=>hbn (z▸hx)⟩
 ·intro hm;rcases List.mem_append.mp hm with z|z
  ·exact r.ne z
  ·exact MG (List.mem_singleton.mp z)
 ·rcases List.mem_append.mp hc with z|z
  ·exact r.fr c z
  ·rw[List.mem_singleton.mp z];exact hb0
 ·have JX:=nB hc;have TU:c≠D:=fun z=>by
   rcases List.mem_append.mp JX with y|y
   ·exact r.ne (z▸y)
   ·exact MG (z▸(List.mem_singleton.mp y))
  rw[aQ TU];rcases Nat.lt_or_ge j es.length with hj|hj
  ·rw[List.getElem?_append_left hj]at hc;have:c≠b:=fun z=>hbn (z▸nB hc)
   rw[aQ this];exact r.at_ j c hc
  ·rcases List.mem_append.mp JX with y|y
   ·have hx:(es++[b])[j]?=some c:=hc;rw[List.getElem?_append_right hj]at hx;have:c=b:=by
     have:=nB hx;exact List.mem_singleton.mp this
    rw[this,aj];rfl
   ·rw[List.mem_singleton.mp y,aj];rfl
theorem nO{H:Hp}{xs:List V}{p:Nat}{ts:List dU}{g:aL p ts}{k:Nat}(h3:Paired (TupAt H) xs ts)(hk:k<ts.length):∃ c,xs[k]?=some (.ref c)/\H c=some (.tup [.int ((g.N.a k:Nat):Int),.int ((g.N.b k:Nat):Int),.int (bO ts k).2.2]):=by
 have hkx:k<xs.length:=by rw[h3.length];exact hk
 obtain⟨t,ht,c,hc,hct⟩:=Paired.vL h3 (i:=k) (x:=xs[k]) (by simp[hkx])
 have Dp:t=bO ts k:=by
  have z:=yY hk;rw[ht]at z;exact Option.some.inj z
 refine⟨c,by rw[<-hc];simp[hkx],?_⟩
 rw[hct,<-HE hk,<-HF hk,Dp];rfl
theorem zb{m:Nat}(h:m≠0):∃ c,(aS (m:Int))[0]?=some c/\m.testBit c=true:=by
 obtain⟨k,hk⟩:=Nat.exists_testBit_of_ne_zero h;have hm:k∈aS (m:Int):=by
  unfold aS;refine List.mem_filter.mpr ⟨List.mem_range.mpr (Nat.lt_of_not_le fun z=>?_),by rw[jk];exact hk⟩
  have:=BA z;rw[jk,hk]at this;cases this
 cases e:aS (m:Int) with
 | nil =>
   rw[e]at hm;cases hm
 | cons c r =>
   have hc:c∈aS (m:Int):=by rw[e];exact List.mem_cons_self
   unfold aS at hc;have:=(List.mem_filter.mp hc).2;rw[jk]at this;exact⟨c,rfl,this⟩
end Ring
namespace RM
variable {N:Net}
open Ring (xorL xorL_cons maskOf)
variable {N:Net}
theorem FE{c:Nat}(hc:c<N.n)(hf:N.Ah c=false):N.Ring (N.ring c):=by
 refine⟨fun z=>?_,oR hc,fun q hq ev=>?_⟩
 ·have h:=BB hf;rw[z]at h;simp at h
 ·have hqn:q<2^N.n:=qo fun k hk=>eV (Ai hc) (hq k hk)
  cases qc:q.testBit c with
  | true =>
    refine .inr (HD hqn (Ai hc) ev (oR hc) fun d hd hfd=>?_)
    rw[vU hf hfd]
    by_cases e:c=d
    ·subst e;simp[qc]
    ·rw[h8 e];cases qd:q.testBit d with
     | false=>rfl
     | true =>
       have:=hq d qd;rw[vU hf hfd,h8 e]at this;cases this
  | false =>
    refine .inl (jl (fun k hk=>?_) ev)
    rcases qY (hq k hk) with e|e
    ·subst e;rw[qc]at hk;cases hk
    ·exact e
end RM
namespace L2
open PySem PySem.Spec PyProof.Rows
section
variable {X:Cx}
theorem EC:∀{bs:List Bool} {its:List Value},Vals (bs.map V.bl) its->its=bs.map Value.bool
 | [],_,.nil=>rfl
 | b::bs,_,.cons r rr=>by
   cases r;rw[EC rr];rfl
theorem Dq:∀ bs:List Bool,((List.range bs.length).all fun i=>(bs[i]?).getD true)=bs.all id:=fun bs=>by
 rw[Bool.eq_iff_iff,List.all_eq_true,List.all_eq_true]
 constructor
 ·intro h b hb;obtain⟨i,hi,e⟩:=List.getElem_of_mem hb;have:=h i (List.mem_range.mpr hi);rw[List.getElem?_eq_getElem hi,e]at this;exact this
 ·intro h i hi;have hi:=List.mem_range.mp hi;rw[List.getElem?_eq_getElem hi];exact h _ (List.getElem_mem hi)
theorem TV(K:bI)(hc:X.calm=true)(hK:X.K=K:=by rfl):fR X (.builtin "all") (fun xs H Q=>∃(p:Addr) (bs:List Bool),xs=[.ref p]/\aZ K H p (bs.map V.bl)/\Q (.bl (bs.all id)) H):=by
 subst hK;intro pq s σ H xs us Q I r h;obtain⟨p,bs,rfl,hq,q⟩:=h;obtain⟨u,rfl,rx⟩:=vals1 r;cases rx;obtain⟨its,rv,pl,hz⟩:=I.list hq;obtain rfl:=EC rv;have lt:p<s.heap.objs.size:=by obtain⟨_,e,_⟩:=pl.isList;exact Heap.lt_size e
 refine call_all_walk (wpAny_pyIter_list pl.isList ⟨_,[_,p],[_],_,_,_,fun i=>(bs[i]?).getD true,rfl,Walks.list (A:=X.A.in1) (I.ok.hd hc) _ p (Nat.ne_of_lt lt) _,
  ⟨⟨_,Heap.get?_push_size _ rfl,rfl,rfl⟩,pl.isList.push _⟩,fun i v s' Q' E' hP hQ=>?_,fun h' tk hk=>?_⟩)
 ·have hP:(bs.map Value.bool)[i]?=some v:=by simpa using hP
  rw[List.getElem?_map]at hP;obtain⟨b,e,rfl⟩:=CD.mp hP;simp only[e,Option.getD_some]at hQ;exact wpAny_truthy_bool hQ
 ·have z:(bs.map Value.bool).toArray.size=bs.length:=by simp
  rw[z,Dq];refine⟨.bl _,H,I.kept fun b o e=>hk b o (fun hm=>?_) (Heap.get?_push_of_some _ e),rfl,q⟩
  rw[List.mem_singleton.mp hm]at e;exact Nat.lt_irrefl _ (Heap.lt_size e)
end
end L2
namespace RM
def lsum(L:Nat->Int)(f:Nat->Bool):Nat->Int
 | 0=>0
 | n+1=>lsum L f n+(if f n=true then L n else 0)
def cd(x:Nat)(s:Bool):Nat:=2*x+s.toNat
theorem MH{x y:Nat}{s t:Bool}(h:cd x s=cd y t):x=y/\s=t:=by
 unfold cd at h;cases s<;>cases t<;>simp at h ⊢ <;> lia
def Jn(N:Net)(k v w:Nat):Prop:=(N.a k=v/\N.b k=w)\/(N.b k=v/\N.a k=w)
theorem Jn.lt{N:Net}{k v w:Nat}(hk:k<N.n)(h:Jn N k v w):w<N.p:=by
 rcases h with⟨_,rfl⟩|⟨_,rfl⟩
 ·exact N.bl k hk
 ·exact N.al k hk
inductive Wl(N:Net)(L:Nat->Int)(m u:Nat):List Nat->Nat->Bool->Int->Nat->Prop
 | nil:Wl N L m u [] u false 0 0
 | go {pre:List Nat} {v w k e:Nat} {s:Bool} {z:Int} (h:Wl N L m u pre v s z e) (hk:k<N.n) (hj:Jn N k v w):Wl N L m u (pre++[cd v s]) w (s^^m.testBit k) (z+L k) (e^^^2^k)
def Wy(N:Net)(L:Nat->Int)(m u x:Nat)(s:Bool)(z:Int):Prop:=∃ pre e,Wl N L m u pre x s z e
section
variable {N:Net}{L:Nat->Int}{m u:Nat}
theorem Wy.nil:Wy N L m u u false 0:=⟨_,_,.nil⟩
theorem Wy.go{v w k:Nat}{s:Bool}{z:Int}(h:Wy N L m u v s z)(hk:k<N.n)(hj:Jn N k v w):Wy N L m u w (s^^m.testBit k) (z+L k):=let⟨_,_,h⟩:=h;⟨_,_,h.go hk hj⟩
theorem MI(hL:∀ k,k<N.n->0<=L k){pre:List Nat}{v e:Nat}{s:Bool}{z:Int}(h:Wl N L m u pre v s z e):∀ i c,(pre++[cd v s])[i]?=some c->∃ v' s' z' e',Wl N L m u ((pre++[cd v s]).take i) v' s' z' e'/\cd v' s' = c/\z'<=z:=by
 induction h with
 | nil =>
   intro i c hc;cases i with
   | zero=>exact⟨u,false,0,0,.nil,Option.some.inj hc,Int.le_refl _⟩
   | succ i=>cases hc
 | @go pre v w k e s z h hk hj ih =>
   intro i c hc;have h0:=hL k hk
   by_cases hi:i<(pre++[cd v s]).length
   ·rw[List.getElem?_append_left hi]at hc;obtain⟨v',s',z',e',w',ec,hz⟩:=ih i c hc;exact⟨v',s',z',e',by rw[List.take_append_of_le_length (Nat.le_of_lt hi)];exact w',ec,by lia⟩
   ·have hl:=(xZ.mp hc).1;rw[List.length_append]at hl;have e1:i=(pre++[cd v s]).length:=by
     have:([cd w (s^^m.testBit k)]:List Nat).length=1:=rfl
     lia
    subst e1;rw[List.getElem?_append_right (Nat.le_refl _),Nat.sub_self]at hc;exact⟨w,_,_,_,by rw[List.take_left' rfl];exact h.go hk hj,Option.some.inj hc,Int.le_refl _⟩
theorem HX(hL:∀ k,k<N.n->0<=L k){pre:List Nat}{v e:Nat}{s:Bool}{z:Int}(h:Wl N L m u pre v s z e):∃ pre' z' e',Wl N L m u pre' v s z' e'/\z'<=z/\(pre'++[cd v s]).Nodup:=by
 induction h with
 | nil=>exact⟨_,_,_,.nil,Int.le_refl _,by simp⟩
 | @go pre v w k e s z h hk hj ih =>
   obtain⟨pre',z',e',w',hz,nd⟩:=ih;have h0:=hL k hk
   by_cases hc:cd w (s^^m.testBit k)∈pre'++[cd v s]
   ·obtain⟨i,hi⟩:=List.getElem?_of_mem hc;obtain⟨v2,s2,z2,e2,w2,ec,hz2⟩:=MI hL w' i _ hi;obtain⟨rfl,rfl⟩:=MH ec;refine⟨_,_,_,w2,by lia,?_⟩
    have:(pre'++[cd v s]).take i++[cd v2 (s^^m.testBit k)]=(pre'++[cd v s]).take (i+1):=by
     rw[List.take_add_one,hi];rfl
    rw[this];exact List.Sublist.nodup (List.take_sublist _ _) nd
   ·exact⟨_,_,_,w'.go hk hj,by lia,List.nodup_append.mpr ⟨nd,by simp,fun x hx y hy=>by
     have e:y=cd w (s^^m.testBit k):=by simpa using hy
     rw[e];rintro rfl;exact hc hx⟩⟩
theorem HY(hu:u<N.p){pre:List Nat}{v e:Nat}{s:Bool}{z:Int}(h:Wl N L m u pre v s z e):v<N.p/\∀ c∈pre++[cd v s],c<2*N.p:=by
 have one:∀{x:Nat} {s:Bool},x<N.p->cd x s<2*N.p:=fun {x s} hx=>by
  unfold cd;have:s.toNat<=1:=by cases s<;>decide
  lia
 induction h with
 | nil=>exact⟨hu,fun c hc=>by
  have e:c=cd u false:=by simpa using hc
  rw[e];exact one hu⟩
 | @go pre v w k e s z h hk hj ih =>
   have hw:=hj.lt hk;refine⟨hw,fun c hc=>?_⟩
   rcases List.mem_append.mp hc with hc|hc
   ·exact ih.2 c hc
   ·have e:c=cd w (s^^m.testBit k):=by simpa using hc
    rw[e];exact one hw
def OH(N:Net)(L:Nat->Int)(m u x:Nat)(s:Bool):Option Int->Prop
 | none=>∀ z,¬ Wy N L m u x s z
 | some d=>Wy N L m u x s d/\∀ z,Wy N L m u x s z->d<=z
def MJ(N:Net)(L:Nat->Int)(m u:Nat)(F:Nat->Bool->Option Int):Prop:=∀ x s d,F x s=some d->Wy N L m u x s d
def Bp(N:Net)(L:Nat->Int)(m u t:Nat)(F:Nat->Bool->Option Int):Prop:=∀ pre v s z e,Wl N L m u pre v s z e->pre.length<=t->∃ d,F v s=some d/\d<=z
def en(N:Net)(q:Nat):Nat:=if q/2%2=0 then N.a (q/4) else N.b (q/4)
def ot(N:Net)(q:Nat):Nat:=if q/2%2=0 then N.b (q/4) else N.a (q/4)
def od(q:Nat):Bool:=decide (q%2=1)
structure Rl(N:Net)(L:Nat->Int)(m u:Nat)(F0 F:Nat->Bool->Option Int)(q:Nat):Prop where
 snd:MJ N L m u F
 low:∀ x s d,F0 x s=some d->∃ d',F x s=some d'/\d'<=d
 dn:∀ j,j<q->∀ d,F0 (en N j) (od j)=some d->∃ d',F (ot N j) (od j^^m.testBit (j/4))=some d'/\d'<=d+L (j/4)
def rE(F:Nat->Bool->Option Int)(x:Nat)(s:Bool)(d:Int):Nat->Bool->Option Int:=fun y t=>if y=x/\t=s then some d else F y t
def lst:Option Int->Int->Int
 | none,y=>y
 | some x,y=>if y<x then y else x
theorem Rl.start{F:Nat->Bool->Option Int}(h:MJ N L m u F):Rl N L m u F F 0:=⟨h,fun _ _ d hd=>⟨d,hd,Int.le_refl _⟩,fun j hj=>by lia⟩
theorem Rl.skip{F0 F:Nat->Bool->Option Int}{q:Nat}(h:Rl N L m u F0 F q)(hn:F (en N q) (od q)=none):Rl N L m u F0 F (q+1):=⟨h.snd,h.low,fun j hj d hd=>by
 by_cases e:j=q
 ·subst e;obtain⟨d',hd',_⟩:=h.low _ _ _ hd;rw[hn]at hd';cases hd'
 ·exact h.dn j (by lia) d hd⟩
theorem OI{q:Nat}:Jn N (q/4) (en N q) (ot N q):=by
 unfold en ot
 by_cases e:q/2%2=0
 ·rw[if_pos e,if_pos e];exact .inl ⟨rfl,rfl⟩
 ·rw[if_neg e,if_neg e];exact .inr ⟨rfl,rfl⟩
theorem HZ(o:Option Int)(y:Int):lst o y<=y/\∀ x,o=some x->lst o y<=x:=by
 cases o with
 | none=>exact⟨Int.le_refl _,fun x hx=>nomatch hx⟩
 | some x =>
   show(if y<x then y else x)<=y/\∀ x',some x=some x'->(if y<x then y else x)<=x'
   by_cases h:y<x
   ·rw[if_pos h];exact⟨Int.le_refl _,fun x' hx=>by have:=Option.some.inj hx;lia⟩
   ·rw[if_neg h];exact⟨by lia,fun x' hx=>by have:=Option.some.inj hx;lia⟩
theorem Ia(o:Option Int)(y:Int):lst o y=y\/o=some (lst o y):=by
 cases o with
 | none=>exact .inl rfl
 | some x =>
   show(if y<x then y else x)=y\/some x=some (if y<x then y else x)
   by_cases h:y<x
   ·rw[if_pos h];exact .inl rfl
   ·rw[if_neg h];exact .inr rfl
theorem Rl.put{F0 F:Nat->Bool->Option Int}{q:Nat}{d:Int}(h:Rl N L m u F0 F q)(hq:q/4<N.n)(hd:F (en N q) (od q)=some d):Rl N L m u F0 (rE F (ot N q) (od q^^m.testBit (q/4)) (lst (F (ot N q) (od q^^m.testBit (q/4))) (d+L (q/4)))) (q+1):=by
 generalize hx:ot N q=x;generalize hs:(od q^^m.testBit (q/4))=s;have l1:=HZ (F x s) (d+L (q/4));have l2:=Ia (F x s) (d+L (q/4));generalize lst (F x s) (d+L (q/4))=y at l1 l2;have low:∀ a t d0,F a t=some d0->∃ d',rE F x s y a t=some d'/\d'<=d0:=fun a t d0 ha=>by
  unfold rE
  by_cases e:a=x/\t=s
  ·rw[if_pos e];rw[e.1,e.2]at ha;exact⟨y,rfl,l1.2 _ ha⟩
  ·rw[if_neg e];exact⟨d0,ha,Int.le_refl _⟩
 refine⟨fun a t d0 ha=>?_,fun a t d0 ha=>?_,fun j hj d0 ha=>?_⟩
 ·unfold rE at ha
  by_cases e:a=x/\t=s
  ·rw[if_pos e]at ha;cases ha;rw[e.1,e.2];rcases l2 with l2|l2
   ·rw[l2,<-hx,<-hs];exact(h.snd _ _ _ hd).go hq OI
   ·exact h.snd _ _ _ l2
  ·rw[if_neg e]at ha;exact h.snd _ _ _ ha
 ·obtain⟨d1,h1,h2⟩:=h.low _ _ _ ha;obtain⟨d2,h3,h4⟩:=low _ _ _ h1;exact⟨d2,h3,by lia⟩
 ·by_cases e:j=q
  ·subst e;obtain⟨d1,h1,h2⟩:=h.low _ _ _ ha;rw[hd]at h1;cases h1;rw[hx,hs];exact⟨y,if_pos ⟨rfl,rfl⟩,by have:=l1.1;lia⟩
  ·obtain⟨d1,h1,h2⟩:=h.dn j (by lia) _ ha
   obtain⟨d2,h3,h4⟩:=low _ _ _ h1;exact⟨d2,h3,by lia⟩
theorem Rl.E8{F0 F:Nat->Bool->Option Int}{t:Nat}(h:Rl N L m u F0 F (4*N.n))(c:Bp N L m u t F0):Bp N L m u (t+1) F:=by
 intro pre x s z e wl hl;cases wl with
 | nil =>
   obtain⟨d,hd,hz⟩:=c _ _ _ _ _ .nil (Nat.zero_le _);obtain⟨d',hd',hz'⟩:=h.low _ _ _ hd;exact⟨d',hd',by lia⟩
 | @go pre v w k e s z wl hk hj =>
   rw[List.length_append]at hl;obtain⟨d,hd,hz⟩:=c _ _ _ _ _ wl (by have:([cd v s]:List Nat).length=1:=rfl;lia)
   have hsN:s.toNat=if s=true then 1 else 0:=by cases s<;>rfl
   have fin:∀ j,j<4*N.n->j/4=k->en N j=v->ot N j=x->od j=s->∃ d,F x (s^^m.testBit k)=some d/\d<=z+L k:=by
    intro j hj e1 e2 e3 e4;obtain⟨d',hd',hz'⟩:=h.dn j hj d (by rw[e2,e4];exact hd)
    rw[e3,e4,e1]at hd';rw[e1]at hz';exact⟨d',hd',by lia⟩
   have hs1:s.toNat<=1:=by cases s<;>decide
   have hod:∀ q,q%2=s.toNat->od q=s:=fun q hq=>by
    unfold od;rw[hq];cases s<;>rfl
   rcases hj with⟨e1,e2⟩|⟨e1,e2⟩
   ·have MK:(4*k+s.toNat)/4=k:=by lia
    have hk2:(4*k+s.toNat)/2%2=0:=by lia
    refine fin (4*k+s.toNat) (by lia) MK ?_ ?_ (hod _ (by lia))
    ·unfold en;rw[if_pos hk2,MK];exact e1
    ·unfold ot;rw[if_pos hk2,MK];exact e2
   ·have MK:(4*k+2+s.toNat)/4=k:=by lia
    have hk2 : ¬(4*k+2+s.toNat)/2%2=0:=by lia
    refine fin (4*k+2+s.toNat) (by lia) MK ?_ ?_ (hod _ (by lia))
    ·unfold en;rw[if_neg hk2,MK];exact e1
    ·unfold ot;rw[if_neg hk2,MK];exact e2
theorem Bp.start:Bp N L m u 0 (rE (fun _ _=>none) u false 0):=by
 intro pre v s z e w hl;cases w with
 | nil=>exact⟨0,if_pos ⟨rfl,rfl⟩,Int.le_refl _⟩
 | go=>rw[List.length_append]at hl;have:∀ x:Nat,([x]:List Nat).length=1:=fun _=>rfl;simp at hl
theorem MJ.start:MJ N L m u (rE (fun _ _=>none) u false 0):=by
 intro x s d h;unfold rE at h
 by_cases e:x=u/\s=false
 ·rw[if_pos e]at h;cases h;rw[e.1,e.2];exact .nil
 ·rw[if_neg e]at h;cases h
theorem Ib(hL:∀ k,k<N.n->0<=L k)(hu:u<N.p){F:Nat->Bool->Option Int}(c:Bp N L m u (2*N.p) F)(sn:MJ N L m u F)(x:Nat)(s:Bool):OH N L m u x s (F x s):=by
 have all:∀ z,Wy N L m u x s z->∃ d,F x s=some d/\d<=z:=by
  rintro z ⟨pre,e,w⟩;obtain⟨pre',z',e',w',hz,nd⟩:=HX hL w;have hl:=HH nd (HY hu w').2;rw[List.length_append]at hl;obtain⟨d,hd,hdz⟩:=c _ _ _ _ _ w' (by lia)
  exact⟨d,hd,by lia⟩
 cases h:F x s with
 | none =>
   intro z hz;obtain⟨d,hd,_⟩:=all z hz;rw[h]at hd;cases hd
 | some d =>
   refine⟨sn _ _ _ h,fun z hz=>?_⟩
   obtain⟨d',hd',hz'⟩:=all z hz;rw[h]at hd';cases hd';exact hz'
end
end RM
namespace Ring
open PySem L2
def lF(ts:List dU)(k:Nat):Int:=(bO ts k).2.2
theorem zd(ts:List dU)(f:Nat->Bool):∀ n,Fj ts f n=RM.lsum (lF ts) f n
 | 0=>rfl
 | n+1=>by
   show Fj ts f n+_=RM.lsum (lF ts) f n+_;rw[zd ts f n];rfl
theorem wm{ts:List dU}{m:Nat}(hm:m<2^ts.length):lenOf ts m=RM.lsum (lF ts) (fun k=>m.testBit k) ts.length:=by
 rw[Fl hm,zd]
theorem FF{p:Nat}{ts:List dU}(g:aL p ts):∀ k,k<g.N.n->0<=lF ts k:=fun k hk=>by
 have:=(g.C1 _ (jz hk)).l0;unfold lF
 lia
structure pI(H0:Hp)(D:Addr)(es:List Addr)(F:Nat->Bool->Option Int)(H:Hp):Prop where
 same:aq H0 H
 nd:es.Nodup
 ne:D∉es
 fr:∀ b∈es,H0 b=none
 Dn:H0 D=none
 lst:H D=some (.lst (es.map V.ref))
 at_:∀ i b,es[i]?=some b->H b=some (.lst [oV (F i false),oV (F i true)])
theorem pI.go{H0 H H' : Hp}{D:Addr}{es:List Addr}{F:Nat->Bool->Option Int}(h:pI H0 D es F H)(s:aq H H'):pI H0 D es F H' :=
 ⟨h.same.trans s,h.nd,h.ne,h.fr,h.Dn,s _ _ h.lst,fun i b e=>s _ _ (h.at_ i b e)⟩
theorem Dr(F:Nat->Bool->Option Int)(i:Nat)(s:Bool):([oV (F i false),oV (F i true)]:List V)[s.toNat]?=some (oV (F i s)):=by
 cases s<;>rfl
theorem Kv(F:Nat->Bool->Option Int)(i:Nat)(s:Bool)(d:Int):([oV (F i false),oV (F i true)]:List V).set s.toNat (.int d)=[oV (RM.rE F i s d i false),oV (RM.rE F i s d i true)]:=by
 unfold RM.rE;cases s with
 | false =>
   rw[if_pos ⟨rfl,rfl⟩,if_neg (fun z=>by cases z.2)]
   rfl
 | true =>
   rw[if_neg (fun z=>by cases z.2),if_pos ⟨rfl,rfl⟩]
   rfl
theorem ED{F:Nat->Bool->Option Int}{i j:Nat}{s t:Bool}{d:Int}(h:j≠i):RM.rE F i s d j t=F j t:=if_neg fun z=>h z.1
theorem pI.put{H0 H:Hp}{D b:Addr}{es:List Addr}{F:Nat->Bool->Option Int}{i:Nat}(h:pI H0 D es F H)(hb:es[i]?=some b)(s:Bool)(d:Int):pI H0 D es (RM.rE F i s d) (upd H b (.lst (([oV (F i false),oV (F i true)]:List V).set s.toNat (.int d)))):=by
 have hm:=nB hb;have hne:D≠b:=fun z=>h.ne (z▸hm)
 refine⟨h.same.put (h.fr b hm),h.nd,h.ne,h.fr,h.Dn,by rw[aQ hne];exact h.lst,fun j c hc=>?_⟩
 by_cases e:j=i
 ·subst e;rw[hb]at hc;cases hc;rw[aj,Kv]
 ·have:c≠b:=fun z=>by
   subst z;obtain⟨h1,h2⟩:=xZ.mp hc;obtain⟨h3,h4⟩:=xZ.mp hb;exact e ((List.getElem_inj h.nd).mp (h2.trans h4.symm))
  rw[aQ this,ED e,ED e];exact h.at_ j c hc
theorem pI.get{H0 H:Hp}{D:Addr}{es:List Addr}{F:Nat->Bool->Option Int}{i:Nat}(h:pI H0 D es F H)(hi:i<es.length):∃ b,(es.map V.ref)[i]?=some (.ref b)/\es[i]?=some b/\H b=some (.lst [oV (F i false),oV (F i true)]):=by
 have e:es[i]?=some es[i]:=List.getElem?_eq_getElem hi;exact⟨es[i],by rw[List.getElem?_map,e];rfl,e,h.at_ i _ e⟩
theorem pI.off{H0 H:Hp}{D L:Addr}{es:List Addr}{F:Nat->Bool->Option Int}(h:pI H0 D es F H)(hL:H L=none):L∉es:=fun z=>by
 obtain⟨j,hj⟩:=List.getElem?_of_mem z;have:=h.at_ j L hj;rw[hL]at this;cases this
def BL(H0:Hp)(D:Addr)(i:Nat)(acc:List V)(H:Hp):Prop:=∃ es,acc=es.map V.ref/\es.length=i/\pI H0 D es (fun _ _=>none) H
theorem BL.start{H0:Hp}{D:Addr}(hD:H0 D=none):BL H0 D 0 [] (upd H0 D (.lst [])) :=
 ⟨[],rfl,rfl,aq.new hD,List.nodup_nil,List.not_mem_nil,fun _ h=>(List.not_mem_nil h).elim,hD,aj,fun i b e=>by cases e⟩
theorem BL.len{H0 H:Hp}{D:Addr}{i:Nat}{acc:List V}(h:BL H0 D i acc H):H D=some (.lst acc)/\acc.length<=i:=by
 obtain⟨es,rfl,e,r⟩:=h;exact⟨r.lst,by rw[List.length_map];lia⟩
theorem BL.next{H0 H:Hp}{D b:Addr}{i:Nat}{acc:List V}(h:BL H0 D i acc H)(hb:H b=none):upd H b (.lst [.eS,.eS]) D=some (.lst acc)/\BL H0 D (i+1) (acc++[.ref b]) (upd (upd H b (.lst [.eS,.eS])) D (.lst (acc++[.ref b]))):=by
 obtain⟨es,rfl,e,r⟩:=h;have MG:D≠b:=fun z=>by
  have:=r.lst;rw[z,hb]at this;cases this
 have hbn:b∉es:=r.off hb;have hb0:H0 b=none:=r.same.free hb;refine⟨by rw[aQ MG];exact r.lst,es++[b],by simp,by simp[e],(r.same.put hb0).put r.Dn,?_,?_,fun c hc=>?_,r.Dn,by rw[aj];simp,fun j c hc=>?_⟩
 ·exact List.nodup_append.mpr ⟨r.nd,by simp,fun x hx y hy=>by rw[List.mem_singleton.mp hy];exact fun z=>hbn (z▸hx)⟩
 ·intro hm;rcases List.mem_append.mp hm with z|z
  ·exact r.ne z
  ·exact MG (List.mem_singleton.mp z)
 ·rcases List.mem_append.mp hc with z|z
  ·exact r.fr c z
  ·rw[List.mem_singleton.mp z];exact hb0
 ·have TU:c≠D:=fun z=>by
   subst z;rcases List.mem_append.mp (nB hc) with z|z
   ·exact r.ne z
   ·exact MG (List.mem_singleton.mp z)
  rw[aQ TU]
  by_cases ec:c=b
  ·rw[ec,aj];rfl
  ·rw[aQ ec]
   by_cases hj:j<es.length
   ·rw[List.getElem?_append_left hj]at hc;exact r.at_ j c hc
   ·rw[List.getElem?_append_right (by lia)]at hc
    have:=nB hc;exact absurd (List.mem_singleton.mp this) ec
def rF(F:Nat->Bool->Option Int)(p:Nat):List Pr:=(List.range p).map fun i=>(F i false,F i true)
theorem ML{F:Nat->Bool->Option Int}{p x:Nat}(h:x<p)(s:Bool):sel (cg (rF F p) x) s=F x s:=by
 unfold cg rF;rw[List.getD_eq_getElem?_getD,List.getElem?_map,List.getElem?_range h];cases s<;>rfl
theorem Ic(F:Nat->Bool->Option Int)(i:Nat):rF F (i+1)=rF F i++[(F i false,F i true)]:=by
 unfold rF;rw[List.range_succ,List.map_append];rfl
theorem EF(F:Nat->Bool->Option Int)(i:Nat):(rF F i).length=i:=by
 unfold rF;rw[List.length_map,List.length_range]
end Ring
namespace RM
variable {N:Net}{L:Nat->Int}{m u:Nat}
theorem Rl.TX{F0 F:Nat->Bool->Option Int}{q k x y:Nat}{s:Bool}{d:Int}(h:Rl N L m u F0 F q)(e4:q/4=k)(e1:en N q=x)(e2:ot N q=y)(e3:od q=s)(hk:k<N.n)(hd:F x s=some d):
 Rl N L m u F0 (rE F y (s^^m.testBit k) (lst (F y (s^^m.testBit k)) (d+L k))) (q+1):=by
 subst e4 e1 e2 e3;exact h.put hk hd
theorem Kw{k j n:Nat}(hj:j<2)(hn:n<2):(4*k+2*j+n)/4=k/\od (4*k+2*j+n)=decide (n=1)/\en N (4*k+2*j+n)=(if j=0 then N.a k else N.b k)/\ot N (4*k+2*j+n)=(if j=0 then N.b k else N.a k):=by
 have h1:(4*k+2*j+n)/4=k:=by lia
 have h2:(4*k+2*j+n)/2%2=j:=by lia
 refine⟨h1,?_,?_,?_⟩
 ·unfold od;exact decide_eq_decide.mpr (by lia)
 ·unfold en;rw[h1,h2]
 ·unfold ot;rw[h1,h2]
end RM
namespace Ring
open PySem L2
variable {p:Nat}{ts:List dU}{g:aL p ts}{m:Nat}{W:List (List Pr)}
theorem Kx{r:Nat}(hm:m<2^ts.length):(aS ((r&&&m:Nat):Int)).length%2=1↔g.N.par r m=true:=by
 rw[<-Ko (g:=g) hm,decide_eq_true_iff]
end Ring
namespace RM
abbrev Ap:=Nat->Option Bool
def un(N:Net)(A:Ap):Nat:=cnt (fun x=>(A x).isNone) N.p
def wo(A:Ap)(x:Nat)(b:Bool):Ap:=fun y=>if y=x then some b else A y
def eA(N:Net)(q:Nat):Nat:=if q%2=0 then N.a (q/2) else N.b (q/2)
def oA(N:Net)(q:Nat):Nat:=if q%2=0 then N.b (q/2) else N.a (q/2)
def MM(N:Net)(A:Ap):Prop:=∀ k,k<N.n->(A (N.a k)).isSome=(A (N.b k)).isSome
section
variable {N:Net}{A A0:Ap}{q x:Nat}{b:Bool}
theorem rG:wo A x b x=some b:=if_pos rfl
theorem rH{y:Nat}(h:y≠x):wo A x b y=A y:=if_neg h
theorem Ie(hx:x<N.p)(h:A x=none):un N (wo A x b)<un N A:=by
 have:=qZ (f:=fun y=>(wo A x b y).isNone) (g:=fun y=>(A y).isNone) (h:=x) (by rw[h];rfl) hx (fun y _=>by
  by_cases e:y=x
  ·subst e;rw[rG,e7 rfl];simp
  ·rw[rH e,h8 e];simp)
 unfold un
 lia
structure Ps(N:Net)(A0 A:Ap)(q:Nat):Prop where
 or:(A=A0/\∀ j,j<q->(A0 (eA N j)).isSome=true->(A0 (oA N j)).isSome=true)\/un N A<un N A0
 st:MM N A0->A=A0
 low:∀ y,(A0 y).isSome=true->(A y).isSome=true
theorem Ps.start:Ps N A A 0:=⟨.inl ⟨rfl,fun j hj=>by lia⟩,fun _=>rfl,fun _ h=>h⟩
theorem Ps.skip(h:Ps N A0 A q)(hs:(A (eA N q)).isSome=true->(A (oA N q)).isSome=true):Ps N A0 A (q+1):=⟨by
 rcases h.or with⟨rfl,h2⟩|h1
 ·refine .inl ⟨rfl,fun j hj=>?_⟩
  by_cases e:j=q
  ·subst e;exact hs
  ·exact h2 j (by lia)
 ·exact .inr h1,h.st,h.low⟩
theorem Ky(h:MM N A)(hq:q/2<N.n):(A (eA N q)).isSome=(A (oA N q)).isSome:=by
 unfold eA oA
 by_cases e:q%2=0
 ·rw[if_pos e,if_pos e];exact h _ hq
 ·rw[if_neg e,if_neg e];exact(h _ hq).symm
theorem Ps.put(h:Ps N A0 A q)(hq:q/2<N.n)(he:(A (eA N q)).isSome=true)(ho:A (oA N q)=none)(hp:oA N q<N.p):Ps N A0 (wo A (oA N q) b) (q+1):=by
 have hu:=Ie (N:=N) (b:=b) hp ho;refine⟨.inr ?_,fun hc=>?_,fun y hy=>?_⟩
 ·rcases h.or with⟨rfl,_⟩|h1
  ·exact hu
  ·lia
 ·have e:=h.st hc;rw[e]at he ho;have:=Ky hc hq;rw[he,ho]at this;cases this
 ·by_cases e:y=oA N q
  ·rw[e,rG];rfl
  ·rw[rH e];exact h.low y hy
theorem Ps.done(h:Ps N A0 A (2*N.n)):MM N A\/un N A<un N A0:=by
 rcases h.or with⟨rfl,h2⟩|h1
 ·refine .inl fun k hk=>?_
  have e1:=h2 (2*k) (by lia)
  have e2:=h2 (2*k+1) (by lia)
  unfold eA oA at e1 e2;rw[if_pos (by lia),if_pos (by lia),show 2*k/2=k by lia]at e1
  rw[if_neg (by lia),if_neg (by lia),show(2*k+1)/2=k by lia]at e2
  cases h3:(A (N.a k)).isSome with
  | true=>exact(e1 h3).symm
  | false =>
    cases h4:(A (N.b k)).isSome with
    | false=>rfl
    | true=>rw[e2 h4]at h3;cases h3
 ·exact .inr h1
def Tn(N:Net)(t:Nat)(A:Ap):Prop:=MM N A\/un N A+t<N.p
theorem Tn.next{t:Nat}(h:Tn N t A0)(p:Ps N A0 A (2*N.n)):Tn N (t+1) A:=by
 rcases h with h|h
 ·rw[p.st h];exact .inl h
 ·rcases p.done with d|d
  ·exact .inl d
  ·exact .inr (by lia)
theorem Tn.start(hx:x<N.p)(h:A x=none):Tn N 0 (wo A x b):=.inr (by
 have h1:=Ie (N:=N) (b:=b) hx h;have h2:un N A<=N.p:=HQ _ _
 lia)
theorem Tn.fin(h:Tn N N.p A):MM N A:=by
 rcases h with h|h
 ·exact h
 ·lia
theorem Kz(hc:MM N A)(KA:∀ y,y<x->(A y).isSome=true)(h:A x=none):N.ia N.n x=x:=by
 have e:(A x).isSome=(A (N.ia N.n x)).isSome:=FA (f:=fun y=>(A y).isSome) hc x
 have hle:N.ia N.n x<=x:=vj (S:=fun _=>true) N.n x
 rcases Nat.lt_or_ge (N.ia N.n x) x with h1|h1
 ·rw[KA _ h1,h]at e;cases e
 ·lia
end
end RM
namespace Ring
open PySem L2
def bV:Option Bool->V
 | none=>.eS
 | some b=>.int (b.toNat:Int)
def FG(A:RM.Ap)(p:Nat):List V:=(List.range p).map fun x=>bV (A x)
theorem oZ(A:RM.Ap)(p:Nat):(FG A p).length=p:=by unfold FG;rw[List.length_map,List.length_range]
theorem nP{A:RM.Ap}{p x:Nat}(h:x<p):(FG A p)[x]?=some (bV (A x)):=by
 unfold FG;rw[List.getElem?_map,List.getElem?_range h];rfl
theorem KC{A:RM.Ap}{p x:Nat}(b:Bool):(FG A p).set x (.int (b.toNat:Int))=FG (RM.wo A x b) p:=by
 refine List.ext_getElem? fun i=>?_
 by_cases hi:i<p
 ·rw[nP hi,List.getElem?_set]
  by_cases e:x=i
  ·subst e;rw[if_pos rfl,if_pos (by rw[oZ];exact hi),RM.rG]
   rfl
  ·rw[if_neg e,nP hi,RM.rH (Ne.symm e)]
 ·rw[List.getElem?_eq_none (by rw[List.length_set,oZ];lia),List.getElem?_eq_none (by rw[oZ];lia)]
theorem Ig(p:Nat):FG (fun _=>none) p=List.replicate p .eS:=by
 refine List.ext_getElem? fun i=>?_
 by_cases hi:i<p
 ·rw[nP hi,List.getElem?_replicate,if_pos hi];rfl
 ·rw[List.getElem?_eq_none (by rw[oZ];lia),List.getElem?_eq_none (by rw[List.length_replicate];lia)]
end Ring
namespace L2
open PySem
namespace SS
def Lo(xs:Array Nat)(j p:Nat):Prop:=p<=xs.size/\(∀ i,i<p->xs.getD i 0<j)/\∀ i,p<=i->i<xs.size->j<=xs.getD i 0
theorem Ih{xs:Array Nat}{i a b:Nat}(h:i<xs.size):xs.getD i a=xs.getD i b:=by
 simp[Array.getD,h]
theorem Ii{xs:Array Nat}{j:Nat}(so:∀ a b,a<=b->b<xs.size->xs.getD a 0<=xs.getD b 0):∀(f lo hi:Nat),hi-lo<=f->lo<=hi->hi<=xs.size->(∀ i,i<lo->xs.getD i 0<j)->(∀ i,hi<=i->i<xs.size->j<=xs.getD i 0)->Lo xs j (SetTable.below.go xs j f lo hi)
 | 0,lo,hi,h,hl,hs,h1,h2=>by
   have e:lo=hi:=by lia
   subst e;exact⟨hs,h1,h2⟩
 | f+1,lo,hi,h,hl,hs,h1,h2=>by
   unfold SetTable.below.go
   by_cases hc:lo<hi
   ·rw[if_pos hc];have hm1:lo<=(lo+hi)/2:=by lia
    have hm2:(lo+hi)/2<hi:=by lia
    dsimp only;rw[Ih (b:=0) (show(lo+hi)/2<xs.size by lia)]
    by_cases hq:xs.getD ((lo+hi)/2) 0<j
    ·rw[if_pos hq];refine Ii so f _ _ (by lia) (by lia) hs (fun i hi'=>?_) h2
     have z:=so i ((lo+hi)/2) (by lia) (by lia)
     lia
    ·rw[if_neg hq];refine Ii so f _ _ (by lia) (by lia) (by lia) h1 fun i hi' hi2=>?_
     have z:=so ((lo+hi)/2) i (by lia) hi2
     lia
   ·rw[if_neg hc];have e:lo=hi:=by lia
    subst e;exact⟨hs,h1,h2⟩
def Up(xs:Array Nat):Prop:=∀ a b,a<b->b<xs.size->xs.getD a 0<xs.getD b 0
theorem Up.le{xs:Array Nat}(u:Up xs):∀ a b,a<=b->b<xs.size->xs.getD a 0<=xs.getD b 0:=fun a b h hb=>by
 by_cases e:a=b
 ·subst e;exact Nat.le_refl _
 ·exact Nat.le_of_lt (u a b (by lia) hb)
theorem rJ{xs:Array Nat}(u:Up xs)(j:Nat):Lo xs j (SetTable.below xs j) :=
 Ii u.le _ _ _ (by lia) (Nat.zero_le _) (Nat.le_refl _) (fun i h=>absurd h (Nat.not_lt_zero _)) fun i h1 h2=>by lia
theorem Lo.one{xs:Array Nat}{j p q:Nat}(a:Lo xs j p)(b:Lo xs j q):p=q:=by
 rcases Nat.lt_trichotomy p q with h|h|h
 ·have z1:=b.2.1 p h;have z2:=a.2.2 p (Nat.le_refl _) (by have:=b.1;lia)
  lia
 ·exact h
 ·have z1:=a.2.1 q h;have z2:=b.2.2 q (Nat.le_refl _) (by have:=a.1;lia)
  lia
theorem Ds{xs:Array Nat}(u:Up xs):SetTable.below xs 0=0 :=
 (rJ u 0).one ⟨Nat.zero_le _,fun i h=>absurd h (Nat.not_lt_zero _),fun i _ _=>Nat.zero_le _⟩
theorem Dt{xs:Array Nat}(u:Up xs){i:Nat}(h:i<xs.size):SetTable.below xs (xs.getD i 0+1)=i+1 :=
 (rJ u _).one ⟨h,fun k hk=>by have z:=u.le k i (by lia) h;lia,fun k h1 h2=>u i k (by lia) h2⟩
theorem has_none(j:Nat):SetTable.has #[] j=false:=by
 unfold SetTable.has SetTable.below SetTable.below.go;rfl
theorem tG{t:SetTable}{j:Nat}(hd:t.dummies = #[])(hj:j∉t.place.toList):t.slot j = .empty:=by
 unfold SetTable.slot;dsimp only;rw[if_neg,if_neg]
 ·rw[hd,has_none];decide
 ·intro z;have e:t.place[SetTable.below t.place j]?=some j:=by simpa using z
  rw[<-Array.getElem?_toList]at e;exact hj (nB e)
theorem wq{t:SetTable}{j:Nat}(u:Up t.place)(hj:j∈t.place.toList):∃ i,t.slot j = .live i:=by
 obtain⟨i,hi,e⟩:=List.getElem_of_mem hj;have hi' : i<t.place.size:=by simpa using hi
 have e' : t.place.getD i 0=j:=by simpa[Array.getD,hi']using e
 have hb:SetTable.below t.place j=i:=(rJ u j).one ⟨Nat.le_of_lt hi',fun k hk=>by have z:=u k i hk hi';lia,fun k h1 h2=>by have z:=u.le i k h1 h2;lia⟩
 refine⟨i,?_⟩;unfold SetTable.slot;dsimp only;rw[hb,if_pos];have:t.place[i]?=some j:=by
  rw[<-Array.getElem?_toList,List.getElem?_eq_getElem hi,e]
 rw[this];exact beq_self_eq_true _
def Hs(h:Int):Prop:=h = -2\/(0<=h/\h<30)
def lG(h:Int):Nat:=if h = -2 then 30 else h.toNat
theorem wu{h:Int}(hh:Hs h):lG h<32:=by
 unfold lG;rcases hh with rfl|hh
 ·decide
 ·rw[if_neg (by lia)];lia
theorem wz{h:Int}(hh:0<=h/\h<30):SetTable.bits h=lG h:=by
 unfold SetTable.bits lG;rw[Int.emod_eq_of_lt hh.1 (by lia),if_neg (by lia)]
theorem BN{h:Int}(hh:Hs h):SetTable.bits h%32=lG h:=by
 rcases hh with rfl|hh
 ·decide
 ·rw[wz hh];exact Nat.mod_eq_of_lt (wu (.inr hh))
def bZ(BO:Nat->Bool):Nat->Nat->Option Nat
 | 0,_=>none
 | f+1,i=>if BO i then bZ BO f ((i*5+1)%8) else some i
theorem nQ{BO:Nat->Bool}:∀{f i j:Nat},bZ BO f i=some j->BO j=false
 | 0,_,_,h=>by cases h
 | f+1,i,j,h=>by
   unfold bZ at h
   split at h
   ·exact nQ h
   ·rename_i q
    cases h
    simpa using q
theorem rK{BO:Nat->Bool}:∀{f i j:Nat},i<8->bZ BO f i=some j->j<8
 | 0,_,_,_,h=>by cases h
 | f+1,i,j,hi,h=>by
   unfold bZ at h
   split at h
   ·exact rK (Nat.mod_lt _ (by decide)) h
   ·cases h;exact hi
theorem wA{BO:Nat->Bool}{l:List Nat}(ho:∀ j,BO j=true->j∈l)(hl:l.length<=4){i:Nat}(hi:i<8):∃ j,bZ BO 5 i=some j:=by
 cases h:bZ BO 5 i with
 | some j=>exact⟨j,rfl⟩
 | none =>
   exfalso
   have key:∀ f i,bZ BO f i=none->∀ k,k<f->BO (Nat.rec i (fun _ z=>(z*5+1)%8) k)=true:=by
    intro f
    induction f with
    | zero=>intro i _ k hk;lia
    | succ f ih =>
      intro i hn k hk;unfold bZ at hn
      split at hn
      ·rename_i q
       cases k with
       | zero=>exact q
       | succ k =>
         have z:=ih _ hn k (by lia)
         have e:∀ k,(Nat.rec ((i*5+1)%8) (fun _ z=>(z*5+1)%8) k:Nat)=Nat.rec i (fun _ z=>(z*5+1)%8) (k+1):=by
          intro k
          induction k with
          | zero=>rfl
          | succ k ih2=>show(_*5+1)%8=(_*5+1)%8;rw[ih2]
         rw[<-e k];exact z
      ·cases hn
   have nd:∀ i,i<8->((List.range 5).map fun k=>(Nat.rec i (fun _ z=>(z*5+1)%8) k:Nat)).Nodup:=by decide
   have z:=(nd i hi).length_le_of_subset (l₂:=l) fun x hx=>by
    obtain⟨k,hk,rfl⟩:=List.mem_map.mp hx;exact ho _ (key 5 i h k (List.mem_range.mp hk))
   rw[List.length_map,List.length_range]at z
   lia
theorem qt{t:SetTable}{g:Nat->Int}{h:Int}(hm:t.mask=7)(hd:t.dummies = #[])(u:Up t.place)(hg:∀ i,(g i==h)=false):∀{f i j q:Nat},i<8->q<32->bZ (fun j=>decide (j∈t.place.toList)) f i=some j->
 SetTable.probe.go t g h f { j:=i,more:=0,i:=i,perturb:=q,dummy:=none}=some (.empty j none)
 | 0,_,_,_,_,_,e=>by cases e
 | f+1,i,j,q,hi,hq,e=>by
   unfold bZ at e;unfold SetTable.probe.go
   by_cases c:i∈t.place.toList
   ·rw[if_pos (by simpa using c)]at e
    obtain⟨k,hk⟩:=wq u c;dsimp only;rw[hk];dsimp only;rw[hg k];simp only[Bool.false_eq_true,if_false];have ha:t.advance { j:=i,more:=0,i:=i,perturb:=q,dummy:=none}={ j:=(i*5+1)%8,more:=0,i:=(i*5+1)%8,perturb:=0,dummy:=none}:=by
     have e0:q/32=0:=by lia
     have e1 : ¬((i*5+1)%8+9<=7):=by lia
     simp[SetTable.advance,SetTable.leap,SetTable.runEnd,hm,e0,e1]
    rw[ha];exact qt hm hd u hg (Nat.mod_lt _ (by decide)) (by decide) e
   ·rw[if_neg (by simpa using c)]at e
    cases e;dsimp only;rw[tG hd c]
theorem Au{BO:Nat->Bool}:∀{f g i j:Nat},bZ BO f i=some j->f<=g->bZ BO g i=some j
 | 0,_,_,_,h,_=>by cases h
 | f+1,0,_,_,_,hg=>by lia
 | f+1,g+1,i,j,h,hg=>by
   unfold bZ at h ⊢
   split
   ·rename_i q
    rw[if_pos q]at h;exact Au h (by lia)
   ·rename_i q
    rw[if_neg q]at h;exact h
theorem cO{t:SetTable}{g:Nat->Int}{h:Int}(hm:t.mask=7)(u:Up t.place)(hg:∀ i,(g i==h)=false)(c:6∈t.place.toList){q:Nat}(hq:(31+q/32)%8=6)(f:Nat):
 SetTable.probe.go t g h (f+1) { j:=6,more:=0,i:=6,perturb:=q,dummy:=none}=SetTable.probe.go t g h f { j:=6,more:=0,i:=6,perturb:=q/32,dummy:=none}:=by
 obtain⟨k,hk⟩:=wq u c;rw[SetTable.probe.go];dsimp only;rw[hk];dsimp only;rw[hg k];simp only[Bool.false_eq_true,if_false];have ha:t.advance { j:=6,more:=0,i:=6,perturb:=q,dummy:=none}={ j:=6,more:=0,i:=6,perturb:=q/32,dummy:=none}:=by
  simp[SetTable.advance,SetTable.leap,SetTable.runEnd,hm,hq]
 rw[ha]
theorem BP{t:SetTable}{g:Nat->Int}{h:Int}(hm:t.mask=7)(u:Up t.place)(hg:∀ i,(g i==h)=false)(c:6∈t.place.toList)(f:Nat):
 SetTable.probe.go t g h (f+12) { j:=6,more:=0,i:=6,perturb:=18446744073709551614,dummy:=none}=SetTable.probe.go t g h f { j:=6,more:=0,i:=6,perturb:=15,dummy:=none}:=by
 rw[show f+12=(f+11)+1 by lia,cO hm u hg c (by decide),show f+11=(f+10)+1 by lia,cO hm u hg c (by decide),show f+10=(f+9)+1 by lia,cO hm u hg c (by decide),show f+9=(f+8)+1 by lia,cO hm u hg c (by decide),show f+8=(f+7)+1 by lia,cO hm u hg c (by decide),show f+7=(f+6)+1 by lia,cO hm u hg c (by decide),show f+6=(f+5)+1 by lia,cO hm u hg c (by decide),show f+5=(f+4)+1 by lia,cO hm u hg c (by decide),show f+4=(f+3)+1 by lia,cO hm u hg c (by decide),show f+3=(f+2)+1 by lia,cO hm u hg c (by decide),show f+2=(f+1)+1 by lia,cO hm u hg c (by decide),cO hm u hg c (by decide)]
theorem OJ{t:SetTable}(hm:t.mask=7)(hd:t.dummies = #[])(u:Up t.place)(hl:t.place.size<=4){h:Int}(hh:Hs h):∃ j,j<8/\j∉t.place.toList/\t.freeSlot h=some (j,false):=by
 obtain⟨j,e⟩:=wA (BO:=fun j=>decide (j∈t.place.toList)) (l:=t.place.toList) (fun j q=>by simpa using q) (by simpa using hl) (show lG h%8<8 by lia)
 refine⟨j,rK (by lia) e,by simpa using nQ e,?_⟩
 unfold SetTable.freeSlot SetTable.probe;rcases hh with rfl|hh
 ·have hs:t.probeStart (-2)={ j:=6,more:=0,i:=6,perturb:=18446744073709551614,dummy:=none}:=by
   have e2:SetTable.bits (-2)=18446744073709551614:=by decide
   simp[SetTable.probeStart,e2,hm,SetTable.runEnd]
  have e:bZ (fun j=>decide (j∈t.place.toList)) 5 6=some j:=e
  rw[hs]
  by_cases c:6∈t.place.toList
  ·rw[show 10*SetTable.turns t.mask=208+12 by rw[hm];decide,BP hm u (fun i=>by simp) c,qt hm hd u (fun i=>by simp) (f:=208) (by lia) (by lia) (Au e (by lia))]
   rfl
  ·have e3:some 6=some j:=by
    rw[<-e];unfold bZ;rw[if_neg (by simpa using c)]
   cases e3;rw[show 10*SetTable.turns t.mask=219+1 by rw[hm];decide]
   rw[SetTable.probe.go];dsimp only;rw[tG hd c];rfl
 ·have hp:=wu (.inr hh);have hs:t.probeStart h={ j:=lG h%8,more:=0,i:=lG h%8,perturb:=lG h,dummy:=none}:=by
   have e1 : ¬(lG h%8+9<=7):=by lia
   simp[SetTable.probeStart,wz hh,hm,SetTable.runEnd,e1]
  rw[hs,qt hm hd u (fun i=>by simp;lia) (f:=10*SetTable.turns t.mask) (by lia) hp (Au e (by rw[hm];decide))]
  rfl
theorem MN{t:SetTable}(hm:t.mask=31)(hd:t.dummies = #[]){h:Int}(hh:Hs h)(hn:lG h∉t.place.toList):t.freeSlot h=some (lG h,false):=by
 unfold SetTable.freeSlot SetTable.probe;rw[hm,show 10*SetTable.turns 31=459+1 by decide]
 unfold SetTable.probe.go;have hj:(t.probeStart h).j=lG h:=by
  unfold SetTable.probeStart;dsimp only;rw[hm];exact BN hh
 have Q4:(t.probeStart h).dummy=none:=rfl;rw[hj,tG hd hn,Q4];rfl
theorem Du{xs:Array Nat}:Up xs↔xs.toList.Pairwise (· < ·):=by
 rw[List.pairwise_iff_getElem]
 constructor
 ·intro u i j hi hj hij;have hi' : i<xs.size:=by simpa using hi
  have hj' : j<xs.size:=by simpa using hj
  have z:=u i j hij hj'
  simpa[Array.getD,hi',hj']using z
 ·intro p a b hab hb;have ha:a<xs.size:=by lia
  have z:=p a b (by simpa using ha) (by simpa using hb) hab
  simpa[Array.getD,ha,hb]using z
theorem FH{xs:Array Nat}(u:Up xs){j:Nat}(hj:j∉xs.toList):Up (SetTable.insertAt xs (SetTable.below xs j) j):=by
 have b:=rJ u j;generalize SetTable.below xs j=p at b;rw[Du,SetTable.toList_insertAt,List.pairwise_append,List.pairwise_cons];have pw:=Du.mp u;have KA:∀ a∈xs.toList.take p,a<j:=fun a ha=>by
  obtain⟨i,hi,e⟩:=List.getElem_of_mem ha;rw[List.getElem_take]at e;have h1:i<p:=by rw[List.length_take]at hi;lia
  have h2:i<xs.size:=by have:=b.1;lia
  have z:=b.2.1 i h1;simp[Array.getD,h2]at z;simp at e
  lia
 have Lj:∀ a∈xs.toList.drop p,j<a:=fun a ha=>by
  obtain⟨i,hi,e⟩:=List.getElem_of_mem ha;rw[List.getElem_drop]at e;have h2:p+i<xs.size:=by rw[List.length_drop]at hi;simp at hi;lia
  have z:=b.2.2 (p+i) (by lia) h2
  simp[Array.getD,h2]at z;simp at e;have ne:j≠a:=fun q=>hj (by rw[q,<-e];simp)
  lia
 exact⟨pw.sublist (List.take_sublist _ _),⟨Lj,pw.sublist (List.drop_sublist _ _)⟩,fun a ha b' hb=>by
  rcases List.mem_cons.mp hb with rfl|hb
  ·exact KA a ha
  ·exact Nat.lt_trans (KA a ha) (Lj b' hb)⟩
def Ow(owner:Array (Option Nat))(hs:List Nat):Prop:=owner.size=32/\∀ j k,owner.getD j none=some k↔hs[k]?=some j
theorem Ij{owner:Array (Option Nat)}{hs:List Nat}(o:Ow owner hs){h:Nat}(hh:h<32)(hn:h∉hs)(q:Nat):SetTable.layClean.free 31 owner (SetTable.turns 31) h q=some h:=by
 rw[show SetTable.turns 31=45+1 by decide]
 unfold SetTable.layClean.free;have hr:∃ r,List.range (SetTable.runEnd 31 h+1-h)=0::r:=by
  have hp:1<=SetTable.runEnd 31 h+1-h:=by
   unfold SetTable.runEnd
   split<;>lia
  obtain⟨m,hm⟩:∃ m,SetTable.runEnd 31 h+1-h=m+1:=⟨_,(Nat.sub_add_cancel hp).symm⟩;rw[hm,List.range_succ_eq_map];exact⟨_,rfl⟩
 obtain⟨r,hr⟩:=hr;have hf:owner.getD (h+0) (some 0)=none:=by
  have z:owner.getD h none=none:=by
   cases e:owner.getD h none with
   | none=>rfl
   | some k=>exact absurd (nB ((o.2 h k).mp e)) hn
  have hz:h<owner.size:=by rw[o.1];exact hh
  simp[Array.getD,hz]at z ⊢;exact z
 rw[hr,List.find?_cons_of_pos (by rw[hf];rfl)]
 rfl
theorem KD{owner:Array (Option Nat)}{hs:List Nat}(o:Ow owner hs){h:Nat}(hh:h<32)(hn:h∉hs):Ow (owner.setIfInBounds h (some hs.length)) (hs++[h]):=by
 refine⟨by rw[Array.size_setIfInBounds];exact o.1,fun j k=>?_⟩
 have hz:h<owner.size:=by rw[o.1];exact hh
 by_cases e:j=h
 ·subst e;have:(owner.setIfInBounds j (some hs.length)).getD j none=some hs.length:=by simp[Array.getD,hz]
  rw[this]
  constructor
  ·intro q;cases q;simp
  ·intro q
   by_cases hk:k<hs.length
   ·rw[List.getElem?_append_left hk]at q;exact absurd (nB q) hn
   ·by_cases hk2:k=hs.length
    ·rw[hk2]
    ·rw[List.getElem?_eq_none (by simp;lia)]at q
     cases q
 ·have:(owner.setIfInBounds h (some hs.length)).getD j none=owner.getD j none:=by
   simp only[Array.getD_eq_getD_getElem?,Array.getElem?_setIfInBounds_ne (Ne.symm e)]
  rw[this,o.2 j k]
  by_cases hk:k<hs.length
  ·rw[List.getElem?_append_left hk]
  ·rw[List.getElem?_eq_none (by lia)]
   constructor
   ·intro q;cases q
   ·intro q
    by_cases hk2:k=hs.length
    ·rw[hk2,List.getElem?_append_right (Nat.le_refl _)]at q;simp at q;exact absurd q.symm e
    ·rw[List.getElem?_eq_none (by simp;lia)]at q
     cases q
theorem MO:Ow (Array.replicate 32 none) []:=⟨by simp,fun j k=>by
 simp[Array.getD]⟩
theorem BQ:∀(more:List Int) (hs:List Nat) (owner:Array (Option Nat)),Ow owner hs->(∀ h∈more,Hs h)->(hs++more.map lG).Nodup->
 ∃ ow,Ow ow (hs++more.map lG)/\List.foldl (fun(acc:Option (Array (Option Nat)×Nat)) (h:Int)=>(do
   let(owner,k)←acc
   let j←SetTable.layClean.free 31 owner (SetTable.turns 31) (SetTable.bits h%(31+1)) (SetTable.bits h)
   pure (owner.setIfInBounds j (some k),k+1):Option (Array (Option Nat)×Nat))) (some (owner,hs.length)) more=some (ow,(hs++more.map lG).length)
 | [],hs,owner,o,_,_=>⟨owner,by rw[List.map_nil,List.append_nil];exact o,by rw[List.map_nil,List.append_nil];rfl⟩
 | h::more,hs,owner,o,hm,nd=>by
   have hh:=hm h (List.mem_cons_self ..);have hn:lG h∉hs:=fun z=>(List.nodup_append.mp nd).2.2 _ z _ (List.mem_cons_self ..) rfl
   have e:hs++(h::more).map lG=(hs++[lG h])++more.map lG:=by simp
   obtain⟨ow,o2,q⟩:=BQ more (hs++[lG h]) _ (KD o (wu hh) hn) (fun x hx=>hm x (CB _ hx)) (by rw[<-e];exact nd)
   refine⟨ow,by rw[e];exact o2,?_⟩
   rw[e,<-q,List.foldl_cons]
   congr 1
   show(do let j←SetTable.layClean.free 31 owner (SetTable.turns 31) (SetTable.bits h%(31+1)) (SetTable.bits h);pure (owner.setIfInBounds j (some hs.length),hs.length+1):Option (Array (Option Nat)×Nat))=_
   rw[show SetTable.bits h%(31+1)=lG h from BN hh,Ij o (wu hh) hn,List.length_append]
   rfl
theorem KG{hs:List Int}(hm:∀ h∈hs,Hs h)(nd:(hs.map lG).Nodup):∃ ow,Ow ow (hs.map lG)/\SetTable.layClean 31 hs.toArray=some ow:=by
 obtain⟨ow,o,e⟩:=BQ hs [] _ MO hm (by rw[List.nil_append];exact nd)
 rw[List.nil_append]at o;refine⟨ow,o,?_⟩;unfold SetTable.layClean;rw[<-Array.foldl_toList];exact congrArg (Option.map (·.1)) e
def fT(es:Array (Int×Value)):List Nat:=es.toList.map fun e=>lG e.1
structure Tb(led:Bool)(es:Array (Int×Value))(t:SetTable):Prop where
 led:t.led=led
 plain:t.plain=true
 KH:t.dummies = #[]
 up:Up t.place
 size:t.place.size=es.size
 small:∀ e∈es.toList,Hs e.1
 nd:(fT es).Nodup
 mask:(t.mask=7/\es.size<=4)\/(t.mask=31/\es.size<=18/\t.place.toList=fT es)
theorem Tb.fits{led:Bool}{es:Array (Int×Value)}{t:SetTable}(b:Tb led es t):t.fits es.size=true:=by
 have h1:=b.size;have h2:t.fill=es.size:=by unfold SetTable.fill;rw[b.KH,h1];rfl
 unfold SetTable.fits;rw[h1,h2];rcases b.mask with⟨m,z⟩|⟨m,z,_⟩<;>rw[m]<;>simp<;>lia
theorem Ik{es:Array (Int×Value)}(s:∀ e∈es.toList,Hs e.1):∀ h∈fT es,h<32:=fun h hh=>by
 obtain⟨e,he,rfl⟩:=List.mem_map.mp hh;exact wu (s e he)
theorem FI(es:Array (Int×Value))(p:Nat)(h:Int)(x:Value):fT (SetTable.insertAt es p (h,x))=(fT es).take p++lG h::(fT es).drop p:=by
 unfold fT;rw[SetTable.toList_insertAt,List.map_append,List.map_cons,List.map_take,List.map_drop]
theorem size_insert{α:Type}(xs:Array α)(p:Nat)(x:α):(SetTable.insertAt xs p x).size=xs.size+1:=by
 have z:=(SetTable.insertAt_perm xs p x).length_eq
 simpa using z
theorem KI{es:Array (Int×Value)}{t:SetTable}(s:∀ e∈es.toList,Hs e.1)(nd:(fT es).Nodup)(hz:es.size<=18)(hp:t.plain=true){wanted:Nat}(hw:SetTable.sizeAbove wanted-1=31):
 ∃ es' t',relayAll t es wanted=(es',t',false)/\Tb t.led es' t':=by
 have em:(es.toList.map (·.1)).map lG=fT es:=by
  unfold fT;rw[List.map_map];rfl
 obtain⟨ow,o,hc⟩:=KG (hs:=es.toList.map (·.1)) (fun h hh=>by
  obtain⟨e,he,rfl⟩:=List.mem_map.mp hh;exact s e he) (by rw[em];exact nd)
 rw[em]at o;have hmap:es.map (·.1)=(es.toList.map (·.1)).toArray:=by
  apply Array.toList_inj.mp;rw[Array.toList_map,List.toList_toArray]
 let live:=(List.range (31+1)).filterMap fun j=>(ow.getD j none).map (j,·)
 have hlive:∀ j k,(j,k)∈live↔(fT es)[k]?=some j:=fun j k=>by
  constructor
  ·intro h;obtain⟨j',hj',e⟩:=List.mem_filterMap.mp h;obtain⟨k',e1,e2⟩:=CD.mp e;cases e2;exact(o.2 j k).mp e1
  ·intro h;refine List.mem_filterMap.mpr ⟨j,?_,?_⟩
   ·have:=Ik s j (nB h);exact List.mem_range.mpr (by lia)
   ·rw[(o.2 j k).mpr h];rfl
 have hup:live.Pairwise fun a b=>a.1<b.1:=List.Pairwise.filterMap (R:=fun a b=>a<b) _ (fun a a' haa b hb b' hb'=>by
  obtain⟨_,_,rfl⟩:=CD.mp hb;obtain⟨_,_,rfl⟩:=CD.mp hb';exact haa) List.pairwise_lt_range
 have hord:(live.map (·.2)).Perm (List.range es.size):=by
  refine(List.perm_ext_iff_of_nodup ?_ List.nodup_range).mpr fun k=>?_
  ·have z:live.Pairwise fun a b=>a.2≠b.2:=by
    refine List.Pairwise.imp_of_mem (R:=fun a b=>a.1<b.1) (fun {a b} ha hb hab e=>?_) hup
    have h1:=(hlive a.1 a.2).mp ha;have h2:=(hlive b.1 b.2).mp hb;rw[e,h2]at h1;have:=Option.some.inj h1
    lia
   exact List.pairwise_map.mpr z
  ·rw[List.mem_range]
   constructor
   ·intro h;obtain⟨⟨j,k'⟩,h1,rfl⟩:=List.mem_map.mp h;have z:=(xZ.mp ((hlive j k').mp h1)).1
    simpa[fT]using z
   ·intro h;have hl:k<(fT es).length:=by simpa[fT]using h
    exact List.mem_map.mpr ⟨((fT es)[k],k),(hlive _ _).mpr (List.getElem?_eq_getElem hl),rfl⟩
 have hlen:live.length=es.size:=by
  have z:=hord.length_eq
  simpa using z
 have KJ:t.relaid (es.map (·.1)) wanted=some ({ mask:=31,place:=(live.map (·.1)).toArray,dummies:=#[],finger:=t.finger,led:=t.led,moves:=t.movedTo 31,plain:=t.plain},(live.map (·.2)).toArray):=by
  unfold SetTable.relaid;rw[hw,hmap];unfold SetTable.laid;rw[hc];rfl
 have TY:coversAll (live.map (·.2)).toArray es.size=true:=by
  unfold coversAll;rw[List.toList_toArray];exact List.isPerm_iff.mpr hord
 have hes:((live.map (·.2)).toArray.filterMap (es[·]?)).toList.map (fun e=>lG e.1)=live.map (·.1):=by
  rw[Array.toList_filterMap,List.toList_toArray];have:∀ l:List (Nat×Nat),(∀ a∈l,a∈live)->((l.map (·.2)).filterMap (fun i=>es[i]?)).map (fun e=>lG e.1)=l.map (·.1):=by
   intro l
   induction l with
   | nil=>intro _;rfl
   | cons a r ih =>
     intro hl;have z:=(hlive a.1 a.2).mp (hl a (List.mem_cons_self ..));unfold fT at z;rw[List.getElem?_map,Array.getElem?_toList]at z;obtain⟨e,e1,e2⟩:=CD.mp z;rw[List.map_cons,List.filterMap_cons_some (b:=e) e1,List.map_cons,List.map_cons,e2,ih fun b hb=>hl b (CB _ hb)]
  exact this live fun a ha=>ha
 have hsz:((live.map (·.2)).toArray.filterMap (es[·]?)).size=es.size:=by
  have z:=congrArg List.length hes;rw[List.length_map,List.length_map,Array.length_toList,hlen]at z;exact z
 have hfit:SetTable.fits { mask:=31,place:=(live.map (·.1)).toArray,dummies:=#[],finger:=t.finger,led:=t.led,moves:=t.movedTo 31,plain:=t.plain} ((live.map (·.2)).toArray.filterMap (es[·]?)).size=true:=by
  rw[hsz];unfold SetTable.fits SetTable.fill;simp[hlen]
  lia
 refine⟨(live.map (·.2)).toArray.filterMap (es[·]?),{ mask:=31,place:=(live.map (·.1)).toArray,dummies:=#[],finger:=t.finger,led:=t.led,moves:=t.movedTo 31,plain:=t.plain},?_,⟨rfl,hp,rfl,?_,?_,fun e he=>?_,?_,.inr ⟨rfl,by rw[hsz];exact hz,?_⟩⟩⟩
 ·unfold relayAll;rw[KJ];dsimp only;rw[TY,hfit];rfl
 ·rw[Du,List.toList_toArray];exact List.pairwise_map.mpr hup
 ·rw[hsz,List.size_toArray,List.length_map,hlen]
 ·rw[Array.toList_filterMap]at he;obtain⟨i,_,q⟩:=List.mem_filterMap.mp he;rw[<-Array.getElem?_toList]at q;exact s e (nB q)
 ·unfold fT;rw[hes];exact(List.pairwise_map.mpr hup).imp fun h e=>by lia
 ·rw[List.toList_toArray];exact hes.symm
theorem MP{led:Bool}{es:Array (Int×Value)}{t:SetTable}(b:Tb led es t){h:Int}(x:Value)(hh:Hs h)(hn:lG h∉fT es)(hz:es.size<18):
 ∃ es1 t2,layNew t es h x=(es1,t2,false,false)/\t2.plain=true/\t2.led=led/\t2.fits es1.size=true/\es1.toList.Perm (es.toList++[(h,x)])/\
   ((t2.tooFull=false/\Tb led es1 t2)\/(t2.tooFull=true/\∃ FJ t3,relayAll t2 es1 (SetTable.grown es1.size)=(FJ,t3,false)/\Tb led FJ t3)):=by
 have key:∃ j,j∉t.place.toList/\t.freeSlot h=some (j,false)/\(t.mask=31->j=lG h):=by
  rcases b.mask with⟨m,z⟩|⟨m,z,e⟩
  ·obtain⟨j,_,h2,h3⟩:=OJ m b.KH b.up (by rw[b.size];exact z) hh
   exact⟨j,h2,h3,fun q=>by rw[m]at q;cases q⟩
  ·exact⟨lG h,by rw[e];exact hn,MN m b.KH hh (by rw[e];exact hn),fun _=>rfl⟩
 obtain⟨j,hj,hf,hjm⟩:=key;have OL:t.put j=({ t with place:=SetTable.insertAt t.place (SetTable.below t.place j) j},SetTable.below t.place j):=by
  unfold SetTable.put;rw[b.KH,has_none];obtain⟨m,pl,d,fi,l,mv,pn⟩:=t;have hd:d = #[]:=b.KH;subst hd;rfl
 generalize hpe:SetTable.below t.place j=p at OL;have hup:Up (SetTable.insertAt t.place p j):=hpe▸FH b.up hj;have Q6:(SetTable.insertAt t.place p j).size=es.size+1:=by rw[size_insert,b.size]
 have hes:(SetTable.insertAt es p (h,x)).size=es.size+1:=size_insert _ _ _;have hfit:SetTable.fits { t with place:=SetTable.insertAt t.place p j} (SetTable.insertAt es p (h,x)).size=true:=by
  unfold SetTable.fits SetTable.fill;rw[hes];dsimp only;rw[Q6,b.KH];rcases b.mask with⟨m,z⟩|⟨m,z,_⟩<;>rw[m]<;>simp<;>lia
 have pN:(SetTable.insertAt es p (h,x)).toList.Perm (es.toList++[(h,x)]):=by
  have z:=SetTable.insertAt_perm es p (h,x);rw[Array.toList_push]at z;exact z
 have hsm:∀ e∈(SetTable.insertAt es p (h,x)).toList,Hs e.1:=fun e he=>by
  rcases List.mem_append.mp (pN.mem_iff.mp he) with q|q
  ·exact b.small e q
  ·rw[List.mem_singleton]at q;subst q;exact hh
 have hnd:(fT (SetTable.insertAt es p (h,x))).Nodup:=by
  have z:(fT (SetTable.insertAt es p (h,x))).Perm (fT es++[lG h]):=by
   have z:=pN.map fun e:Int×Value=>lG e.1
   rw[List.map_append]at z;exact z
  refine z.nodup_iff.mpr (List.nodup_append.mpr ⟨b.nd,by simp,fun a ha c hc e=>?_⟩)
  rw[List.mem_singleton]at hc;subst hc;subst e;exact hn ha
 refine⟨SetTable.insertAt es p (h,x),{ t with place:=SetTable.insertAt t.place p j},?_,b.plain,b.led,hfit,pN,?_⟩
 ·unfold layNew;rw[hf];dsimp only;rw[OL];dsimp only;unfold SetTable.orStandIn;rw[hfit];rfl
 ·have htf:SetTable.tooFull { t with place:=SetTable.insertAt t.place p j}=decide (t.mask*3<=(es.size+1)*5):=by
   unfold SetTable.tooFull SetTable.fill;dsimp only;rw[Q6,b.KH];rfl
  rw[htf,hes];rcases b.mask with⟨m,z⟩|⟨m,z,e⟩
  ·by_cases h4:es.size=4
   ·refine .inr ⟨by rw[m,h4];decide,?_⟩
    obtain⟨FJ,t3,r1,r2⟩:=KI (t:={ t with place:=SetTable.insertAt t.place p j}) hsm hnd (by lia) b.plain (wanted:=SetTable.grown (es.size+1)) (by rw[h4];decide)
    have hl:({ t with place:=SetTable.insertAt t.place p j}:SetTable).led=led:=b.led
    rw[hl]at r2;exact⟨FJ,t3,r1,r2⟩
   ·exact .inl ⟨by rw[m];simp;lia,⟨b.led,b.plain,b.KH,hup,by rw[hes];exact Q6,hsm,hnd,.inl ⟨m,by rw[hes];lia⟩⟩⟩
  ·refine .inl ⟨by rw[m];simp;lia,⟨b.led,b.plain,b.KH,hup,by rw[hes];exact Q6,hsm,hnd,.inr ⟨m,by rw[hes];lia,?_⟩⟩⟩
   rw[FI,SetTable.toList_insertAt,e,hjm m]
theorem MQ(led:Bool):Tb led #[] (.fresh 0 0 led):=⟨rfl,rfl,rfl,fun a b _ h=>absurd h (Nat.not_lt_zero _),rfl,fun e h=>absurd h (by simp),List.nodup_nil,.inl ⟨rfl,by decide⟩⟩
end SS
open PySem PySem.Spec PyProof.Rows
namespace SS
def Vz(z:Int):Prop:=-1<=z/\z<30
def pz(z:Int):Nat:=if z = -1 then 30 else z.toNat
theorem o4{z:Int}(h:Vz z):Hs (hashInt z)/\lG (hashInt z)=pz z:=by
 by_cases e:z = -1
 ·subst e;exact⟨.inl (by decide),by decide⟩
 ·obtain⟨k,rfl⟩:=Int.eq_ofNat_of_zero_le (show 0<=z by unfold Vz at h;lia)
  have all:∀ k:Nat,k<30->hashInt (k:Int)=(k:Int):=by decide
  have hk:k<30:=by have:=h.2;lia
  rw[all k hk];refine⟨.inr ⟨by lia,by lia⟩,?_⟩
  unfold lG pz;rw[if_neg (by lia),if_neg e]
theorem Dv{z y:Int}(h:Vz z)(h' : Vz y)(e:pz z=pz y):z=y:=by
 unfold pz at e;unfold Vz at h h'
 by_cases e1:z = -1<;>by_cases e2:y = -1
 ·lia
 ·rw[if_pos e1,if_neg e2]at e;lia
 ·rw[if_neg e1,if_pos e2]at e;lia
 ·rw[if_neg e1,if_neg e2]at e;lia
def Nums(es:Array (Int×Value)):Prop:=∀ e∈es.toList,∃(z:Int) (t:Tok),Vz z/\e=(hashInt z,.int z t)
def qu(h:Heap)(a:Addr)(led:Bool)(zs:List Int):Prop :=
 ∃ o es ep t,h.get? a=some o/\o.ExactSet/\o.data = .set es ep t/\Nums es/\Tb led es t/\∀ z,Vz z->(pz z∈fT es↔z∈zs)
theorem Nums.place{es:Array (Int×Value)}(n:Nums es){k:Nat}(h:k∈fT es):∃ z,Vz z/\pz z=k/\∃ t,(hashInt z,Value.int z t)∈es.toList:=by
 obtain⟨e,he,q⟩:=List.mem_map.mp h;obtain⟨z,t,hz,rfl⟩:=n e he;exact⟨z,hz,by rw[<-(o4 hz).2];exact q,t,he⟩
theorem Nums.elems{P:Program}{w:World}{es:Array (Int×Value)}(n:Nums es):ElemsOf (intKind P w) es.toList:=fun e he=>by
 obtain⟨z,t,hz,rfl⟩:=n e he;exact⟨⟨z,intKind_is _ _ _ _,rfl⟩,rfl⟩
theorem Nums.mem{P:Program}{w:World}{es:Array (Int×Value)}(n:Nums es){z:Int}(hz:Vz z):(∃ e∈es.toList,(intKind P w).is z e.2=true)↔pz z∈fT es:=by
 constructor
 ·rintro⟨e,he,hq⟩;obtain⟨y,t,hy,rfl⟩:=n e he;have q:(y==z)=true:=hq;have q:y=z:=by simpa using q
  subst q;exact List.mem_map.mpr ⟨_,he,(o4 hy).2⟩
 ·intro h;obtain⟨y,hy,e,t,he⟩:=n.place h;have q:=Dv hy hz e;subst q;exact⟨_,he,intKind_is _ _ _ _⟩
theorem qu.few{led:Bool}{zs:List Int}{es:Array (Int×Value)}{t:SetTable}(n:Nums es)(b:Tb led es t)(hm:∀ z,Vz z->(pz z∈fT es↔z∈zs)):es.size<=zs.length:=by
 have z:=b.nd.length_le_of_subset (l₂:=zs.map pz) fun k hk=>by
  obtain⟨z,hz,rfl,_⟩:=n.place hk;exact List.mem_map.mpr ⟨z,(hm z hz).mp hk,rfl⟩
 simpa[fT]using z
section
variable {P:Program}{w:World}{A:Around}{E:gj}{s:Shared}
theorem OM{a:Addr}{led:Bool}{ks:List Int}{k:Int}{tk:Tok}{Q:Bool->Shared->Prop}(g:qu s.heap a led ks)(hk:Vz k)(hl:ks.length<18)
 (q:∀(b:Bool) (h' : Heap),Heap.SameBut a s.heap h'->qu h' a led (ks++[k])->Q b { s with heap:=h'}):wpAny (model P w) A (setAddHashed a (.int k tk) (hashInt k)) Q E s:=by
 obtain⟨o,es,ep,t,ho,hex,hd,nums,tb,hm⟩:=g;have hfew:=qu.few nums tb hm;have el:ElemsOf (intKind P w) es.toList:=nums.elems;have hkey:(intKind P w).is k (.int k tk)=true:=intKind_is _ _ _ _;unfold setAddHashed setAddHashedIn;refine wpAny_holding (wpAny_bind (wpAny_setState_of ho hd tb.fits ?_));show wpAny _ _ (if byScan _ _=true then _ else _) _ _ s
 rw[if_pos (byScan_of (knd:=intKind P w) rfl (show es.size<scanBound by unfold scanBound;lia) el)]
 refine wpAny_bind ?_;unfold setAddByScan;refine wpAny_bind (wpAny_rule ?_);have scan:=wpAny_setScan_of (A:=A) (E:=E) (adding:=true) (Q:=fun r s'=>s' = s/\((∃ j,r = .found j/\pz k∈fT es)\/(r = .absent/\pz k∉fT es))) hkey ho hd tb.fits el (by
  cases hr:List.findIdx? (fun e=>(intKind P w).is k e.2) es.toList with
  | some j =>
    obtain⟨hj,hp,_⟩:=List.findIdx?_eq_some_iff_getElem.mp hr;exact⟨rfl,.inl ⟨_,rfl,(nums.mem hk).mp ⟨es.toList[j],List.getElem_mem hj,hp⟩⟩⟩
  | none =>
    refine⟨rfl,.inr ⟨rfl,fun z=>?_⟩⟩
    obtain⟨e,he,hp⟩:=(nums.mem (P:=P) (w:=w) hk).mpr z;rw[List.findIdx?_eq_none_iff.mp hr e he]at hp;cases hp)
 have hh:(intKind P w).hash k=hashInt k:=rfl;rw[hh]at scan;refine wpAny_bind (wpAny_mono scan (fun r s' y=>?_) fun _ _ y=>y)
 obtain⟨rfl,y⟩:=y;rcases y with⟨j,rfl,hin⟩|⟨rfl,hout⟩
 ·refine wpAny_pure (wpAny_pure ?_);have z:=q false s'.heap (Heap.SameBut.refl a s'.heap) ⟨o,es,ep,t,ho,hex,hd,nums,tb,fun k' hk'=>by
   rw[hm k' hk',List.mem_append,List.mem_singleton];exact⟨.inl,fun z=>z.elim id fun e=>e▸(hm k hk).mp hin⟩⟩
  exact z
 ·obtain⟨es1,t2,hlay,hpl,ac3,hfit,pN,hrest⟩:=MP tb (.int k tk) (o4 hk).1 (by rw[(o4 hk).2];exact hout) (by lia)
  have hsz:es1.size=es.size+1:=by
   have z:=pN.length_eq
   simpa using z
  have Lk:∀{es' : Array (Int×Value)},es'.toList.Perm es1.toList->Nums es':=fun {es'} p e he=>by
   rcases List.mem_append.mp (pN.mem_iff.mp (p.mem_iff.mp he)) with z|z
   ·exact nums e z
   ·rw[List.mem_singleton]at z;exact⟨k,tk,hk,z⟩
  have ON:∀{es' : Array (Int×Value)},es'.toList.Perm es1.toList->∀ k',Vz k'->(pz k'∈fT es'↔k'∈ks++[k]):=fun {es'} p k' hk'=>by
   have z:(fT es').Perm (fT es++[pz k]):=by
    have z:=(p.trans pN).map fun e:Int×Value=>lG e.1
    rw[List.map_append]at z;have q:[(hashInt k,Value.int k tk)].map (fun e:Int×Value=>lG e.1)=[pz k]:=by rw[<-(o4 hk).2];rfl
    rw[q]at z;exact z
   rw[z.mem_iff,List.mem_append,List.mem_append,hm k' hk',List.mem_singleton,List.mem_singleton];exact or_congr Iff.rfl ⟨fun e=>Dv hk' hk e,fun e=>by rw[e]⟩
  dsimp only;rw[hlay];dsimp only;refine wpAny_bind (m:=pure ()) (wpAny_pure ?_);rw[hpl];simp only[↓reduceIte];refine wpAny_bind ?_;rw[hashByValue_scannable 8 rfl];refine wpAny_pure ?_;have hpk:plainKind (Value.int k tk)=true:=rfl;rw[hpk];simp only[↓reduceIte];refine wpAny_bind (wpAny_storeSet_of ho hd ?_ (fits_of_scanBound (by rw[hsz];unfold scanBound;lia)))
  have e1:Obj.putSet es1 t2 o={ o with data:=.set es1 (ep+1) t2}:=putSet_of es1 t2 hd
  have g1:(s'.heap.update a (Obj.putSet es1 t2)).get? a=some { o with data:=.set es1 (ep+1) t2}:=by
   have z:=Heap.get?_update_self (Obj.putSet es1 t2) ho (by rw[e1];rfl)
   rw[e1]at z;exact z
  have sb1:=Heap.SameBut.update s'.heap a (Obj.putSet es1 t2);rcases hrest with⟨hf,tb1⟩|⟨hf,FJ,t3,KJ,tb3⟩
  ·rw[hf];refine wpAny_pure (wpAny_pure ?_);exact q true _ sb1 ⟨_,es1,ep+1,t2,g1,hex,rfl,Lk (.refl _),tb1,ON (.refl _)⟩
  ·rw[hf];simp only[Bool.not_false,Bool.and_self,↓reduceIte];have G3:FJ.toList.Perm es1.toList:=by
    have z:=relayAll_perm t2 es1 (SetTable.grown es1.size);rw[KJ]at z;exact z
   have hsz2:FJ.size=es1.size:=by
    have z:=G3.length_eq
    simpa using z
   rw[KJ];dsimp only;refine wpAny_bind (m:=pure ()) (wpAny_pure ?_);refine wpAny_bind (wpAny_storeSet_of g1 rfl ?_ (fits_of_scanBound (by rw[hsz2,hsz];unfold scanBound;lia)))
   refine wpAny_pure (wpAny_pure ?_);have e2:Obj.putSet FJ t3 { o with data:=.set es1 (ep+1) t2}={ o with data:=.set FJ (ep+2) t3}:=putSet_of FJ t3 rfl
   refine q true _ (sb1.trans (Heap.SameBut.update _ a _)) ⟨{ o with data:=.set FJ (ep+2) t3},FJ,ep+2,t3,?_,hex,rfl,Lk G3,tb3,ON G3⟩
   have z:=Heap.get?_update_self (Obj.putSet FJ t3) g1 (by rw[e2];rfl)
   rw[e2]at z;exact z
theorem qu.at{h h' : Heap}{a:Addr}{led:Bool}{ks:List Int}(g:qu h a led ks)(e:∀ o,h.get? a=some o->h'.get? a=some o):qu h' a led ks :=
 let⟨o,es,ep,t,ho,r⟩:=g
 ⟨o,es,ep,t,e o ho,r⟩
end
section
variable {P:Program}{w:World}{A:Around}{R:Result->Shared->Prop}{I:Addr}{fp wr:List Addr}{G:Array GenState->Array GenState->Prop}{n:Nat}{Pv:Nat->Value->Prop}{St:Nat->Shared->Prop}
theorem Il(W:WalksS P w A.in1 I fp wr G n Pv St)(S:Addr)(hSf:S∉fp){led:Bool}(val:Nat->Int)(hval:∀ i v,Pv i v->∃ t,v = .int (val i) t)(hs:∀ i,i<n->Vz (val i))(hn:n<=18):
 ∀(d i:Nat) (s:Shared),n-i=d->i<=n->St i s->qu s.heap S led ((List.range i).map val)->
  (∀ s',Moved (S::wr) G s s'->qu s'.heap S led ((List.range n).map val)->R (.ok (.ret .none)) s')->
  codeAny (model P w) A (.builtin "set.update.loop" ⟨[.ref S,.ref I],[]⟩) R s
 | 0,i,s,hd,hi,st,g,q=>by
   have e:i=n:=by lia
   subst e;refine codeAny_builtin PyProof.Rows.F.entry_set_update_loop ?_;rw[Around.under_plainId PyProof.Rows.F.plain_set_update_loop _];refine wpAny_bind (m:=pyNext (.ref I)) (W.done s _ _ st fun s' mv=>?_)
   exact wpAny_pure (q s' (mv.mono fun b hb=>CB _ hb) (g.at fun o ho=>mv.heap S o (fun z=>hSf (W.sub _ z)) ho))
 | d+1,i,s,hd,hi,st,g,q=>by
   have lt:i<n:=by lia
   refine codeAny_builtin PyProof.Rows.F.entry_set_update_loop ?_;rw[Around.under_plainId PyProof.Rows.F.plain_set_update_loop _];refine wpAny_bind (m:=pyNext (.ref I)) (W.item i s _ _ lt st fun v s' hv st' mv=>?_)
   obtain⟨t,rfl⟩:=hval i v hv;have g' : qu s'.heap S led ((List.range i).map val):=g.at fun o ho=>mv.heap S o (fun z=>hSf (W.sub _ z)) ho
   refine wpAny_bind (m:=holding [Value.int (val i) t] (setAdd S (.int (val i) t))) (wpAny_holding ?_);unfold setAdd;refine wpAny_holding (wpAny_bind ((intKind P w).pyHash (k:=val i) (intKind_is _ _ _ _) ?_));have hh:(intKind P w).hash (val i)=hashInt (val i):=rfl;rw[hh];refine OM (s:={ s' with toks:=s'.toks+1}) g' (hs i lt) (by rw[List.length_map,List.length_range];lia) fun b h' sb g2=>?_
   have e2:(List.range i).map val++[val i]=(List.range (i+1)).map val:=by rw[List.range_succ,List.map_append];rfl
   rw[e2]at g2;refine wpAny_pure ⟨plainId_quiet PyProof.Rows.F.plain_set_update_loop _,Il W S hSf val hval hs hn d (i+1) _ (by lia) lt (W.frame _ s' _ _ st' (Nat.le_succ _) fun b hb o e=>?_) g2 fun s2 mv2 g3=>?_⟩
   ·rw[sb.2 b fun z=>hSf (z▸hb)]
    exact e
   ·refine q s2 (Moved.trans W.gtrans ((mv.mono fun b hb=>CB _ hb).then_heap (Nat.le_succ _) fun b o hb e=>?_) mv2) g3
    rw[sb.2 b fun z=>hb (z▸List.mem_cons_self ..)]
    exact e
end
section
variable {P:Program}{w:World}{A:Around}{E:gj}{s:Shared}
theorem OO(a:Value){Q:gj}(q:Q (.ref s.heap.objs.size) { s with heap:=s.heap.push { cls:=.type "set",dict:=none,data:=.set #[] 0 (.fresh 0 0 (!w.params.followText "set-order"))}}):
 codeAny (model P w) A (.call (.builtin "set.__new__") ⟨[.type "set",a],[]⟩) (wants Q E) s:=by
 refine codeAny_of_tree ?_;show wpAny _ A.in1 (checkBuiltinCall "set.__new__" ⟨[.type "set",a],[]⟩ >>= fun _=>again (.builtin "set.__new__" ⟨[.type "set",a],[]⟩)) _ _ s
 refine wpAny_bind (wpAny_of_eq (PySem.F.newCall_set_1 a) (wpAny_pure ⟨plainId_quiet PySem.F.plain_set_new _,codeAny_builtin PySem.F.entry_set_new ?_⟩));rw[Around.under_plainId PySem.F.plain_set_new _];unfold Builtin.«set.__new__» Builtin.Frozenset.newClass;have hsub:=sub_set_self;obtain⟨h0,g0,d0,t0,o0⟩:=s;dsimp only
 wp_walk
 refine wpAny_askSetting (wpAny_pure ?_);dsimp only;simp only[newObj];exact wpAny_bind (wpAny_alloc (wpAny_pure (wpAny_pure q)))
set_option maxHeartbeats 3000000 in
theorem MR{l:Addr}{items:Array Value}{ks:List Int}{Q:gj}(hh:A.handled=none)(hl:s.heap.IsList l items)(hi:∀(i:Nat) (v:Value),items[i]?=some v->∃ t,v=Value.int (ks.getD i 0) t)(hz:items.size=ks.length)
 (hs:∀ k∈ks,Vz k) (hn:ks.length<=18)
 (q:∀(h' : Heap) (tk:Nat),qu h' s.heap.objs.size (!w.params.followText "set-order") ks->(∀ b o,b<s.heap.objs.size->s.heap.get? b=some o->h'.get? b=some o)->Q (.ref s.heap.objs.size) { s with heap:=h',toks:=tk}) :
 wpAny (model P w) A (call (.type "set") [.ref l]) Q E s:=by
 have hks:(List.range items.size).map (fun i=>ks.getD i 0)=ks:=by
  rw[hz];apply List.ext_getElem
  ·simp
  ·intro i h1 h2;simp[List.getD,h2]
 obtain⟨c0,tl0,f0⟩:=PySem.F.called_set.mro;have f1:=PySem.F.called_set.made;have f2:=PySem.F.called_set.sub;have f3:=PySem.F.called_set.notType;have f4:=PySem.F.called_set.canCreate;have f5:=PySem.F.typeCall_set_1 (.ref l);refine wpAny_call (codeAny_of_tree (wpAny_pure ⟨Code.quiet_builtin _ (by decide +kernel),codeAny_builtin PySem.F.entry_type_call ?_⟩))
 rw[Around.under_plain (weight_type_call_type "set" [.ref l] []) rfl]
 repeat (any_goals (first | assumption | wp_step))
 refine codeAny_mono (OO (.ref l) (E:=E) (Q:=fun x s1=>x = .ref s.heap.objs.size/\s1={ s with heap:=s.heap.push { cls:=.type "set",dict:=none,data:=.set #[] 0 (.fresh 0 0 (!w.params.followText "set-order"))}}) ⟨rfl,rfl⟩) fun r s1 hr=>?_
 cases r with
 | error e=>exact hr
 | ok fl =>
   cases fl with
   | ret obj =>
     obtain⟨rfl,rfl⟩:=hr;have gN:(s.heap.push { cls:=.type "set",dict:=none,data:=.set #[] 0 (.fresh 0 0 (!w.params.followText "set-order"))}).get? s.heap.objs.size=some { cls:=.type "set",dict:=none,data:=.set #[] 0 (.fresh 0 0 (!w.params.followText "set-order"))}:=Heap.get?_push_size _ rfl;have tN:Shared.TypeIs { s with heap:=s.heap.push { cls:=.type "set",dict:=none,data:=.set #[] 0 (.fresh 0 0 (!w.params.followText "set-order"))}} (.ref s.heap.objs.size) "set":=⟨_,gN,rfl⟩
     have f6:=PySem.F.called_set.init.lookup;have f7:=PySem.F.called_set.init.bind (.ref s.heap.objs.size)
     repeat (any_goals (first | assumption | wp_step))
     refine codeAny_mono (codeAny_call_builtin (R:=wants (fun r s2=>r = .none/\∃ h' tk,s2={ s with heap:=h',toks:=tk}/\qu h' s.heap.objs.size (!w.params.followText "set-order") ks/\
      (∀ b o,b<s.heap.objs.size->s.heap.get? b=some o->h'.get? b=some o)) E) PySem.F.called_set.init.plain PySem.F.entry_set_init (PySem.check_set_init_1 tN ?_)) fun r2 s2 OP=>?_
     ·have hl1:(s.heap.push { cls:=.type "set",dict:=none,data:=.set #[] 0 (.fresh 0 0 (!w.params.followText "set-order"))}).IsList l items:=hl.push _;obtain⟨ol,gl,cl,nl,dl⟩:=hl;have lt:l<s.heap.objs.size:=Heap.lt_size gl;have gl1:(s.heap.push { cls:=.type "set",dict:=none,data:=.set #[] 0 (.fresh 0 0 (!w.params.followText "set-order"))}).get? l=some ol:=Heap.get?_push_of_some _ gl;obtain⟨ada,aaH,aaI,TZ⟩:=ol;simp only at cl dl;subst cl;subst dl;have k1:=PySem.F.sub_list_set;have k2:=PySem.F.sub_list_frozenset;have k3:(Value.type "list" == Value.type "dict")=false:=by decide
      unfold Builtin.«set.__init__» noKeywords Builtin.Frozenset.updateFrom;generalize hgen:pyIter=gen
      wp_walk
      subst hgen;refine wpAny_pyIter_list hl1 (wpAny_bind (wpAny_runValue ?_));have hn2:l≠(s.heap.push { cls:=.type "set",dict:=none,data:=.set #[] 0 (.fresh 0 0 (!w.params.followText "set-order"))}).objs.size:=by rw[Heap.size_push];exact Nat.ne_of_lt (Nat.lt_succ_of_lt lt)
      have hh3:A.in1.in1.in1.handled=none:=by simp[hh]
      refine Il ((Walks.list hh3 _ l hn2 items).toS) s.heap.objs.size ?_ (led:=!w.params.followText "set-order") (fun i=>ks.getD i 0) (fun i v hv=>hi i v hv) (fun i hi'=>?_) (by rw[hz];exact hn) items.size 0 _ (Nat.sub_zero _) (Nat.zero_le _)
       ⟨⟨_,Heap.get?_push_size _ rfl,rfl,rfl⟩,hl1.push _⟩ ?_ ?_
      ·rw[Heap.size_push];simp only[List.mem_cons,List.not_mem_nil,or_false,not_or];exact⟨Nat.ne_of_lt (Nat.lt_succ_self _),Nat.ne_of_gt lt⟩
      ·have h2:i<ks.length:=by lia
       rw[List.getD_eq_getElem?_getD,List.getElem?_eq_getElem h2];exact hs _ (List.getElem_mem h2)
      ·exact⟨{ cls:=.type "set",dict:=none,data:=.set #[] 0 (.fresh 0 0 (!w.params.followText "set-order"))},#[],0,_,Heap.get?_push_of_some _ gN,⟨rfl,rfl,rfl⟩,rfl,fun e he=>absurd he (by simp),MQ _,fun k _=>by simp[fT]⟩
      ·intro s3 mv g3;rw[hks]at g3;obtain⟨h3,y1,y2,y3,y4⟩:=s3;have e1:y1=s.gens:=mv.gens;have e2:y2=s.drawn:=mv.drawn;have e3:y4=s.os:=mv.os;subst e1;subst e2;subst e3;refine wpAny_pure (wpAny_pure ⟨rfl,h3,y3,rfl,g3,fun b o hb e=>mv.heap b o ?_ (Heap.get?_push_of_some _ (Heap.get?_push_of_some _ e))⟩)
       rw[Heap.size_push];simp only[List.mem_cons,List.not_mem_nil,or_false,not_or];exact⟨Nat.ne_of_lt hb,Nat.ne_of_lt (Nat.lt_succ_of_lt hb)⟩
     ·cases r2 with
      | error e=>exact OP
      | ok Tp =>
        cases Tp with
        | ret r =>
          obtain⟨rfl,h',tk,rfl,g',k'⟩:=OP
          repeat (any_goals (first | assumption | wp_step))
          exact q _ _ g' k'
        | _=>exact OP.elim
   | _=>exact hr.elim
end
theorem BR:Manifest.owners.lookup (String.ofList ['r','o','t','a','r','e','t','i','_','t','e','s'].reverse)=some Manifest.sig_set_iterator:=by kernel_rfl
theorem fz:Slot "set_iterator" "__next__" "set_iterator.__next__":=.of (owner:="set_iterator") (n:="__next__") (by rw[typeLookup_type,builtinLookup_eq_fast];kernel_rfl) (by decide +kernel) (by decide +kernel) (by decide +kernel) (by first | exact .inl (by decide +kernel) | exact .inr (by decide +kernel)) (by rw[isSubtype_type];kernel_rfl)
theorem rM:Slot "set_iterator" "__iter__" "set_iterator.__iter__":=.of (owner:="set_iterator") (n:="__iter__") (by rw[typeLookup_type,builtinLookup_eq_fast];kernel_rfl) (by decide +kernel) (by decide +kernel) (by decide +kernel) (by first | exact .inl (by decide +kernel) | exact .inr (by decide +kernel)) (by rw[isSubtype_type];kernel_rfl)
theorem pO:entryFor table "set_iterator.__next__"=some Builtin.«set_iterator.__next__»:=entryFor_of_tree (by kernel_rfl)
theorem yf:entryFor table "set_iterator.__iter__"=some Builtin.«dict_keyiterator.__iter__»:=entryFor_alias (id':="dict_keyiterator.__iter__") (by kernel_rfl) rfl (by decide +kernel) (by kernel_rfl)
theorem Av:entryFor table "set.__iter__"=some Builtin.«frozenset.__iter__»:=entryFor_alias (id':="frozenset.__iter__") (by kernel_rfl) rfl (by decide +kernel) (by kernel_rfl)
theorem rN(a:Value):argsOk "set_iterator.__next__" ⟨[a],[]⟩:=by
 unfold argsOk;rw[signature?_of (id:="set_iterator.__next__") (n:=['_','_','t','x','e','n','_','_']) (o:=['r','o','t','a','r','e','t','i','_','t','e','s']) (by kernel_rfl) BR];kernel_rfl
theorem Aw(a:Value):argsOk "set_iterator.__iter__" ⟨[a],[]⟩:=by
 unfold argsOk;rw[signature?_of (id:="set_iterator.__iter__") (n:=['_','_','r','e','t','i','_','_']) (o:=['r','o','t','a','r','e','t','i','_','t','e','s']) (by kernel_rfl) BR];kernel_rfl
def rO(h:Heap)(a:Addr)(es:Array (Int×Value))(ep:Nat)(t:SetTable):Prop:=∃ o,h.get? a=some o/\o.ExactSet/\o.data = .set es ep t
theorem rO.at{h h' : Heap}{a:Addr}{es:Array (Int×Value)}{ep:Nat}{t:SetTable}(x:rO h a es ep t)(e:∀ o,h.get? a=some o->h'.get? a=some o):rO h' a es ep t :=
 let⟨o,ho,r⟩:=x
 ⟨o,e o ho,r⟩
def gm(w:World)(a:Addr)(es:Array (Int×Value))(ep:Nat):Array (Int×Value):=if w.params.followText "set-order"=true then pickOrder (w.params.setOrder a ep) es else es
theorem ze{α:Type}(f:Nat->Nat):∀(n k:Nat) (left:List α) (out:Array α),left.length=n->(pickOrder.go f n k left out).toList.Perm (out.toList++left)
 | 0,k,left,out,h=>by
   have e:left=[]:=List.eq_nil_of_length_eq_zero h;subst e;unfold pickOrder.go;rw[List.append_nil]
 | n+1,k,left,out,h=>by
   unfold pickOrder.go;have hlt:f k%left.length<left.length:=Nat.mod_lt _ (by lia)
   rw[List.getElem?_eq_getElem hlt];dsimp only;refine(ze f n (k+1) _ _ (by rw[List.length_eraseIdx_of_lt hlt];lia)).trans ?_
   rw[Array.toList_push,List.append_assoc];refine List.Perm.append_left _ ?_;rw[List.eraseIdx_eq_take_drop_succ];have e:left=left.take (f k%left.length)++left[f k%left.length]::left.drop (f k%left.length+1):=by
    rw[<-List.drop_eq_getElem_cons hlt,List.take_append_drop]
   refine List.Perm.trans ?_ (List.Perm.of_eq e.symm);rw[List.singleton_append];exact List.perm_middle.symm
theorem zg(w:World)(a:Addr)(es:Array (Int×Value))(ep:Nat):(gm w a es ep).toList.Perm es.toList:=by
 unfold gm
 split
 ·have z:=ze (w.params.setOrder a ep) es.size 0 es.toList #[] (by simp)
  exact z
 ·exact .refl _
theorem o5(w:World)(a:Addr)(es:Array (Int×Value))(ep:Nat):(gm w a es ep).size=es.size:=by
 have z:=(zg w a es ep).length_eq
 simpa using z
def slotAt(w:World)(t:SetTable)(i:Nat):Nat:=if w.params.followText "set-order"=true then 0 else match i with
 | 0=>0
 | i+1=>t.place.getD i 0+1
def yg(h:Heap)(it:Addr)(slot i:Nat)(a:Addr)(n ep:Nat):Prop:=∃ o,h.get? it=some o/\o.cls = .type "set_iterator"/\o.data = .fields #[rawInt slot,rawInt i,.ref a,rawInt n,rawInt ep]
theorem yg.at{h h' : Heap}{it a:Addr}{slot i n ep:Nat}(x:yg h it slot i a n ep)(e:∀ o,h.get? it=some o->h'.get? it=some o):yg h' it slot i a n ep :=
 let⟨o,ho,r⟩:=x
 ⟨o,e o ho,r⟩
section
variable {P:Program}{w:World}{A:Around}{E:gj}{s:Shared}{a it:Addr}{es:Array (Int×Value)}{ep:Nat}{t:SetTable}
theorem MS{Q:gj}(g:rO s.heap a es ep t)(tb:Tb (!w.params.followText "set-order") es t)
 (q:Q (.ref s.heap.objs.size) { s with heap:=s.heap.push { cls:=.type "set_iterator",data:=.fields #[rawInt 0,rawInt 0,.ref a,rawInt es.size,rawInt ep]}}):wpAny (model P w) A (pyIter (.ref a)) Q E s:=by
 obtain⟨o,ho,hex,hd⟩:=g;have hT:s.TypeIs (.ref a) "set":=⟨o,ho,hex.1⟩;refine wpAny_pyIter_slot hT PySem.F.slot_set_iter (wpAny_call_entry PySem.F.slot_set_iter hT Av ?_ (PySem.F.args_set_iter_1 _));unfold Builtin.«frozenset.__iter__»;refine wpAny_bind (m:=Builtin.Frozenset.slot0 _ _) (wpAny_bind (wpAny_pure (wpAny_pure ?_)));refine wpAny_bind (m:=Builtin.Frozenset.sizeOf _) (wpAny_bind (wpAny_setEntries_of ho hd tb.fits (wpAny_pure ?_)));refine wpAny_bind (wpAny_bind (wpAny_setState_of ho hd tb.fits ?_));refine wpAny_bind (m:=setsByText) (wpAny_bind (wpAny_askSetting (wpAny_pure ?_)));refine wpAny_pure ?_;refine wpAny_ite_split (fun hab=>absurd (show(!w.params.followText "set-order" && (!t.plain&&decide (es.size > 1)))=true from hab) (by rw[tb.plain];simp)) fun _=>?_
 refine wpAny_bind (wpAny_pure ?_);refine wpAny_bind (wpAny_setEpoch_of ho hd tb.fits ?_);refine wpAny_bind (wpAny_newObj_type (wpAny_pure ⟨_,rfl,"set_iterator",_,⟨_,Heap.get?_push_size _ rfl,rfl⟩,fz.lookup,?_⟩));exact q
theorem MT{Q:gj}{slot i n:Nat}(g:yg s.heap it slot i a n ep)(q:Q (.ref it) s):wpAny (model P w) A (pyIter (.ref it)) Q E s:=by
 obtain⟨o,ho,hc,hd⟩:=g;have hT:s.TypeIs (.ref it) "set_iterator":=⟨o,ho,hc⟩;refine wpAny_pyIter_slot hT rM (wpAny_call_entry rM hT yf ?_ (Aw _));exact wpAny_pure ⟨_,rfl,"set_iterator",_,hT,fz.lookup,q⟩
theorem Im{i:Nat}{Q:Option (Value×Nat)->Shared->Prop}(ho:rO s.heap a es ep t)(tb:Tb (!w.params.followText "set-order") es t)(hi:i<=es.size)
 (q:Q (((gm w a es ep)[i]?).map fun e=>(e.2,slotAt w t (i+1))) s):wpAny (model P w) A (setNext a (slotAt w t i) i ep) Q E s:=by
 obtain⟨o,ho,hex,hd⟩:=ho;unfold setNext;refine wpAny_bind (wpAny_setState_of ho hd tb.fits ?_);dsimp only;refine wpAny_bind (m:=setsByText) (wpAny_bind (wpAny_askSetting (wpAny_pure ?_)));cases hf:w.params.followText "set-order" with
 | true =>
   have e1:gm w a es ep=pickOrder (w.params.setOrder a ep) es:=by unfold gm;rw[if_pos hf]
   have e2:∀ i,slotAt w t i=0:=fun i=>by unfold slotAt;rw[if_pos hf]
   rw[e1,e2]at q;rw[e2];show wpAny _ _ (if w.params.followText "set-order"=true then _ else _) _ _ s
   rw[if_pos hf,if_neg (by simp)]
   refine wpAny_bind (m:=setWalk a) ?_;unfold setWalk;refine wpAny_bind (wpAny_setState_of ho hd tb.fits ?_);dsimp only;refine wpAny_bind (m:=setsByText) (wpAny_bind (wpAny_askSetting (wpAny_pure ?_)));show wpAny _ _ (if w.params.followText "set-order"=true then _ else _) _ _ s
   rw[if_pos hf];exact wpAny_bind (wpAny_askSetting (wpAny_pure (wpAny_pure q)))
 | false =>
   have hw:gm w a es ep=es:=by unfold gm;rw[if_neg (by rw[hf];simp)]
   have hb:SetTable.below t.place (slotAt w t i)=i:=by
    unfold slotAt;rw[if_neg (by rw[hf];simp)]
    cases i with
    | zero=>exact Ds tb.up
    | succ i=>exact Dt tb.up (by rw[tb.size];lia)
   show wpAny _ _ (if w.params.followText "set-order"=true then _ else _) _ _ s
   rw[if_neg (by rw[hf];simp)]
   refine wpAny_ite_split (fun hab=>absurd (show(!t.plain&&decide (es.size > 1))=true from hab) (by rw[tb.plain];simp)) fun _=>?_
   refine wpAny_bind (wpAny_ite_split (fun hab=>absurd (show(!t.led && !es.isEmpty)=true from hab) (by rw[tb.led,hf];simp)) fun _=>wpAny_pure ?_)
   rw[hb];rw[hw]at q
   by_cases hlt:i<es.size
   ·have OQ:i<t.place.size:=by rw[tb.size];exact hlt
    have e1:slotAt w t (i+1)=t.place[i]+1:=by
     unfold slotAt;rw[if_neg (by rw[hf];simp)]
     simp[Array.getD,OQ]
    rw[Array.getElem?_eq_getElem hlt]at q ⊢;rw[Array.getElem?_eq_getElem OQ];rw[e1]at q;exact wpAny_pure q
   ·rw[Array.getElem?_eq_none (by lia)]at q ⊢
    exact wpAny_pure q
theorem yg.typeIs{slot i n:Nat}(g:yg s.heap it slot i a n ep):s.TypeIs (.ref it) "set_iterator" :=
 let⟨o,ho,hc,_⟩:=g
 ⟨o,ho,hc⟩
theorem MU{i:Nat}{e:Int×Value}{Q:Option Value->Shared->Prop}(g:yg s.heap it (slotAt w t i) i a es.size ep)(gs:rO s.heap a es ep t)(tb:Tb (!w.params.followText "set-order") es t)(he:(gm w a es ep)[i]?=some e)
 (q:∀ h',yg h' it (slotAt w t (i+1)) (i+1) a es.size ep->Heap.SameBut it s.heap h'->Q (some e.2) { s with heap:=h'}):wpAny (model P w) A (pyNext (.ref it)) Q E s:=by
 have hT:=g.typeIs;obtain⟨oi,hi,hc,hd⟩:=g;obtain⟨o,ho,hex,hds⟩:=id gs;have hlt:i<es.size:=by
  rw[<-o5 w a es ep];exact(Array.getElem?_eq_some_iff.mp he).1
 unfold pyNext;refine wpAny_bind (wpAny_attempt (wpAny_callSpecial?_slot (name:=Str.ofString "__next__") hT fz (wpAny_call_entry fz hT pO ?_ (rN _))));unfold Builtin.«set_iterator.__next__»;refine wpAny_bind (m:=slotArgs _ _ _) (wpAny_pure ?_);refine wpAny_bind (wpAny_fieldsOf hi hd ?_);refine wpAny_bind (m:=setEntries a) (wpAny_setEntries_of ho hds tb.fits ?_);refine wpAny_ite_split (fun hab=>absurd hab (by simp)) fun _=>?_
 refine wpAny_bind (m:=setNext a (slotAt w t i) i ep) (Im gs tb (Nat.le_of_lt hlt) ?_);rw[he];refine wpAny_bind (m:=setField (.ref it) 0 (rawInt ((slotAt w t (i+1):Nat):Int))) (wpAny_setField hi hd (by simp) ?_)
 have d1:=Obj.data_mapFields hd (·.setIfInBounds 0 (rawInt ((slotAt w t (i+1):Nat):Int)));have g1:=Heap.get?_update_self (Obj.mapFields (·.setIfInBounds 0 (rawInt ((slotAt w t (i+1):Nat):Int)))) hi (Obj.isFreed_of_fields d1);refine wpAny_bind (m:=setField (.ref it) 1 (rawInt ((i:Int)+1))) (wpAny_setField g1 d1 (by simp) ?_)
 have d2:=Obj.data_mapFields d1 (·.setIfInBounds 1 (rawInt ((i:Int)+1)));have g2:=Heap.get?_update_self (Obj.mapFields (·.setIfInBounds 1 (rawInt ((i:Int)+1)))) g1 (Obj.isFreed_of_fields d2);refine wpAny_pure ⟨_,rfl,wpAny_pure (q _ ⟨_,g2,?_,?_⟩ ((Heap.SameBut.update ..).trans (Heap.SameBut.update ..)))⟩
 ·rw[Obj.cls_mapFields,Obj.cls_mapFields];exact hc
 ·rw[d2];simp[rawInt]
theorem MV{Q:Option Value->Shared->Prop}(hh:A.handled=none)(g:yg s.heap it (slotAt w t es.size) es.size a es.size ep)(gs:rO s.heap a es ep t)(tb:Tb (!w.params.followText "set-order") es t)
 (q:∀ h',Heap.ExtBut it s.heap h'->Q none { s with heap:=h'}):wpAny (model P w) A (pyNext (.ref it)) Q E s:=by
 have hT:=g.typeIs;obtain⟨oi,hi,hc,hd⟩:=g;obtain⟨o,ho,hex,hds⟩:=id gs;have he:(gm w a es ep)[es.size]?=none:=Array.getElem?_eq_none (by rw[o5];exact Nat.le_refl _)
 unfold pyNext;refine wpAny_bind (wpAny_attempt (wpAny_callSpecial?_slot (name:=Str.ofString "__next__") hT fz (wpAny_call_entry fz hT pO ?_ (rN _))));unfold Builtin.«set_iterator.__next__»;refine wpAny_bind (m:=slotArgs _ _ _) (wpAny_pure ?_);refine wpAny_bind (wpAny_fieldsOf hi hd ?_);refine wpAny_bind (m:=setEntries a) (wpAny_setEntries_of ho hds tb.fits ?_);refine wpAny_ite_split (fun hab=>absurd hab (by simp)) fun _=>?_
 refine wpAny_bind (m:=setNext a (slotAt w t es.size) es.size ep) (Im gs tb (Nat.le_refl _) ?_);rw[he];refine wpAny_bind (m:=setField (.ref it) 2 .none) (wpAny_setField hi hd (by simp) ?_)
 refine wpAny_bind (m:=newExc (.type "StopIteration") []) ?_;simp only[newExc,newTuple];refine wpAny_bind (wpAny_newObj_type (wpAny_bind (m:=firstArgMember _ _) (wpAny_of_eq (a:=Value.none) (by first | rfl | (simp only[firstArgMember];rfl)) (wpAny_newObj_type ?_ (by size_fits)))) (by size_fits))
 simp only[raiseNew];refine wpAny_bind (wpAny_handled ?_);rw[show A.in1.handled=none from hh]
 refine wpAny_bind (wpAny_pure (wpAny_throw ?_));refine wpAny_bind (wpAny_isInstance (T:="StopIteration") (b:=true) ⟨_,Heap.get?_push_size _ rfl,rfl⟩ isSubtype_stop (wpAny_pure ?_));exact q _ (((Heap.SameBut.update ..).extBut.push _).push _)
theorem KL(hh:A.handled=none)(I:Addr)(hne:a≠I)(tb:Tb (!w.params.followText "set-order") es t):
 Walks P w A I [I,a] [I] es.size (fun i v=>∃ e,(gm w a es ep)[i]?=some e/\v=e.2) (fun i h=>yg h I (slotAt w t i) i a es.size ep/\rO h a es ep t) where
 sub:=fun b hb=>by simp at hb;simp[hb]
 frame:=fun _ _ _ st hk=>⟨st.1.at fun o e=>hk I (by simp) o e,st.2.at fun o e=>hk a (by simp) o e⟩
 item:=fun i s Q E hi st q=>by
  have hlt:i<(gm w a es ep).size:=by rw[o5];exact hi
  refine MU st.1 st.2 tb (Array.getElem?_eq_getElem hlt) fun h' g' sb=>?_
  exact q _ h' s.toks ⟨_,Array.getElem?_eq_getElem hlt,rfl⟩ ⟨g',st.2.at fun o e=>(sb.2 a hne).trans e⟩ fun b o hb e=>(sb.2 b fun z=>hb (by simp[z])).trans e
 done:=fun s Q E st q=>MV hh st.1 st.2 tb fun h' eb=>q h' s.toks fun b o hb e=>eb b o (fun z=>hb (by simp[z])) e
 self:=fun _ _ _ _ st q=>MT st.1 q
theorem MW{Q:Bool->Shared->Prop}(hT:s.TypeIs (.ref a) "set")(q:Q false s):wpAny (model P w) A (Builtin.List.listLengthHint (.ref a)) Q E s:=by
 unfold Builtin.List.listLengthHint;refine wpAny_bind (wpAny_specialOf hT PySem.F.slot_set_len.lookup ?_);generalize hid:("set.__len__":String)=id0
 wp_delta
 rw[show splitId id0=some ("set","__len__") from by subst hid;decide +kernel]
 subst hid;refine wpAny_bind (wpAny_isInstance (T:="set") (b:=true) hT (by rw[isSubtype_type];kernel_rfl) (wpAny_ite_split (fun hab=>absurd hab (by decide)) fun _=>?_))
 exact wpAny_ite_split (fun _=>wpAny_bind (wpAny_typeOf hT (wpAny_pure q))) fun hab=>absurd (by decide +kernel) hab
theorem OR(tb:Tb (!w.params.followText "set-order") es t):PySem.W.KdlSrc P w "set" a a es.size (fun i v=>∃ e,(gm w a es ep)[i]?=some e/\v=e.2) (fun h=>rO h a es ep t) where
 type:=fun _ ⟨o,ho,hex,_⟩=>⟨o,ho,hex.1⟩
 there:=fun _ ⟨_,ho,_⟩=>⟨Heap.lt_size ho,Heap.lt_size ho⟩
 keep:=fun _ _ g hk=>g.at fun o e=>hk a (.inl rfl) o e
 notList:=by decide
 notTuple:=by decide
 hint:=fun _ _ _ _ ⟨o,ho,hex,_⟩ q=>MW ⟨o,ho,hex.1⟩ q
 iter:=fun A s hh g=>⟨_,_,fun _ _ q=>MS g tb q,KL hh _ (let⟨_,ho,_⟩:=g;Nat.ne_of_lt (Heap.lt_size ho)) tb,⟨⟨_,Heap.get?_push_size _ rfl,rfl,by
  have e:slotAt w t 0=0:=by unfold slotAt;split<;>rfl
  rw[e];rfl⟩,g.at fun o e=>Heap.get?_push_of_some _ e⟩⟩
end
end SS
def Ax(w:World)(a:Addr)(zs:List Int):HO:=.ext fun h=>SS.qu h a (!w.params.followText "set-order") zs
theorem KN{P:Program}{w:World}{H:Hp}{h:Heap}{a:Addr}{zs:List Int}(g:SS.qu h a (!w.params.followText "set-order") zs):cY P w H h a (Ax w a zs) :=
 ⟨g,let⟨o,_,_,_,e,_⟩:=g;⟨o,e⟩,fun _ _ g1 k=>SS.qu.at g1 k⟩
def SS.zv(e:Int×Value):Int:=match e.2 with
 | .int z _=>z
 | _=>0
section
variable {X:Cx}
theorem OS(K:bI)(hc:X.calm=true)(hK:X.K=K:=by rfl):fR X (.type "set") (fun xs H Q=>∃(p:Addr) (zs:List Int),xs=[.ref p]/\aZ K H p (zs.map V.int)/\(∀ z∈zs,SS.Vz z)/\zs.length<=18/\
 ∀ l:Addr,H l=none->Q (.ref l) (upd H l (Ax X.w l zs))):=by
 subst hK;intro pq s σ H xs us Q I r h;obtain⟨p,zs,rfl,hq,hs,hn,q⟩:=h;obtain⟨u,rfl,rx⟩:=vals1 r;cases rx;obtain⟨its,rv,pl,hz⟩:=I.list hq;have hl:=rv.length;rw[List.length_map]at hl;have hi:=intsAre_of rv;refine SS.MR (I.ok.hd hc) pl.isList (ks:=zs) (fun i v hv=>?_) (by rw[List.size_toArray];lia) hs hn fun h' tk g hk=>?_
 ·obtain⟨t,e⟩:=PyProof.Rows.IntsAre.int_at hi i v (by simpa using hv)
  refine⟨t,e.trans ?_⟩;have hlt:i<zs.length:=by
   have z:=(Array.getElem?_eq_some_iff.mp hv).1;rw[List.size_toArray]at z
   lia
  simp[List.getD,hlt]
 ·exact⟨.ref s.heap.objs.size,_,I.laid (t':=tk) (o:=Ax X.w s.heap.objs.size zs) (fun b o e=>hk b o (Heap.lt_size e) e) (Nat.le_refl _) (KN g),rfl,q _ I.fresh⟩
theorem sortedS(hc:X.calm=true):fR X (.builtin "sorted") (fun xs H Q=>∃(p:Addr) (zs:List Int),xs=[.ref p]/\H p=some (Ax X.w p zs)/\
 ∀(l:Addr) (ms:List Int),H l=none->ms.Pairwise (· < ·)->(∀ z∈ms,SS.Vz z)->(∀ z,SS.Vz z->(z∈ms↔z∈zs))->Q (.ref l) (upd H l (.lst (ms.map V.int)))):=by
 intro pq s σ H xs us Q I r h;obtain⟨p,zs,rfl,hp,q⟩:=h;obtain⟨u,rfl,rx⟩:=vals1 r;cases rx;obtain⟨⟨o,es,ep,t,ho,hex,hd,nums,tb,hm⟩,_⟩:=(show cY X.prog X.w H s.heap p (Ax X.w p zs) from I.hok p _ hp)
 have hsz:es.size<=18:=by
  rcases tb.mask with⟨_,z⟩|⟨_,z,_⟩<;>lia
 have nv:∀ e∈es.toList,SS.Vz (SS.zv e)/\e.1=hashInt (SS.zv e)/\∃ t,e.2 = .int (SS.zv e) t:=fun e he=>by
  obtain⟨z,t,hz,rfl⟩:=nums e he;exact⟨hz,rfl,t,rfl⟩
 refine Calls.call_function_entry kind_sorted plain_sorted entry_sorted (args_sorted1 _) ?_;unfold Builtin.«sorted»;refine dO (m:=checkCount "sorted" 1 1 _) (wpAny_pure ?_);refine dO (BJ (A:=X.A.in1) (SS.OR (ep:=ep) tb) (I.ok.hd hc) ⟨o,ho,hex,hd⟩ (by rw[sizeLine_eq];lia) fun h1 tk acc hk T3 hacc=>?_)
 have pN:=SS.zg X.w p es ep;have hl:acc.toList.length=es.size:=by rw[Array.length_toList];exact hacc.1
 have hws:(SS.gm X.w p es ep).toList.length=es.size:=by rw[Array.length_toList,SS.o5]
 have hI:IntsAre acc.toList ((SS.gm X.w p es ep).toList.map SS.zv):=by
  have gen:∀(vs:List Value) (ws:List (Int×Value)),vs.length=ws.length->(∀(j:Nat) (v:Value),vs[j]?=some v->∃ e,ws[j]?=some e/\v=e.2)->(∀ e∈ws,∃ t,e.2 = .int (SS.zv e) t)->IntsAre vs (ws.map SS.zv):=by
   intro vs
   induction vs with
   | nil=>intro ws h1 _ _;cases ws with
     | nil=>exact .nil
     | cons a r=>simp at h1
   | cons v r ih=>intro ws h1 h2 h3;cases ws with
     | nil=>simp at h1
     | cons a r' =>
       obtain⟨e,e1,e2⟩:=h2 0 v rfl;cases e1;obtain⟨t,e3⟩:=h3 _ (List.mem_cons_self ..);rw[e2,e3];exact .cons _ t (ih r' (by simpa using h1) (fun j v hj=>h2 (j+1) v hj) fun e he=>h3 e (CB _ he))
  refine gen _ _ (by rw[hl,hws]) (fun j v hj=>?_) fun e he=>(nv e (pN.mem_iff.mp he)).2.2
  obtain⟨e,e1,e2⟩:=hacc.2 j v (by rw[<-Array.getElem?_toList];exact hj)
  exact⟨e,by rw[Array.getElem?_toList];exact e1,e2⟩
 refine dO (wpAny_newList ?_ (by rw[hl,sizeLine_eq];lia))
 have NB:(h1.push (seqObj "list" acc.toList.toArray 0)).get? h1.objs.size=some (seqObj "list" acc.toList.toArray 0):=Heap.get?_push_size _ rfl;refine dO (wpAny_holding (wpAny_call_entry slot_list_sort ⟨_,NB,rfl⟩ entry_list_sort (list_sort_tree NB hI (by lia) fun out ns' a1 a2 a3=>⟨_,rfl,?_⟩) (args_list_sort _)))
 refine wpAny_pure ⟨_,rfl,?_⟩;have hle:s.heap.objs.size<=h1.objs.size:=Nat.le_of_lt T3;obtain⟨e,he⟩:=sortedHeap_at (out:=out) NB;have hfr:H h1.objs.size=none:=I.hok.fresh hle;have G3:ns'.Perm (es.toList.map SS.zv):=a2.trans (pN.map SS.zv);have hnd:ns'.Nodup:=G3.nodup_iff.mpr (List.pairwise_map.mpr (List.Pairwise.imp_of_mem (fun {x y} hx hy hne e=>hne (by
  show SS.lG x.1=SS.lG y.1;rw[(nv x hx).2.1,(nv y hy).2.1,e])) (List.pairwise_map.mp tb.nd)))
 have Js:ns'.Pairwise (· < ·):=(a3.and hnd).imp fun {a b} z=>by
  have:=z.1;have:=z.2
  lia
 have hvz:∀ z∈ns',SS.Vz z:=fun z hz=>by
  obtain⟨e,he,rfl⟩:=List.mem_map.mp (G3.mem_iff.mp hz);exact(nv e he).1
 refine⟨.ref h1.objs.size,_,I.laid (t':=tk) (fun b o hb=>?_) hle ?_,rfl,q _ ns' hfr Js hvz fun z hz=>?_⟩
 ·have hb1:=hk b o hb;have hlt:=Heap.lt_size hb1;rw[sortedHeap_old (Nat.ne_of_lt hlt) (by rw[size_push'];exact Nat.lt_succ_of_lt hlt),Heap.get?_push_ne _ _ _ (Nat.ne_of_lt hlt)]
  exact hb1
 ·refine⟨?_,out.toList,e,Bv a1,?_⟩
  ·rw[List.length_map,G3.length_eq,List.length_map,Array.length_toList,sizeLine_eq]
   lia
  ·have:out.toList.toArray=out:=by simp
   rw[this];exact he
 ·rw[<-hm z hz,G3.mem_iff]
  constructor
  ·intro y;obtain⟨e,he,rfl⟩:=List.mem_map.mp y;refine List.mem_map.mpr ⟨e,he,?_⟩;show SS.lG e.1=_;rw[(nv e he).2.1];exact(SS.o4 hz).2
  ·intro y;obtain⟨y',hy',ey,t',hm'⟩:=nums.place y;have:=SS.Dv hy' hz ey;subst this;exact List.mem_map.mpr ⟨_,hm',rfl⟩
end
theorem Dy:typeLookup (Value.type "list_reverseiterator") (Str.ofString "__len__")=pure none:=by kernel_rfl
theorem Ay:typeLookup (Value.type "list_reverseiterator") (Str.ofString "__length_hint__")=pure (some (Value.builtin "list_reverseiterator.__length_hint__")):=by kernel_rfl
section
variable {prog:Program}{w:World}{A:Around}{E:gj}{s:Shared}{I l:Addr}
theorem Io{Q:Bool->Shared->Prop}(ht:s.TypeIs (.ref I) "list_reverseiterator")(q:Q false s):wpAny (model prog w) A (Builtin.List.listLengthHint (.ref I)) Q E s:=by
 unfold Builtin.List.listLengthHint;refine dO (wpAny_specialOf ht Dy ?_);dsimp only;rw[if_neg (by decide),if_neg (by decide)]
 refine dO (wpAny_specialOf ht Ay ?_);dsimp only;have e:splitId "list_reverseiterator.__length_hint__"=some ("list_reverseiterator","__length_hint__"):=by kernel_rfl
 rw[e];dsimp only;refine dO (wpAny_isInstance ht (b:=true) (by kernel_rfl) ?_)
 rw[if_neg (by decide),if_pos (by decide),if_neg (by decide)]
 exact wpAny_pure q
theorem yh{items:Array Value}{Q:gj}(hh:A.handled=none)(hI:s.heap.get? I=some (revObj l (items.size-1)))(hl:s.heap.IsList l items)(hne:l≠I)(hn:items.size<=sizeLine)
 (hQ:∀(h' : Heap) (tk:Nat) (acc:Array Value) (c:Nat),(∀ b o,b≠I->s.heap.get? b=some o->h'.get? b=some o)->h'.get? s.heap.objs.size=some { cls:=.type "list",data:=.seq acc c}->ItemsOf (fun i v=>items[items.size-1-i]?=some v) acc items.size->Q (.ref s.heap.objs.size) { s with heap:=h',toks:=tk}) :
 wpAny (model prog w) A (call (.type "list") [.ref I]) Q E s:=by
 refine callType_codes (Q₁:=fun obj s₁=>obj = .ref s.heap.objs.size/\s₁={ s with heap:=s.heap.push { cls:=.type "list",data:=.seq #[]}}) F.called_list (F.typeCall_list_1 (.ref I)) F.entry_list_init (code_list_new (.ref I) ⟨rfl,rfl⟩) fun obj s₁ h₁=>?_
 obtain⟨rfl,rfl⟩:=h₁;have hS:(s.heap.push { cls:=.type "list",data:=.seq #[]}).get? s.heap.objs.size=some { cls:=.type "list",data:=.seq #[]}:=Heap.get?_push_size s.heap rfl;have OT:=Heap.lt_size hI;obtain⟨ol,gl,cl,nl,dl'⟩:=hl;have OU:=Heap.lt_size gl;refine⟨⟨_,hS,rfl⟩,F.args_list_init_2 _ _,?_⟩;refine dO (dO (wpAny_seqItems hS rfl (wpAny_pure ?_)));refine dO (wpAny_updateSeq hS rfl ?_ (by rw[sizeLine_eq];decide) (by rw[sizeLine_eq];decide))
 refine dO (wpAny_letGo ?_);have hS₂:=Heap.get?_update_self (Obj.mapSeq fun _=>#[]) hS rfl
 have Q7:∀ b o,b≠s.heap.objs.size->s.heap.get? b=some o->((s.heap.push { cls:=.type "list",data:=.seq #[]}).update s.heap.objs.size (Obj.mapSeq fun _=>#[])).get? b=some o:=fun b o hb e=>(Heap.get?_update_other _ _ (Ne.symm hb)).trans (Heap.get?_push_of_some _ e)
 have Q8:=Q7 _ _ (Nat.ne_of_lt OT) hI;have hl2:=Q7 _ _ (Nat.ne_of_lt OU) gl;generalize (s.heap.push { cls:=.type "list",data:=.seq #[]}).update s.heap.objs.size (Obj.mapSeq fun _=>#[])=h2 at hS₂ Q7 Q8 hl2 ⊢
 show wpAny _ _ (Builtin.List.listExtendWith (.ref s.heap.objs.size) (.ref I) Value.none) _ _ { s with heap:=h2}
 have hT:Shared.TypeIs { s with heap:=h2} (.ref I) "list_reverseiterator":=⟨_,Q8,rfl⟩
 unfold Builtin.List.listExtendWith;refine dO (wpAny_typeOf hT ?_);have OV:s.heap.objs.size≠I:=Nat.ne_of_gt OT;have hsr:Builtin.List.listSameRef (.ref s.heap.objs.size) (.ref I)=false:=by
  unfold Builtin.List.listSameRef;simp[OV]
 rw[hsr,if_neg (by decide)]
 refine dO (wpAny_pyIter_revIter ⟨_,Q8,rfl,rfl⟩ ?_);refine dO (wpAny_holding (Io hT ?_));dsimp only;rw[if_neg (by decide)]
 refine wpAny_pure ⟨plainId_quiet F.plain_extend_loop _,?_⟩;have W:=(Walks.listRev (prog:=prog) (w:=w) (A:=A.in1.in1) (by exact hh) I l hne items).toS
 have hSl:s.heap.objs.size≠l:=Nat.ne_of_gt OU;refine codeAny_extend_loopS W hn s.heap.objs.size (by simp[OV,hSl]) Value.none items.size 0 _ #[] _ rfl (Nat.zero_le _) ⟨Nat.zero_le _,⟨_,Q8,rfl,by simp[revObj]⟩,⟨_,hl2,cl,nl,dl'⟩⟩ hS₂ (ItemsOf.nil _) fun s' acc c mv hS' hacc=>⟨rfl,?_⟩
 rw[mv.eq_with];exact hQ s'.heap s'.toks acc c (fun b o hb e=>mv.heap b o (by simp[hb,Nat.ne_of_lt (Heap.lt_size e)]) (Q7 b o (Nat.ne_of_lt (Heap.lt_size e)) e)) hS' hacc
end
theorem wB{α β:Type}{F:α->β->Prop}{x:α}{y:β}(h:F x y):∀{l:List α} {r:List β},Paired F l r->Paired F (l++[x]) (r++[y])
 | _,_,.nil=>.cons h .nil
 | _,_,.cons h1 t=>.cons h1 (wB h t)
theorem wC{α β:Type}{F:α->β->Prop}:∀{l:List α} {r:List β},Paired F l r->Paired F l.reverse r.reverse
 | _,_,.nil=>.nil
 | _,_,.cons h t=>by
   rw[List.reverse_cons,List.reverse_cons];exact wB h (wC t)
def Ip(K:bI)(te:TE):TE:=fun σ H Q=>te σ H fun x H1=>∃ l vs,x = .ref l/\aZ K H1 l vs/\vs.length<=900/\∀ D,H1 D=none->Q (.ref D) (upd H1 D (.lst vs.reverse))
section
variable {X:Cx}
theorem Dz(K:bI){e:Expr}{te:TE}{p1 p2 pos1 pos2:Pos}(JX:X.calm=true)(hg1:Gl X "list")(hm1:X.mg "list"=none)(hg2:Gl X "reversed")(hm2:X.mg "reversed"=none)(he:PE X e te)
 (hs1:starEach [.Call (.Name "reversed" p2) [e] [] pos2] X.env=[(false,eval (.Call (.Name "reversed" p2) [e] [] pos2) X.env)]:=by rfl) (hs2:starEach [e] X.env=[(false,eval e X.env)]:=by rfl) (hK:X.K=K:=by rfl) :
 PE X (.Call (.Name "list" p1) [.Call (.Name "reversed" p2) [e] [] pos2] [] pos1) (Ip K te):=by
 subst hK;intro pq s σ H Q I h;refine wpAny_Call_Name_kw (lX I hg1 hm1 PyProof.Rows.boot_list ?_);refine PyProof.Rows.callWith_type1 ?_ hs1 rfl;rw[hs1];show wpAny _ _ (spliced ((false,eval (.Call (.Name "reversed" p2) [e] [] pos2) X.env)::backTo pos1 [])) _ _ s;refine Calls.spliced_cons ?_;refine wpAny_Call_Name_kw (lX I hg2 hm2 PyProof.Rows.boot_reversed ?_);refine PyProof.Rows.callWith_type1 ?_ hs2 rfl;rw[hs2];show wpAny _ _ (spliced ((false,eval e X.env)::backTo pos2 [])) _ _ s;refine Calls.spliced_cons (fP (he pq s σ H _ I h) fun u s1 ⟨x,H1,I1,r1,l,vs,ex,hq,hv,q1⟩=>?_)
 subst ex;cases r1;refine Calls.spliced_nil ?_;obtain⟨its,rv,⟨o,n,ho,hc,hdt,hd⟩,hz⟩:=I1.list hq;have hlen:vs.length=its.length:=rv.length;have hsl:its.length<=sizeLine:=Nat.le_of_lt (gr (by lia))
 refine call_reversed_list ⟨o,ho,hc,n,hd⟩ ?_;refine Calls.spliced_nil ?_;have hlt:=Heap.lt_size ho;have hpI:(s1.heap.push (revObj l (its.toArray.size-1))).get? s1.heap.objs.size=some (revObj l (its.toArray.size-1)):=Heap.get?_push_size s1.heap rfl;refine yh (items:=its.toArray) (I1.ok.hd JX) hpI ⟨o,Heap.get?_push_of_some _ ho,hc,n,hd⟩ (Nat.ne_of_lt hlt) (by rw[List.size_toArray];exact hsl) fun h' tk acc c hk hget hacc=>?_
 have hsz:s1.heap.objs.size<=(s1.heap.push (revObj l (its.toArray.size-1))).objs.size:=by rw[size_push'];exact Nat.le_succ _
 have OW:acc.toList=its.reverse:=by
  refine List.ext_getElem? fun j=>?_
  have a1:acc.size=its.length:=hacc.1.trans (List.size_toArray);have a2:=hacc.2
  by_cases hj:j<its.length
  ·have hja:j<acc.size:=by lia
   have h1:=a2 j acc[j] (Array.getElem?_eq_getElem hja);rw[List.size_toArray,List.getElem?_toArray]at h1;rw[Array.getElem?_toList,Array.getElem?_eq_getElem hja,List.getElem?_reverse hj,h1]
  ·rw[List.getElem?_eq_none (by rw[Array.length_toList];lia),List.getElem?_eq_none (by rw[List.length_reverse];lia)]
 refine⟨.ref (s1.heap.push (revObj l (its.toArray.size-1))).objs.size,_,I1.laid (t':=tk) (o:=.lst vs.reverse) (fun b o' hb=>hk b o' (Nat.ne_of_lt (Heap.lt_size hb)) (Heap.get?_push_of_some _ hb)) hsz ⟨by rw[List.length_reverse,hlen];exact hsl,acc.toList,c,by rw[OW];exact wC rv,by
  have:acc.toList.toArray=acc:=by simp
  rw[this];exact hget⟩,rfl,q1 _ (I1.hok.fresh hsz)⟩
end
theorem cP{lo:Int}{n:Nat}{g:TG}{tb:TS}{D:Ends}{σ:St}{H:Hp}(Pv:Nat->St->Hp->Prop)(h0:Pv 0 σ H)
 (hs:∀ i,let D' : Ends:={ D with nx:=Pv (i+1),ct:=Pv (i+1),bk:=D.nx};∀ σ H,i<n->Pv i σ H->g (.int (lo+i)) σ H fun σ2 H2=>tb D' σ2 H2) (hd:∀ σ H,Pv n σ H->D.nx σ H) :
 ∃ W:Nat->Nat->St->Hp->Prop,(∃ m,W 0 m σ H)/\∀ i m σ H,W i m σ H->
   ((D5 lo n).stop i H/\D.nx σ H)\/((D5 lo n).go i H/\∃ N:St->Hp->Prop,(∀ σ' H',N σ' H'->∃ m',m'<m/\W (i+1) m' σ' H')/\∀ x H',(D5 lo n).Jm i H x H'->g x σ H' fun σ2 H2=>tb { D with nx:=N,ct:=N,bk:=D.nx} σ2 H2) :=
 ly Pv h0 (fun i σ H hi p=>hs i σ H hi p) hd
theorem ir{K:bI}{a:Addr}{xs:List V}{g:TG}{tb:TS}{D:Ends}{σ:St}{H:Hp}(Pv:Nat->St->Hp->Prop)(h0:Pv 0 σ H)(hl:∀ i σ H,i<=xs.length->Pv i σ H->aZ K H a xs)
 (hs:∀ i x,let D' : Ends:={ D with nx:=Pv (i+1),ct:=Pv (i+1),bk:=D.nx};∀ σ H,xs[i]?=some x->Pv i σ H->g x σ H fun σ2 H2=>tb D' σ2 H2) (hd:∀ σ H,Pv xs.length σ H->D.nx σ H) :
 ∃ W:Nat->Nat->St->Hp->Prop,(∃ m,W 0 m σ H)/\∀ i m σ H,W i m σ H->
   ((JF K a).stop i H/\D.nx σ H)\/((JF K a).go i H/\∃ N:St->Hp->Prop,(∀ σ' H',N σ' H'->∃ m',m'<m/\W (i+1) m' σ' H')/\∀ x H',(JF K a).Jm i H x H'->g x σ H' fun σ2 H2=>tb { D with nx:=N,ct:=N,bk:=D.nx} σ2 H2) :=
 vD Pv h0 hl (fun i x σ H hi p=>hs i x σ H hi p) hd
theorem Nt{X:Cx}{e:Expr}{T:String}{r:V->List V->Hp->VK->Prop}{to:TE}{t:TA}(K:bI)(p:PE X e (SR X.K T r to t))(h:X.K=K:=by rfl):PE X e (SR K T r to t):=by subst h;exact p
theorem bM{K:bI}{H:Hp}{a:Addr}{xs:List V}{k:Int}{v:V}{R:V->Prop}(hs:aT K H a xs)(ha:z7 xs k=some v)(q:R v):∃ p ys k' w,V.ref a = .ref p/\V.int k = .int k'/\aT K H p ys/\z7 ys k' = some w/\R w:=⟨a,xs,k,v,rfl,rfl,hs,ha,q⟩
theorem nq{K:bI}{H:Hp}{a:Addr}{xs:List V}{k:Int}{v:V}{R:V->Prop}(hs:aZ K H a xs)(ha:z7 xs k=some v)(q:R v):∃ p ys k' w,V.ref a = .ref p/\V.int k = .int k'/\aZ K H p ys/\z7 ys k' = some w/\R w:=⟨a,xs,k,v,rfl,rfl,hs,ha,q⟩
theorem bu{i j:Int}{R:Int->Int->Prop}(h:R i j):∃ i' j',V.int i = .int i'/\V.int j = .int j'/\R i' j':=⟨i,j,rfl,rfl,h⟩
theorem m6{K:bI}{H:Hp}{a:Addr}{xs:List V}{E:Addr->Prop}{R:List V->Prop}(e:E a)(h:aZ K H a xs\/aT K H a xs)(q:R xs):∃ p ys,E p/\(aZ K H p ys\/aT K H p ys)/\R ys:=⟨a,xs,e,h,q⟩
theorem ao{α:Type}{A R:α->Prop}{x:α}(h:A x)(r:R x):∃ x,A x/\R x:=⟨x,h,r⟩
end L2
set_option maxHeartbeats 4000000
namespace K22
open PySem L2 Ring
def top(i:Nat):Stmt:=PySem.Challenge.pw_ringbase_k22_answers_judged.main.body.getD i (.Pass ⟨0,0,0,0⟩)
abbrev jC:Stmt:=top 15
theorem DA:aI ["tie_set","tie"] ["tie_set","tie"] (ah jC):=⟨rfl,rfl,rfl,by decide +kernel,rfl,by decide +kernel,by decide +kernel⟩
abbrev iu:Stmt:=top 16
theorem DB:aI ["tie_set"] ["tie_set"] (ah iu):=⟨rfl,rfl,rfl,by decide +kernel,rfl,by decide +kernel,by decide +kernel⟩
abbrev lH:Stmt:=top 17
theorem o6:aI ["web","ties","found","tie"] ["web","ties"] (ah lH):=⟨rfl,rfl,rfl,by decide +kernel,rfl,by decide +kernel,by decide +kernel⟩
theorem FL{ck cB dX iV:TS}{dR:TT}{m7:TI}{m8:TG}{D:Ends}{σ:St}{H:Hp}(h:let cj:TS:=ck;let cM:TS:=cB;let eY:TS:=dX;let gD:TS:=(av (aW dR eY aM) cM);let lu:TS:=(av (cL m7 m8 gD) cj);(av iV lu) D σ H):(av iV (av (cL m7 m8 (av (aW dR dX aM) cB)) ck)) D σ H:=h
abbrev iw:Stmt:=top 18
theorem BS:aI ["web"] ["web"] (ah iw):=⟨rfl,rfl,rfl,by decide +kernel,rfl,by decide +kernel,by decide +kernel⟩
abbrev lI:Stmt:=top 19
theorem FN:aI ["web","number"] ["web","number"] (ah lI):=⟨rfl,rfl,rfl,by decide +kernel,rfl,by decide +kernel,by decide +kernel⟩
abbrev gu:Stmt:=top 20
theorem Az:aI ["web","tie_set"] ["web","tie_set"] (ah gu):=⟨rfl,rfl,rfl,by decide +kernel,rfl,by decide +kernel,by decide +kernel⟩
theorem AA{ck:TS}{dR:TT}{D:Ends}{σ:St}{H:Hp}(h:let cj:TS:=ck;(aW dR cj aM) D σ H):(aW dR ck aM) D σ H:=h
abbrev d9:Stmt:=top 21
theorem yi:aI ["web","tie_set"] ["web","tie_set"] (ah d9):=⟨rfl,rfl,rfl,by decide +kernel,rfl,by decide +kernel,by decide +kernel⟩
theorem yj{ck cB:TS}{D:Ends}{σ:St}{H:Hp}(h:let cj:TS:=ck;(av cB cj) D σ H):(av cB ck) D σ H:=h
abbrev fg:Stmt:=top 22
theorem AB:aI ["web","tie_set"] ["web","tie_set"] (ah fg):=⟨rfl,rfl,rfl,by decide +kernel,rfl,by decide +kernel,by decide +kernel⟩
abbrev ee:Stmt:=top 23
theorem fU:aI ["web","tie_set","ends","one","other","length"] ["web","tie_set"] (ah ee):=⟨rfl,rfl,rfl,by decide +kernel,rfl,by decide +kernel,by decide +kernel⟩
theorem yk{ck cB dX iV:TS}{m7:TI}{m8:TG}{D:Ends}{σ:St}{H:Hp}(h:let cj:TS:=ck;let cM:TS:=cB;let eY:TS:=(av dX cM);let gD:TS:=(av (cL m7 m8 eY) cj);(av iV gD) D σ H):(av iV (av (cL m7 m8 (av dX cB)) ck)) D σ H:=h
abbrev cE:Stmt:=top 24
theorem gO:aI ["leasts","one","other","low","high"] ["leasts","one","other"] (ah cE):=⟨rfl,rfl,rfl,by decide +kernel,rfl,by decide +kernel,by decide +kernel⟩
theorem rP{ck cB dX:TS}{D:Ends}{σ:St}{H:Hp}(h:let cj:TS:=ck;let cM:TS:=(av cB cj);(av dX cM) D σ H):(av dX (av cB ck)) D σ H:=h
abbrev j8:Stmt:=top 25
theorem gw:aI ["web","tie_set","leasts","one","other","length","found","start"] ["web","tie_set"] (ah j8):=⟨rfl,rfl,rfl,by decide +kernel,rfl,by decide +kernel,by decide +kernel⟩
theorem FO{ck cB dX iV m9:TS}{dR:TT}{m7 zj:TI}{m8 zk:TG}{D:Ends}{σ:St}{H:Hp}(h:let cj:TS:=ck;let cM:TS:=cB;let eY:TS:=(aW dR cM aM);let gD:TS:=(av (cL m7 m8 eY) cj);let lu:TS:=(av dX gD);let nR:TS:=iV;let nS:TS:=(av (cL zj zk nR) lu);(av m9 nS) D σ H):(av m9 (av (cL zj zk iV) (av dX (av (cL m7 m8 (aW dR cB aM)) ck)))) D σ H:=h
abbrev jD:Stmt:=top 27
theorem DC:aI ["web","tie_set"] ["web","tie_set"] (ah jD):=⟨rfl,rfl,rfl,by decide +kernel,rfl,by decide +kernel,by decide +kernel⟩
abbrev iy:Stmt:=top 29
theorem wD:aI ["web","tie_set","touched"] ["web","tie_set"] (ah iy):=⟨rfl,rfl,rfl,by decide +kernel,rfl,by decide +kernel,by decide +kernel⟩
theorem DE{ck cB dX:TS}{dR:TT}{D:Ends}{σ:St}{H:Hp}(h:let cj:TS:=ck;let cM:TS:=(av cB cj);let eY:TS:=dX;(av (aW dR eY aM) cM) D σ H):(av (aW dR dX aM) (av cB ck)) D σ H:=h
abbrev cX:Stmt:=top 30
theorem rQ:aI ["web","number"] ["web","number"] (ah cX):=⟨rfl,rfl,rfl,by decide +kernel,rfl,by decide +kernel,by decide +kernel⟩
abbrev lJ:Stmt:=top 32
theorem FP:aI ["one","other"] ["one","other"] (ah lJ):=⟨rfl,rfl,rfl,by decide +kernel,rfl,by decide +kernel,by decide +kernel⟩
abbrev eI:Stmt:=top 33
theorem wF:aI ["tie_set","marks"] ["tie_set","marks"] (ah eI):=⟨rfl,rfl,rfl,by decide +kernel,rfl,by decide +kernel,by decide +kernel⟩
abbrev jE:Stmt:=top 34
theorem fh:aI ["web","side","ahead","point"] ["web","side"] (ah jE):=⟨rfl,rfl,rfl,by decide +kernel,rfl,by decide +kernel,by decide +kernel⟩
theorem wG{ck cB dX iV:TS}{dR:TT}{m7:TI}{m8:TG}{D:Ends}{σ:St}{H:Hp}(h:let cj:TS:=ck;let cM:TS:=cB;let eY:TS:=dX;let gD:TS:=(av (aW dR eY aM) cM);let lu:TS:=(av (cL m7 m8 gD) cj);(av iV lu) D σ H):(av iV (av (cL m7 m8 (av (aW dR dX aM) cB)) ck)) D σ H:=h
abbrev j9:Stmt:=top 35
theorem FQ:aI ["web","side"] ["web","side"] (ah j9):=⟨rfl,rfl,rfl,by decide +kernel,rfl,by decide +kernel,by decide +kernel⟩
theorem FT{ck cB:TS}{dR:TT}{D:Ends}{σ:St}{H:Hp}(h:let cj:TS:=ck;let cM:TS:=cB;(av (aW dR cM aM) cj) D σ H):(av (aW dR cB aM) ck) D σ H:=h
abbrev fB:Stmt:=top 36
theorem yl:aI ["web","side","tie_set"] ["web","side","tie_set"] (ah fB):=⟨rfl,rfl,rfl,by decide +kernel,rfl,by decide +kernel,by decide +kernel⟩
abbrev eJ:Stmt:=top 38
theorem wH:aI ["one","other","length"] ["one","other","length"] (ah eJ):=⟨rfl,rfl,rfl,by decide +kernel,rfl,by decide +kernel,by decide +kernel⟩
theorem wI{ck cB:TS}{dR:TT}{D:Ends}{σ:St}{H:Hp}(h:let cj:TS:=ck;let cM:TS:=cB;(av (aW dR cM aM) cj) D σ H):(av (aW dR cB aM) ck) D σ H:=h
abbrev fC:Stmt:=top 39
theorem kU:aI ["tie","turn","worths","here","there"] ["tie","turn","worths"] (ah fC):=⟨rfl,rfl,rfl,by decide +kernel,rfl,by decide +kernel,by decide +kernel⟩
theorem ym{ck cB dX:TS}{D:Ends}{σ:St}{H:Hp}(h:let cj:TS:=ck;let cM:TS:=(av cB cj);(av dX cM) D σ H):(av dX (av cB ck)) D σ H:=h
abbrev dY:Stmt:=top 40
theorem gi:aI ["web","marks","worths","point","place","tie"] ["web","marks","worths"] (ah dY):=⟨rfl,rfl,rfl,by decide +kernel,rfl,by decide +kernel,by decide +kernel⟩
theorem u6{ck cB dX iV:TS}{dR wJ:TT}{m7 zj:TI}{m8 zk:TG}{D:Ends}{σ:St}{H:Hp}(h:let cj:TS:=ck;let cM:TS:=cB;let eY:TS:=(aW dR cM aM);let gD:TS:=(cL zj zk eY);let lu:TS:=dX;let nR:TS:=(av (aW wJ lu aM) gD);let nS:TS:=(av (cL m7 m8 nR) cj);(av iV nS) D σ H):(av iV (av (cL m7 m8 (av (aW wJ dX aM) (cL zj zk (aW dR cB aM)))) ck)) D σ H:=h
abbrev cH:Stmt:=top 41
theorem nc:aI ["worths","length","rounds"] ["worths","length"] (ah cH):=⟨rfl,rfl,rfl,by decide +kernel,rfl,by decide +kernel,by decide +kernel⟩
theorem u7{ck cB:TS}{D:Ends}{σ:St}{H:Hp}(h:let cj:TS:=ck;(av cB cj) D σ H):(av cB ck) D σ H:=h
abbrev eK:Stmt:=top 42
theorem wK:aI ["web","marks","ring","worths"] ["web","marks","ring","worths"] (ah eK):=⟨rfl,rfl,rfl,by decide +kernel,rfl,by decide +kernel,by decide +kernel⟩
theorem wL{ck cB:TS}{dR:TT}{D:Ends}{σ:St}{H:Hp}(h:let cj:TS:=ck;let cM:TS:=cB;(av (aW dR cM aM) cj) D σ H):(av (aW dR cB aM) ck) D σ H:=h
abbrev fD:Stmt:=top 43
theorem yn:aI ["web","marks","answer"] ["web","marks","answer"] (ah fD):=⟨rfl,rfl,rfl,by decide +kernel,rfl,by decide +kernel,by decide +kernel⟩
theorem yo{ck cB dX:TS}{dR:TT}{D:Ends}{σ:St}{H:Hp}(h:let cj:TS:=ck;let cM:TS:=cB;let eY:TS:=(av (aW dR cM aM) cj);(av dX eY) D σ H):(av dX (av (aW dR cB aM) ck)) D σ H:=h
abbrev eM:Stmt:=top 45
theorem wM:aI ["script","k"] ["script","k"] (ah eM):=⟨rfl,rfl,rfl,by decide +kernel,rfl,by decide +kernel,by decide +kernel⟩
theorem wN{ck cB:TS}{dR:TT}{D:Ends}{σ:St}{H:Hp}(h:let cj:TS:=ck;let cM:TS:=cB;(av (aW dR cM aM) cj) D σ H):(av (aW dR cB aM) ck) D σ H:=h
abbrev iz:Stmt:=top 46
theorem uG:aI ["cell","k","way","stir"] ["cell","k","way"] (ah iz):=⟨rfl,rfl,rfl,by decide +kernel,rfl,by decide +kernel,by decide +kernel⟩
theorem BU{ck cB dX:TS}{dR:TT}{D:Ends}{σ:St}{H:Hp}(h:let cj:TS:=ck;let cM:TS:=(av cB cj);let eY:TS:=dX;(av (aW dR eY aM) cM) D σ H):(av (aW dR dX aM) (av cB ck)) D σ H:=h
abbrev jF:Stmt:=top 47
theorem kc:aI ["left","points","mode","one","other"] ["left","points","mode"] (ah jF):=⟨rfl,rfl,rfl,by decide +kernel,rfl,by decide +kernel,by decide +kernel⟩
theorem DF{ck cB dX iV m9:TS}{D:Ends}{σ:St}{H:Hp}(h:let cj:TS:=ck;let cM:TS:=(av cB cj);let eY:TS:=(av dX cM);let gD:TS:=(av iV eY);(av m9 gD) D σ H):(av m9 (av iV (av dX (av cB ck)))) D σ H:=h
abbrev jG:Stmt:=top 48
theorem dP:aI ["script","most_points","most_ties","way","left","points","mode","cells","k","ties"] ["script","most_points","most_ties"] (ah jG):=⟨rfl,rfl,rfl,by decide +kernel,rfl,by decide +kernel,by decide +kernel⟩
theorem DG{ck cB dX iV m9 uH wO zm EG EH:TS}{dR:TT}{m7 zj:TI}{m8 zk:TG}{D:Ends}{σ:St}{H:Hp}(h:let cj:TS:=ck;let cM:TS:=cB;let eY:TS:=(av (cL m7 m8 cM) cj);let gD:TS:=(av dX eY);let lu:TS:=iV;let nR:TS:=(av (aW dR lu aM) gD);let nS:TS:=m9;let uI:TS:=(av (cL zj zk nS) nR);let wQ:TS:=(av uH uI);let wR:TS:=(av wO wQ);let lK:TS:=(av zm wR);let nU:TS:=(av EG lK);(av EH nU) D σ H):(av EH (av EG (av zm (av wO (av uH (av (cL zj zk m9) (av (aW dR iV aM) (av dX (av (cL m7 m8 cB) ck))))))))) D σ H:=h
abbrev ef:Stmt:=top 49
theorem cU:aI ["web","some","ends","ties","k","start","at","walk","tie"] ["web","some"] (ah ef):=⟨rfl,rfl,rfl,by decide +kernel,rfl,by decide +kernel,by decide +kernel⟩
theorem BV{ck cB dX iV m9 uH wO zm EG EH BW BX BY Iq:TS}{dR wJ Af Ir:TT}{m7:TI}{m8:TG}{D:Ends}{σ:St}{H:Hp}(h:let cj:TS:=ck;let cM:TS:=cB;let eY:TS:=(av (aW dR cM aM) cj);let gD:TS:=dX;let lu:TS:=m9;let nR:TS:=(av iV gD);let nS:TS:=(av uH lu);let uI:TS:=(aW Af nR nS);let wQ:TS:=(av wO uI);let wR:TS:=(av (vB wJ wQ) eY);let lK:TS:=(av zm wR);let nU:TS:=(av EG lK);let rR:TS:=EH;let rS:TS:=(av (aW Ir rR aM) nU);let u9:TS:=BW;let wU:TS:=(av BX u9);let BZ:TS:=(av (cL m7 m8 wU) rS);let B0:TS:=(av BY BZ);(av Iq B0) D σ H):(av Iq (av BY (av (cL m7 m8 (av BX BW)) (av (aW Ir EH aM) (av EG (av zm (av (vB wJ (av wO (aW Af (av iV dX) (av uH m9)))) (av (aW dR cB aM) ck)))))))) D σ H:=h
abbrev gx:Stmt:=top 50
theorem AD:aI ["one","more"] ["one","more"] (ah gx):=⟨rfl,rfl,rfl,by decide +kernel,rfl,by decide +kernel,by decide +kernel⟩
theorem AE{ck cB:TS}{dR:TT}{D:Ends}{σ:St}{H:Hp}(h:let cj:TS:=ck;let cM:TS:=cB;(av (aW dR cM aM) cj) D σ H):(av (aW dR cB aM) ck) D σ H:=h
abbrev dF:Stmt:=top 51
theorem bL:aI ["web","marks","point","far","turn","k","one","other","length","bit","a","b","s"] ["web","marks","point"] (ah dF):=⟨rfl,rfl,rfl,by decide +kernel,rfl,by decide +kernel,by decide +kernel⟩
theorem yq{ck cB dX iV m9 uH:TS}{dR:TT}{m7 zj Ll OX:TI}{m8 zk Lm OY:TG}{D:Ends}{σ:St}{H:Hp}(h:let cj:TS:=ck;let cM:TS:=cB;let eY:TS:=(aW dR cM aM);let gD:TS:=(cL OX OY eY);let lu:TS:=(cL Ll Lm gD);let nR:TS:=(av dX lu);let nS:TS:=(av iV nR);let uI:TS:=(cL zj zk nS);let wQ:TS:=(av (cL m7 m8 uI) cj);let wR:TS:=(av m9 wQ);(av uH wR) D σ H):(av uH (av m9 (av (cL m7 m8 (cL zj zk (av iV (av dX (cL Ll Lm (cL OX OY (aW dR cB aM))))))) ck))) D σ H:=h
abbrev ek:Stmt:=top 52
theorem yr:aI ["web","some"] ["web","some"] (ah ek):=⟨rfl,rfl,rfl,by decide +kernel,rfl,by decide +kernel,by decide +kernel⟩
abbrev jH:Stmt:=top 53
theorem mD:aI ["number","odd"] ["number"] (ah jH):=⟨rfl,rfl,rfl,by decide +kernel,rfl,by decide +kernel,by decide +kernel⟩
theorem DH{ck cB dX iV:TS}{dR:TT}{D:Ends}{σ:St}{H:Hp}(h:let cj:TS:=ck;let cM:TS:=cB;let eY:TS:=(av dX cM);let gD:TS:=(av (vB dR eY) cj);(av iV gD) D σ H):(av iV (av (vB dR (av dX cB)) ck)) D σ H:=h
abbrev eN:Stmt:=top 54
theorem gP:aI ["web","marks","least","some"] ["web","marks"] (ah eN):=⟨rfl,rfl,rfl,by decide +kernel,rfl,by decide +kernel,by decide +kernel⟩
theorem wV{ck cB dX:TS}{dR:TT}{m7:TI}{m8:TG}{D:Ends}{σ:St}{H:Hp}(h:let cj:TS:=ck;let cM:TS:=cB;let eY:TS:=(aW dR cM aM);let gD:TS:=(av (cL m7 m8 eY) cj);(av dX gD) D σ H):(av dX (av (cL m7 m8 (aW dR cB aM)) ck)) D σ H:=h
abbrev jI:Stmt:=top 55
theorem mE:aI ["web","side","made","k"] ["web","side"] (ah jI):=⟨rfl,rfl,rfl,by decide +kernel,rfl,by decide +kernel,by decide +kernel⟩
theorem DI{ck cB dX:TS}{dR:TT}{m7:TI}{m8:TG}{D:Ends}{σ:St}{H:Hp}(h:let cj:TS:=ck;let cM:TS:=cB;let eY:TS:=(aW dR cM aM);let gD:TS:=(av (cL m7 m8 eY) cj);(av dX gD) D σ H):(av dX (av (cL m7 m8 (aW dR cB aM)) ck)) D σ H:=h
abbrev gn:Stmt:=top 56
theorem cI:aI ["web","marks","apart","least","turn","k","one","other","bit","a","b","side"] ["web","marks"] (ah gn):=⟨rfl,rfl,rfl,by decide +kernel,rfl,by decide +kernel,by decide +kernel⟩
theorem B3{ck cB dX iV m9 uH wO zm:TS}{dR wJ Af:TT}{m7 zj Ll OX:TI}{m8 zk Lm OY:TG}{D:Ends}{σ:St}{H:Hp}(h:let cj:TS:=ck;let cM:TS:=cB;let eY:TS:=(av (aW dR cM aM) cj);let gD:TS:=(av dX eY);let lu:TS:=iV;let nR:TS:=(aW Af lu aM);let nS:TS:=(cL OX OY nR);let uI:TS:=(av m9 nS);let wQ:TS:=(av uH uI);let wR:TS:=(cL Ll Lm wQ);let lK:TS:=(cL zj zk wR);let nU:TS:=(av wO lK);let rR:TS:=(aW wJ nU aM);let rS:TS:=(av (cL m7 m8 rR) gD);(av zm rS) D σ H):(av zm (av (cL m7 m8 (aW wJ (av wO (cL zj zk (cL Ll Lm (av uH (av m9 (cL OX OY (aW Af iV aM))))))) aM)) (av dX (av (aW dR cB aM) ck)))) D σ H:=h
abbrev fE:Stmt:=top 57
theorem bW:aI ["web","marks","worths","point","row","k","one","other","length","s","near","far"] ["web","marks","worths"] (ah fE):=⟨rfl,rfl,rfl,by decide +kernel,rfl,by decide +kernel,by decide +kernel⟩
theorem yt{ck cB dX iV m9 uH wO:TS}{dR wJ:TT}{m7 zj Ll:TI}{m8 zk Lm:TG}{D:Ends}{σ:St}{H:Hp}(h:let cj:TS:=ck;let cM:TS:=cB;let eY:TS:=(aW dR cM aM);let gD:TS:=(av dX eY);let lu:TS:=(av iV gD);let nR:TS:=(cL Ll Lm lu);let nS:TS:=(av m9 nR);let uI:TS:=(cL zj zk nS);let wQ:TS:=uH;let wR:TS:=(av (aW wJ wQ aM) uI);let lK:TS:=(av wO wR);(av (cL m7 m8 lK) cj) D σ H):(av (cL m7 m8 (av wO (av (aW wJ uH aM) (cL zj zk (av m9 (cL Ll Lm (av iV (av dX (aW dR cB aM))))))))) ck) D σ H:=h
abbrev jJ:Stmt:=top 58
theorem wW:aI ["row","at","s","value","pair"] ["row","at","s","value"] (ah jJ):=⟨rfl,rfl,rfl,by decide +kernel,rfl,by decide +kernel,by decide +kernel⟩
theorem DJ{ck cB dX:TS}{D:Ends}{σ:St}{H:Hp}(h:let cj:TS:=ck;let cM:TS:=(av cB cj);(av dX cM) D σ H):(av dX (av cB ck)) D σ H:=h
abbrev gy:Stmt:=top 59
theorem AF:aI ["value","way","length"] ["value","way","length"] (ah gy):=⟨rfl,rfl,rfl,by decide +kernel,rfl,by decide +kernel,by decide +kernel⟩
theorem AG{ck cB:TS}{dR:TT}{D:Ends}{σ:St}{H:Hp}(h:let cj:TS:=ck;let cM:TS:=cB;(av (aW dR cM aM) cj) D σ H):(av (aW dR cB aM) ck) D σ H:=h
abbrev bg:Stmt:=top 60
theorem kg:aI ["web","marks","side","out"] ["web","marks","side"] (ah bg):=⟨rfl,rfl,rfl,by decide +kernel,rfl,by decide +kernel,by decide +kernel⟩
theorem qv{ck cB dX:TS}{dR:TT}{D:Ends}{σ:St}{H:Hp}(h:let cj:TS:=ck;let cM:TS:=cB;let eY:TS:=(av (aW dR cM aM) cj);(av dX eY) D σ H):(av dX (av (aW dR cB aM) ck)) D σ H:=h
abbrev bH:Stmt:=top 61
theorem kh:aI ["web","marks","ring","worths","back"] ["web","marks","ring","worths"] (ah bH):=⟨rfl,rfl,rfl,by decide +kernel,rfl,by decide +kernel,by decide +kernel⟩
theorem qw{ck cB dX iV m9:TS}{dR wJ Af:TT}{D:Ends}{σ:St}{H:Hp}(h:let cj:TS:=ck;let cM:TS:=(av cB cj);let eY:TS:=dX;let gD:TS:=(av (aW dR eY aM) cM);let lu:TS:=iV;let nR:TS:=(av (aW wJ lu aM) gD);let nS:TS:=m9;(av (aW Af nS aM) nR) D σ H):(av (aW Af m9 aM) (av (aW wJ iV aM) (av (aW dR dX aM) (av cB ck)))) D σ H:=h
abbrev cf:Stmt:=top 62
theorem nV:aI ["web","marks","answer"] ["web","marks","answer"] (ah cf):=⟨rfl,rfl,rfl,by decide +kernel,rfl,by decide +kernel,by decide +kernel⟩
theorem nW{ck cB:TS}{dR:TT}{D:Ends}{σ:St}{H:Hp}(h:let cj:TS:=ck;let cM:TS:=cB;(av (aW dR cM aM) cj) D σ H):(av (aW dR cB aM) ck) D σ H:=h
abbrev fj:Stmt:=top 63
theorem gQ:aI ["e","first","more","last","heard"] ["e"] (ah fj):=⟨rfl,rfl,rfl,by decide +kernel,rfl,by decide +kernel,by decide +kernel⟩
theorem AH{ck cB dX iV m9:TS}{D:Ends}{σ:St}{H:Hp}(h:let cj:TS:=ck;let cM:TS:=(av cB cj);let eY:TS:=(av dX cM);let gD:TS:=(av iV eY);(av m9 gD) D σ H):(av m9 (av iV (av dX (av cB ck)))) D σ H:=h
abbrev bE:Stmt:=top 64
theorem aO:aI ["web","marks","answer","left","ring","worths","way","rest","point","at","most","row","s"] ["web","marks","answer","left"] (ah bE):=⟨rfl,rfl,rfl,by decide +kernel,rfl,by decide +kernel,by decide +kernel⟩
theorem nu{ck cB dX iV m9 uH wO zm EG EH BW BX BY Iq OZ:TS}{dR wJ Af Ir Mq:TT}{D:Ends}{σ:St}{H:Hp}(h:let cj:TS:=ck;let cM:TS:=cB;let eY:TS:=iV;let gD:TS:=m9;let lu:TS:=(av dX cM);let nR:TS:=(aW wJ eY gD);let nS:TS:=(av (aW dR lu nR) cj);let uI:TS:=(av uH nS);let wQ:TS:=wO;let wR:TS:=(av zm wQ);let lK:TS:=(av (aW Af wR aM) uI);let nU:TS:=EG;let rR:TS:=(av (aW Ir nU aM) lK);let rS:TS:=EH;let u9:TS:=(av (aW Mq rS aM) rR);let wU:TS:=(av BW u9);let BZ:TS:=(av BX wU);let B0:TS:=(av BY BZ);let O0:TS:=(av Iq B0);(av OZ O0) D σ H):(av OZ (av Iq (av BY (av BX (av BW (av (aW Mq EH aM) (av (aW Ir EG aM) (av (aW Af (av zm wO) aM) (av uH (av (aW dR (av dX cB) (aW wJ iV m9)) ck)))))))))) D σ H:=h
abbrev br:Stmt:=top 65
theorem eT:aI ["web","side","left","way","point"] ["web","side","left"] (ah br):=⟨rfl,rfl,rfl,by decide +kernel,rfl,by decide +kernel,by decide +kernel⟩
theorem ny{ck cB dX iV m9 uH wO zm EG EH:TS}{dR wJ Af Ir Mq QV QW:TT}{D:Ends}{σ:St}{H:Hp}(h:let cj:TS:=ck;let cM:TS:=cB;let eY:TS:=(av (aW dR cM aM) cj);let gD:TS:=dX;let lu:TS:=(av (aW wJ gD aM) eY);let nR:TS:=iV;let nS:TS:=(av (aW Af nR aM) lu);let uI:TS:=m9;let wQ:TS:=(av (aW Ir uI aM) nS);let wR:TS:=uH;let lK:TS:=(av (aW Mq wR aM) wQ);let nU:TS:=wO;let rR:TS:=(av (aW QV nU aM) lK);let rS:TS:=zm;let u9:TS:=(av (aW QW rS aM) rR);let wU:TS:=(av EG u9);(av EH wU) D σ H):(av EH (av EG (av (aW QW zm aM) (av (aW QV wO aM) (av (aW Mq uH aM) (av (aW Ir m9 aM) (av (aW Af iV aM) (av (aW wJ dX aM) (av (aW dR cB aM) ck))))))))) D σ H:=h
abbrev cV:Stmt:=top 66
theorem ez:aI ["web","marks","left","side","least","worths","odd_ones","rings","near"] ["web","marks","left"] (ah cV):=⟨rfl,rfl,rfl,by decide +kernel,rfl,by decide +kernel,by decide +kernel⟩
theorem AI{ck cB dX iV m9 uH wO zm:TS}{dR:TT}{D:Ends}{σ:St}{H:Hp}(h:let cj:TS:=ck;let cM:TS:=(av cB cj);let eY:TS:=(av dX cM);let gD:TS:=(av iV eY);let lu:TS:=(av m9 gD);let nR:TS:=(av uH lu);let nS:TS:=wO;let uI:TS:=(av (aW dR nS aM) nR);(av zm uI) D σ H):(av zm (av (aW dR wO aM) (av uH (av m9 (av iV (av dX (av cB ck))))))) D σ H:=h
abbrev gz:Stmt:=top 67
theorem rT:aI ["web","marks","answer","found"] ["web","marks","answer"] (ah gz):=⟨rfl,rfl,rfl,by decide +kernel,rfl,by decide +kernel,by decide +kernel⟩
theorem AJ{ck cB:TS}{D:Ends}{σ:St}{H:Hp}(h:let cj:TS:=ck;(av cB cj) D σ H):(av cB ck) D σ H:=h
abbrev eO:Stmt:=top 68
theorem gR:aI ["web","marks","answer","heard","e"] ["web","marks","answer"] (ah eO):=⟨rfl,rfl,rfl,by decide +kernel,rfl,by decide +kernel,by decide +kernel⟩
theorem wX{ck cB dX:TS}{D:Ends}{σ:St}{H:Hp}(h:let cj:TS:=ck;let cM:TS:=(av cB cj);(av dX cM) D σ H):(av dX (av cB ck)) D σ H:=h
abbrev pP:Stmt:=top 69
theorem gS:aI ["script","web","left","marks","first","last","k","change","tried","answer"] ["script"] (ah pP):=⟨rfl,rfl,rfl,by decide +kernel,rfl,by decide +kernel,by decide +kernel⟩
theorem MX{ck cB dX iV m9 uH wO zm EG EH BW BX BY:TS}{dR wJ Af Ir:TT}{m7 zj:TI}{m8 zk:TG}{D:Ends}{σ:St}{H:Hp}(h:let cj:TS:=ck;let cM:TS:=cB;let eY:TS:=(aW dR cM aM);let gD:TS:=(cL zj zk eY);let lu:TS:=dX;let nR:TS:=m9;let nS:TS:=(av iV lu);let uI:TS:=(av uH nR);let wQ:TS:=(av (aW wJ nS uI) gD);let wR:TS:=(av wO wQ);let lK:TS:=(av (cL m7 m8 wR) cj);let nU:TS:=zm;let rR:TS:=(av (aW Af nU aM) lK);let rS:TS:=(av EG rR);let u9:TS:=(av EH rS);let wU:TS:=BW;let BZ:TS:=(av (aW Ir wU aM) u9);let B0:TS:=(av BX BZ);(av BY B0) D σ H):(av BY (av BX (av (aW Ir BW aM) (av EH (av EG (av (aW Af zm aM) (av (cL m7 m8 (av wO (av (aW wJ (av iV dX) (av uH m9)) (cL zj zk (aW dR cB aM))))) ck))))))) D σ H:=h
set_option genInjectivity false
set_option genSizeOf false
structure tH where
 jK:Addr
 lM:FuncData
 iA:Addr
 jL:FuncData
 nX:Addr
 rV:FuncData
 ki:Addr
 mF:FuncData
 lN:Addr
 nY:FuncData
 fk:Addr
 gA:FuncData
 eB:Addr
 fF:FuncData
 iW:Addr
 kD:FuncData
 gU:Addr
 jo:FuncData
 dZ:Addr
 fG:FuncData
 nZ:Addr
 rW:FuncData
 lO:Addr
 o7:FuncData
 lP:Addr
 o8:FuncData
 d7:Addr
 fH:FuncData
 n5:Addr
 rX:FuncData
 fV:Addr
 iM:FuncData
 iB:Addr
 jM:FuncData
 n8:Addr
 rY:FuncData
 gV:Addr
 jq:FuncData
 fW:Addr
 iN:FuncData
 gW:Addr
 jr:FuncData
 fm:Addr
 gX:FuncData
 fu:Addr
 gY:FuncData
 fX:Addr
 iO:FuncData
 fJ:Addr
 gZ:FuncData
 eR:Addr
 fY:FuncData
 iC:Addr
 kj:FuncData
 lQ:Addr
 o9:FuncData
 lR:Addr
 pe:FuncData
 gp:Addr
 iD:FuncData
 gB:Addr
 iX:FuncData
 g6:Addr
 jt:FuncData
 eE:Addr
 fK:FuncData
 iE:Addr
 jN:FuncData
 fZ:Addr
 iP:FuncData
 iF:Addr
 jO:FuncData
 ko:Addr
 mG:FuncData
 g7:Addr
 ju:FuncData
 lS:Addr
 pA:FuncData
 iY:Addr
 kE:FuncData
 bB:Addr
 eW:FuncData
 dG:Addr
 eX:FuncData
 cQ:Addr
 dW:FuncData
 kF:Addr
 oj:FuncData
 cJ:Addr
 dH:FuncData
 cK:Addr
 dI:FuncData
 iZ:Addr
 kG:FuncData
 i3:Addr
 kH:FuncData
 gc:Addr
 iQ:FuncData
 Iu:Addr
 Iv:FuncData
 uJ:Addr
 wY:Addr
 aJ:Addr
 qx:Addr
 tI:Addr
 tJ:Addr
 wZ:Addr
 w4:Addr
 tK:Addr
 w5:Addr
 w6:Addr
 tL:Addr
 xg:Addr
structure Txt(K:bI)(mg:iI)(a:tH):Prop where
 zo:gG K "has_tie" "has_tie" jC a.jK a.lM
 zp:mg "has_tie"=some (.ref a.jK)
 zq:Binds K a.lM ["tie_set","tie"] []
 zu:gG K "ties_in" "ties_in" iu a.iA a.jL
 tM:mg "ties_in"=some (.ref a.iA)
 tO:Binds K a.jL ["tie_set"] []
 B4:gG K "set_of" "set_of" lH a.nX a.rV
 Iw:mg "set_of"=some (.ref a.nX)
 Iz:Binds K a.rV ["web","ties"] []
 xh:gG K "all_ties" "all_ties" iw a.ki a.mF
 DK:mg "all_ties"=some (.ref a.ki)
 DL:Binds K a.mF ["web"] []
 B5:gG K "is_set" "is_set" lI a.lN a.nY
 B6:mg "is_set"=some (.ref a.lN)
 B7:Binds K a.nY ["web","number"] []
 uK:gG K "check_set" "check_set" gu a.fk a.gA
 oq:mg "check_set"=some (.ref a.fk)
 ou:Binds K a.gA ["web","tie_set"] []
 rZ:gG K "triples_in" "triples_in" d9 a.eB a.fF
 mH:mg "triples_in"=some (.ref a.eB)
 mJ:Binds K a.fF ["web","tie_set"] []
 uL:gG K "length_of" "length_of" fg a.iW a.kD
 B8:mg "length_of"=some (.ref a.iW)
 B9:Binds K a.kD ["web","tie_set"] []
 r6:gG K "odd_points" "odd_points" ee a.gU a.jo
 AK:mg "odd_points"=some (.ref a.gU)
 AL:Binds K a.jo ["web","tie_set"] []
 lT:gG K "drawn_together" "drawn_together" cE a.dZ a.fG
 tP:mg "drawn_together"=some (.ref a.dZ)
 tQ:Binds K a.fG ["leasts","one","other"] []
 Ca:gG K "pieces" "pieces" j8 a.nZ a.rW
 IA:mg "pieces"=some (.ref a.nZ)
 IB:Binds K a.rW ["web","tie_set"] []
 zw:gG K "is_even" "is_even" jD a.lO a.o7
 FU:mg "is_even"=some (.ref a.lO)
 FW:Binds K a.o7 ["web","tie_set"] []
 zx:gG K "is_ring" "is_ring" iy a.lP a.o8
 FY:mg "is_ring"=some (.ref a.lP)
 FZ:Binds K a.o8 ["web","tie_set"] []
 lU:gG K "is_ring_number" "is_ring_number" cX a.d7 a.fH
 tR:mg "is_ring_number"=some (.ref a.d7)
 tS:Binds K a.fH ["web","number"] []
 Cb:gG K "common" "common" lJ a.n5 a.rX
 IC:mg "common"=some (.ref a.n5)
 ID:Binds K a.rX ["one","other"] []
 pQ:gG K "bears_oddly" "bears_oddly" eI a.fV a.iM
 yu:mg "bears_oddly"=some (.ref a.fV)
 yv:Binds K a.iM ["tie_set","marks"] []
 tT:gG K "is_side" "is_side" jE a.iB a.jM
 zy:mg "is_side"=some (.ref a.iB)
 zA:Binds K a.jM ["web","side"] []
 Cc:gG K "cut_of" "cut_of" j9 a.n8 a.rY
 IE:mg "cut_of"=some (.ref a.n8)
 IF:Binds K a.rY ["web","side"] []
 r9:gG K "is_side_of" "is_side_of" fB a.gV a.jq
 AM:mg "is_side_of"=some (.ref a.gV)
 AN:Binds K a.jq ["web","side","tie_set"] []
 pR:gG K "near_enough" "near_enough" eJ a.fW a.iN
 pS:mg "near_enough"=some (.ref a.fW)
 pU:Binds K a.iN ["one","other","length"] []
 se:gG K "tie_stands" "tie_stands" fC a.gW a.jr
 AO:mg "tie_stands"=some (.ref a.gW)
 AQ:Binds K a.jr ["tie","turn","worths"] []
 oz:gG K "worths_stand" "worths_stand" dY a.fm a.gX
 xj:mg "worths_stand"=some (.ref a.fm)
 xm:Binds K a.gX ["web","marks","worths"] []
 oB:gG K "none_shorter" "none_shorter" cH a.fu a.gY
 xn:mg "none_shorter"=some (.ref a.fu)
 xo:Binds K a.gY ["worths","length"] []
 pV:gG K "ring_stands" "ring_stands" eK a.fX a.iO
 yw:mg "ring_stands"=some (.ref a.fX)
 yx:Binds K a.iO ["web","marks","ring","worths"] []
 sj:gG K "odd_judged" "odd_judged" fD a.fJ a.gZ
 sr:mg "odd_judged"=some (.ref a.fJ)
 su:Binds K a.gZ ["web","marks","answer"] []
 pW:gG K "_law_cell_at" "_law_cell_at" eM a.eR a.fY
 kW:mg "_law_cell_at"=some (.ref a.eR)
 kX:Binds K a.fY ["script","k"] []
 xq:gG K "_law_left" "_law_left" iz a.iC a.kj
 qy:mg "_law_left"=some (.ref a.iC)
 qz:Binds K a.kj ["cell","k","way"] []
 zB:gG K "_law_tie" "_law_tie" jF a.lQ a.o9
 Ga:mg "_law_tie"=some (.ref a.lQ)
 Gb:Binds K a.o9 ["left","points","mode"] []
 zC:gG K "_law_web" "_law_web" jG a.lR a.pe
 Gd:mg "_law_web"=some (.ref a.lR)
 Ge:Binds K a.pe ["script","most_points","most_ties"] []
 xr:gG K "_law_walk" "_law_walk" ef a.gp a.iD
 qA:mg "_law_walk"=some (.ref a.gp)
 qB:Binds K a.iD ["web","some"] []
 uM:gG K "_law_least" "_law_least" gx a.gB a.iX
 uN:mg "_law_least"=some (.ref a.gB)
 uO:Binds K a.iX ["one","more"] []
 sy:gG K "_law_worths" "_law_worths" dF a.g6 a.jt
 AR:mg "_law_worths"=some (.ref a.g6)
 AS:Binds K a.jt ["web","marks","point"] []
 sA:gG K "_law_length" "_law_length" ek a.eE a.fK
 mK:mg "_law_length"=some (.ref a.eE)
 mL:Binds K a.fK ["web","some"] []
 zD:gG K "_law_odd" "_law_odd" jH a.iE a.jN
 tU:mg "_law_odd"=some (.ref a.iE)
 tV:Binds K a.jN ["number"] []
 pX:gG K "_law_nearest" "_law_nearest" eN a.fZ a.iP
 yz:mg "_law_nearest"=some (.ref a.fZ)
 yC:Binds K a.iP ["web","marks"] []
 zE:gG K "_law_cut" "_law_cut" jI a.iF a.jO
 tW:mg "_law_cut"=some (.ref a.iF)
 tX:Binds K a.jO ["web","side"] []
 xu:gG K "_law_side" "_law_side" gn a.ko a.mG
 DM:mg "_law_side"=some (.ref a.ko)
 DN:Binds K a.mG ["web","marks"] []
 sC:gG K "_law_stands" "_law_stands" fE a.g7 a.ju
 AU:mg "_law_stands"=some (.ref a.g7)
 AV:Binds K a.ju ["web","marks","worths"] []
 zF:gG K "_law_put" "_law_put" jJ a.lS a.pA
 zG:mg "_law_put"=some (.ref a.lS)
 zH:Binds K a.pA ["row","at","s","value"] []
 uP:gG K "_law_moved" "_law_moved" gy a.iY a.kE
 Cd:mg "_law_moved"=some (.ref a.iY)
 Ce:Binds K a.kE ["value","way","length"] []
 kI:gG K "_law_side_stands" "_law_side_stands" bg a.bB a.eW
 sD:mg "_law_side_stands"=some (.ref a.bB)
 sE:Binds K a.eW ["web","marks","side"] []
 kJ:gG K "_law_ring_stands" "_law_ring_stands" bH a.dG a.eX
 sF:mg "_law_ring_stands"=some (.ref a.dG)
 sG:Binds K a.eX ["web","marks","ring","worths"] []
 ji:gG K "_law_answer_stands" "_law_answer_stands" cf a.cQ a.dW
 pJ:mg "_law_answer_stands"=some (.ref a.cQ)
 pK:Binds K a.dW ["web","marks","answer"] []
 uQ:gG K "_law_kinds" "_law_kinds" fj a.kF a.oj
 Cf:mg "_law_kinds"=some (.ref a.kF)
 Cg:Binds K a.oj ["e"] []
 i4:gG K "_law_ring_otherwise" "_law_ring_otherwise" bE a.cJ a.dH
 i5:mg "_law_ring_otherwise"=some (.ref a.cJ)
 i6:Binds K a.dH ["web","marks","answer","left"] []
 i7:gG K "_law_side_otherwise" "_law_side_otherwise" br a.cK a.dI
 i8:mg "_law_side_otherwise"=some (.ref a.cK)
 i9:Binds K a.dI ["web","side","left"] []
 uR:gG K "_law_first" "_law_first" cV a.iZ a.kG
 Ci:mg "_law_first"=some (.ref a.iZ)
 Cj:Binds K a.kG ["web","marks","left"] []
 uS:gG K "_law_asked" "_law_asked" gz a.i3 a.kH
 uT:mg "_law_asked"=some (.ref a.i3)
 uU:Binds K a.kH ["web","marks","answer"] []
 pY:gG K "_law_refused" "_law_refused" eO a.gc a.iQ
 pZ:mg "_law_refused"=some (.ref a.gc)
 p5:Binds K a.iQ ["web","marks","answer"] []
 O1:gG K "law" "law" pP a.Iu a.Iv
 aaL:mg "law"=some (.ref a.Iu)
 aaM:Binds K a.Iv ["script"] []
 AW:mg "ValueError"=none
 Ln:mg "abs"=none
 O2:mg "all"=none
 MY:mg "bool"=none
 uV:mg "enumerate"=none
 O3:mg "int"=none
 bC:mg "isinstance"=none
 cW:mg "len"=none
 xw:mg "list"=none
 O4:mg "max"=none
 O5:mg "min"=none
 bq:mg "range"=none
 DO:mg "reversed"=none
 Lp:mg "set"=none
 Ck:mg "sorted"=none
 IG:mg "sum"=none
 pB:mg "tuple"=none
 Cm:mg "RingError"=some (.ref a.uJ)
 II:mg "BadWeb"=some (.ref a.wY)
 IJ:mg "BadSet"=some (.ref a.aJ)
 DP:mg "BadPoint"=some (.ref a.qx)
 Gf:mg "NotRing"=some (.ref a.tI)
 Gg:mg "NoChord"=some (.ref a.tJ)
 IK:mg "NoBase"=some (.ref a.wZ)
 IL:mg "NoSuch"=some (.ref a.w4)
 Gh:mg "TooMany"=some (.ref a.tK)
 IM:mg "BadRow"=some (.ref a.w5)
 IP:mg "NoDeed"=some (.ref a.w6)
 Gi:mg "NotEven"=some (.ref a.tL)
 IQ:mg "NoText"=some (.ref a.xg)
 IS:∀ h:Heap,K.In h->h.Ns mainGlobals mg->PyProof.Rows.OwnCls "BadSet" a.aJ [.type "ValueError",.type "Exception",.type "BaseException",.type "object"] "ValueError.__new__" mg h
 IT:vN K a.aJ
 IU:PySem.W.exmOne K (.ref a.aJ) (.ref a.uJ)=some true
 Gj:PySem.W.kitOne K (.ref a.aJ) (.type "ValueError")=some true
 q_BadSet_BadWeb:PySem.W.kitOne K (.ref a.aJ) (.ref a.wY)=some false
 q_BadSet_BadSet:PySem.W.kitOne K (.ref a.aJ) (.ref a.aJ)=some true
 q_BadSet_BadPoint:PySem.W.kitOne K (.ref a.aJ) (.ref a.qx)=some false
 q_BadSet_NotRing:PySem.W.kitOne K (.ref a.aJ) (.ref a.tI)=some false
 q_BadSet_NoChord:PySem.W.kitOne K (.ref a.aJ) (.ref a.tJ)=some false
 q_BadSet_NoBase:PySem.W.kitOne K (.ref a.aJ) (.ref a.wZ)=some false
 q_BadSet_NoSuch:PySem.W.kitOne K (.ref a.aJ) (.ref a.w4)=some false
 q_BadSet_TooMany:PySem.W.kitOne K (.ref a.aJ) (.ref a.tK)=some false
 q_BadSet_BadRow:PySem.W.kitOne K (.ref a.aJ) (.ref a.w5)=some false
 q_BadSet_NoDeed:PySem.W.kitOne K (.ref a.aJ) (.ref a.w6)=some false
 q_BadSet_NotEven:PySem.W.kitOne K (.ref a.aJ) (.ref a.tL)=some false
 q_BadSet_NoText:PySem.W.kitOne K (.ref a.aJ) (.ref a.xg)=some false
section
variable {K:bI}{mg:iI}{a:tH}
theorem Txt.zI(T:Txt K mg a):PySem.W.keepIn K (.ref a.jK)=true:=T.zo.kp
theorem Txt.tY(T:Txt K mg a):PySem.W.keepIn K (.ref a.iA)=true:=T.zu.kp
theorem Txt.IV(T:Txt K mg a):PySem.W.keepIn K (.ref a.nX)=true:=T.B4.kp
theorem Txt.DQ(T:Txt K mg a):PySem.W.keepIn K (.ref a.ki)=true:=T.xh.kp
theorem Txt.Cn(T:Txt K mg a):PySem.W.keepIn K (.ref a.lN)=true:=T.B5.kp
theorem Txt.oE(T:Txt K mg a):PySem.W.keepIn K (.ref a.fk)=true:=T.uK.kp
theorem Txt.mO(T:Txt K mg a):PySem.W.keepIn K (.ref a.eB)=true:=T.rZ.kp
theorem Txt.Co(T:Txt K mg a):PySem.W.keepIn K (.ref a.iW)=true:=T.uL.kp
theorem Txt.AX(T:Txt K mg a):PySem.W.keepIn K (.ref a.gU)=true:=T.r6.kp
theorem Txt.tZ(T:Txt K mg a):PySem.W.keepIn K (.ref a.dZ)=true:=T.lT.kp
theorem Txt.IW(T:Txt K mg a):PySem.W.keepIn K (.ref a.nZ)=true:=T.Ca.kp
theorem Txt.Gk(T:Txt K mg a):PySem.W.keepIn K (.ref a.lO)=true:=T.zw.kp
theorem Txt.Gm(T:Txt K mg a):PySem.W.keepIn K (.ref a.lP)=true:=T.zx.kp
theorem Txt.t8(T:Txt K mg a):PySem.W.keepIn K (.ref a.d7)=true:=T.lU.kp
theorem Txt.IX(T:Txt K mg a):PySem.W.keepIn K (.ref a.n5)=true:=T.Cb.kp
theorem Txt.yD(T:Txt K mg a):PySem.W.keepIn K (.ref a.fV)=true:=T.pQ.kp
theorem Txt.zJ(T:Txt K mg a):PySem.W.keepIn K (.ref a.iB)=true:=T.tT.kp
theorem Txt.IY(T:Txt K mg a):PySem.W.keepIn K (.ref a.n8)=true:=T.Cc.kp
theorem Txt.AY(T:Txt K mg a):PySem.W.keepIn K (.ref a.gV)=true:=T.r9.kp
theorem Txt.p7(T:Txt K mg a):PySem.W.keepIn K (.ref a.fW)=true:=T.pR.kp
theorem Txt.AZ(T:Txt K mg a):PySem.W.keepIn K (.ref a.gW)=true:=T.se.kp
theorem Txt.xx(T:Txt K mg a):PySem.W.keepIn K (.ref a.fm)=true:=T.oz.kp
theorem Txt.xy(T:Txt K mg a):PySem.W.keepIn K (.ref a.fu)=true:=T.oB.kp
theorem Txt.yE(T:Txt K mg a):PySem.W.keepIn K (.ref a.fX)=true:=T.pV.kp
theorem Txt.sH(T:Txt K mg a):PySem.W.keepIn K (.ref a.fJ)=true:=T.sj.kp
theorem Txt.kY(T:Txt K mg a):PySem.W.keepIn K (.ref a.eR)=true:=T.pW.kp
theorem Txt.qC(T:Txt K mg a):PySem.W.keepIn K (.ref a.iC)=true:=T.xq.kp
theorem Txt.Gn(T:Txt K mg a):PySem.W.keepIn K (.ref a.lQ)=true:=T.zB.kp
theorem Txt.Gp(T:Txt K mg a):PySem.W.keepIn K (.ref a.lR)=true:=T.zC.kp
theorem Txt.qD(T:Txt K mg a):PySem.W.keepIn K (.ref a.gp)=true:=T.xr.kp
theorem Txt.uW(T:Txt K mg a):PySem.W.keepIn K (.ref a.gB)=true:=T.uM.kp
theorem Txt.A2(T:Txt K mg a):PySem.W.keepIn K (.ref a.g6)=true:=T.sy.kp
theorem Txt.mP(T:Txt K mg a):PySem.W.keepIn K (.ref a.eE)=true:=T.sA.kp
theorem Txt.uc(T:Txt K mg a):PySem.W.keepIn K (.ref a.iE)=true:=T.zD.kp
theorem Txt.yF(T:Txt K mg a):PySem.W.keepIn K (.ref a.fZ)=true:=T.pX.kp
theorem Txt.ud(T:Txt K mg a):PySem.W.keepIn K (.ref a.iF)=true:=T.zE.kp
theorem Txt.DR(T:Txt K mg a):PySem.W.keepIn K (.ref a.ko)=true:=T.xu.kp
theorem Txt.A3(T:Txt K mg a):PySem.W.keepIn K (.ref a.g7)=true:=T.sC.kp
theorem Txt.zK(T:Txt K mg a):PySem.W.keepIn K (.ref a.lS)=true:=T.zF.kp
theorem Txt.Cp(T:Txt K mg a):PySem.W.keepIn K (.ref a.iY)=true:=T.uP.kp
theorem Txt.sI(T:Txt K mg a):PySem.W.keepIn K (.ref a.bB)=true:=T.kI.kp
theorem Txt.sJ(T:Txt K mg a):PySem.W.keepIn K (.ref a.dG)=true:=T.kJ.kp
theorem Txt.pL(T:Txt K mg a):PySem.W.keepIn K (.ref a.cQ)=true:=T.ji.kp
theorem Txt.Cq(T:Txt K mg a):PySem.W.keepIn K (.ref a.kF)=true:=T.uQ.kp
theorem Txt.ja(T:Txt K mg a):PySem.W.keepIn K (.ref a.cJ)=true:=T.i4.kp
theorem Txt.jb(T:Txt K mg a):PySem.W.keepIn K (.ref a.cK)=true:=T.i7.kp
theorem Txt.Cr(T:Txt K mg a):PySem.W.keepIn K (.ref a.iZ)=true:=T.uR.kp
theorem Txt.uX(T:Txt K mg a):PySem.W.keepIn K (.ref a.i3)=true:=T.uS.kp
theorem Txt.p8(T:Txt K mg a):PySem.W.keepIn K (.ref a.gc)=true:=T.pY.kp
end
def qF:Sp:=fun vs H Q _=>∃(S:Int) (k:Nat),vs=[.int S,.int (k:Int)]/\Q (.bl (bit S k)) H
def mQ:Sp:=fun vs H Q _=>∃ m:Nat,vs=[.int (m:Int)]/\Builtin.Int.intBits (m:Int)<=1000/\∀ D H',H D=none->aq H H'->H' D=some (.lst (bf (aS (m:Int))))->Q (.ref D) H'
def uY:Sp:=fun vs H Q _=>∃ w p ts,vs=[.ref w]/\bU H w p ts/\Hw p ts/\Q (.int (2^ts.length-1)) H
def ue:Sp:=fun vs H Q _=>∃ w p ts S,vs=[.ref w,.int S]/\bU H w p ts/\Hw p ts/\Q (.bl (decide (0<=S/\S<2^ts.length))) H
def sL(ts:List dU)(S:Int)(bad:Prop)(R:Nat->Prop):Prop:=(∃ m:Nat,S=(m:Int)/\m<2^ts.length/\R m)\/((S<0\/2^ts.length<=S)/\bad)
def jv(C:Addr):Sp:=fun vs H Q E=>∃ w p ts S,vs=[.ref w,.int S]/\bU H w p ts/\Hw p ts/\sL ts S (E (.ref C) none H) fun _=>Q .eS H
def iR(C:Addr):Sp:=fun vs H Q E=>∃ w p ts S,vs=[.ref w,.int S]/\bU H w p ts/\Hw p ts/\sL ts S (E (.ref C) none H) fun m =>
 ∀ D ys H',H D=none->aq H H'->H' D=some (.lst ys)->Paired (TupAt H') ys ((aS (m:Int)).map (bO ts))->Q (.ref D) H'
def qa(C:Addr):Sp:=fun vs H Q E=>∃ w p ts S,vs=[.ref w,.int S]/\bU H w p ts/\Hw p ts/\sL ts S (∀ H',aq H H'->E (.ref C) none H') fun m =>
 ∀ D H',aq H H'->H' D=some (.lst (bf (vP p ts (m:Int))))->Q (.ref D) H'
def xA(C:Addr):Sp:=fun vs H Q E=>∃ w p ts S,vs=[.ref w,.int S]/\bU H w p ts/\Hw p ts/\sL ts S (∀ H',aq H H'->E (.ref C) none H') fun m=>∀ H',aq H H'->Q (.bl (decide (vP p ts (m:Int)=[]))) H'
section
variable {P:Program}{w:World}{K:bI}{mg:iI}{base:Heap}{a:tH}
theorem jP(T:Txt K mg a):aP P w K mg base cF 1 a.jK a.lM ["tie_set","tie"] qF:=by
 refine T.zo.ok DA (fun vs H Q E h=>?_) (fun cdv A outer s H vs Q E hr h=>?_)
 ·obtain⟨S,k,rfl,_⟩:=h;rfl
 ·obtain⟨S,k,rfl,q⟩:=h;refine⟨_,(au (aE (bN cz (az kP (az qh (pv 0) (pv 1)) ae) ae (aC _)))),?_⟩;refine(ao rfl (ao rfl (bu ⟨(by lia),bu ⟨rfl,?_⟩⟩)))
  rw[Int.toNat_natCast,CZ];exact q
theorem fL(T:Txt K mg a):aP P w K mg base cF 2 a.iA a.jL ["tie_set"] mQ:=by
 have jP:aP P w K mg base cF 1 a.jK a.lM ["tie_set","tie"] qF:=jP T;refine T.zu.ok DB (fun vs H Q E h=>?_) (fun cdv A outer s H vs Q E hr h=>?_)
 ·obtain⟨m,rfl,_⟩:=h;rfl
 ·obtain⟨m,rfl,hm,k⟩:=h;refine⟨_,(au (aE (dB (own:=["tie"]) (fq:=["tie_set"]) (js:=[0]) (aN (ah iu) ["tie_set"]) rfl (aV (by rfl) T.bq (aa (L7 PySem.F.plainAttrs_int PyProof.Rows.slot_int_bit_length PyProof.Rows.type_int_bit_length JU (pv 0)) af)) (fun _ _ _ _=>(aA (i:=0) (show(["tie","tie_set"]:List Str).Nodup by decide +kernel) rfl (Or.inl rfl))) (fun _ _ _ _=>(di (gk (aB jP (hr.mono (by decide)) (by rfl) T.zp T.zI T.zq .nil aX (aa (pv 1) (aa (pv 0) af)))))) (fun _ _ _ _=>(pv 0))))),?_⟩
  refine(ao rfl ⟨rfl,ao rfl ⟨rfl,ao rfl ⟨(by lia),(by lia),fun D hD=>bY (lo:=0) (m:=Builtin.Int.intBits (m:Int)) (lC (bit (m:Int)) H D) (.start hD) (fun i acc H2 _ p=>p.len) (dl (Nat.ble_eq.mpr hm)) ?_ ?_⟩⟩⟩)
  ·intro i acc H2 hi p;rw[Int.zero_add];refine⟨rfl,ao rfl (ao rfl ⟨(m:Int),i,rfl,ao rfl (?_)⟩)⟩;cases hb:bit (m:Int) i with
   | true=>exact(ao rfl (p.yes hD (aq.refl _) hb))
   | false=>exact p.no (aq.refl _) hb
  ·intro acc H2 p;exact k D H2 hD p.1 (by rw[p.2.1,p.2.2];rfl)
theorem qG(T:Txt K mg a):aP P w K mg base cF 1 a.ki a.mF ["web"] uY:=by
 refine T.xh.ok BS (fun vs H Q E h=>?_) (fun cdv A outer s H vs Q E hr h=>?_)
 ·obtain⟨w,p,ts,rfl,_⟩:=h;rfl
 ·obtain⟨wb,p,ts,rfl,hw,W,q⟩:=h;refine⟨_,(au (aE (az jS (az je ae (aF (fS K) (by rfl) T.cW PySem.boot_len (aa (ay (bT K) (pv 0) ae (fun _ _=>rfl)) af))) ae))),?_⟩
  obtain⟨b,xs,h1,h2,h3⟩:=hw.ex;have hl:=h3.length;have wl:=W.len;refine(ao rfl (bM (aT.of h1) (ai (j:=1) rfl) (m6 rfl (.inr (aT.of h2)) (bu ⟨⟨by lia,by lia,by decide⟩,bu (?_)⟩))))
  rw[Int.toNat_natCast,hl,Int.one_mul];exact q
theorem lV(T:Txt K mg a):aP P w K mg base cF 2 a.lN a.nY ["web","number"] ue:=by
 have qG:aP P w K mg base cF 1 a.ki a.mF ["web"] uY:=qG T;refine T.B5.ok FN (fun vs H Q E h=>?_) (fun cdv A outer s H vs Q E hr h=>?_)
 ·obtain⟨w,p,ts,S,rfl,_⟩:=h;rfl
 ·obtain⟨wb,p,ts,S,rfl,hw,W,q⟩:=h;refine⟨_,(au (aE (lY (bN vG (pv 1) ae (aC _)) (kO (bN Ea (pv 1) (aB qG (hr.mono (by decide)) (by rfl) T.DK T.DQ T.DL .nil aX (aa (pv 0) af)) (aC _)))))),?_⟩
  refine(ao rfl (bu (ao rfl (jj (fun hlt=>?_) (fun hlt=>?_)))))
  ·have hlt:0<=S:=mX hlt;refine(ao rfl (ao rfl ⟨wb,p,ts,rfl,hw,W,_,_,rfl,rfl,?_⟩));have e:decide (S<=2^ts.length-1)=decide (0<=S/\S<2^ts.length):=decide_eq_decide.mpr ⟨fun z=>⟨hlt,by lia⟩,fun z=>by lia⟩
   rw[<-e]at q;exact q
  ·have hlt : ¬ 0<=S:=fun z=>hlt (e7 z)
   rw[h8 (fun z=>hlt z.1)]at q
   exact q
theorem dJ(T:Txt K mg a):aP P w K mg base (nC P w) 3 a.fk a.gA ["web","tie_set"] (jv a.aJ):=by
 have lV:aP P w K mg base cF 2 a.lN a.nY ["web","number"] ue:=lV T;refine T.uK.JW Az (fun vs H Q E h=>?_) (fun cdv A outer s H vs Q E hr h=>?_)
 ·obtain⟨w,p,ts,S,rfl,_⟩:=h;rfl
 ·obtain⟨wb,p,ts,S,rfl,hw,W,q⟩:=h;refine⟨_,(au (bx (kN (gk (aB lV (hr.mono (by decide)) (by rfl) T.B6 T.Cn T.B7 .nil aX (aa (pv 0) (aa (pv 1) af))))) (au (Hl kR.thr rfl (by rfl) T.IS PySem.F.excBase_ValueError (aa ie af))) aR)),?_⟩
  refine AA ?_;intro cj;refine(ao rfl (ao rfl ⟨wb,p,ts,S,rfl,hw,W,?_⟩));have h2:((2:Int)^ts.length)=((2^ts.length:Nat):Int):=by simp
  rcases q with⟨m,rfl,hm,q⟩|⟨hS,q⟩
  ·rw[e7 ⟨by lia,by lia⟩]
   exact(ao rfl (dS q))
  ·rw[h8 (by lia)]
   exact(ao rfl (dm ⟨dl rfl,q⟩))
theorem cS(T:Txt K mg a):aP P w K mg base (nC P w) 4 a.eB a.fF ["web","tie_set"] (iR a.aJ):=by
 have dJ:aP P w K mg base (nC P w) 3 a.fk a.gA ["web","tie_set"] (jv a.aJ):=dJ T;have fL:aP P w K mg base cF 2 a.iA a.jL ["tie_set"] mQ:=fL T;refine T.rZ.JW yi (fun vs H Q E h=>?_) (fun cdv A outer s H vs Q E hr h=>?_)
 ·obtain⟨w,p,ts,S,rfl,_⟩:=h;rfl
 ·obtain⟨wb,p,ts,S,rfl,hw,W,q⟩:=h;refine⟨_,(ak (iJ (aB dJ (hr.mono (by decide)) (by rfl) T.oq T.oE T.ou .nil kR.passes (aa (pv 0) (aa (pv 1) af))))
   (au (aE (dB (own:=["tie"]) (fq:=["web"]) (js:=[0]) (aN (ah d9) ["web","tie_set"]) rfl (yb K (aB fL (hr.mono (by decide)) (by rfl) T.tM T.tY T.tO .nil aX (aa (pv 1) af))) (fun _ _ _ _=>(aA (i:=0) (show(["tie","web"]:List Str).Nodup by decide +kernel) rfl (Or.inl rfl))) (fun _ _ _ _=>gI) (fun _ _ _ _=>(ay (bT K) (ay (bT K) (pv 1) ae (fun _ _=>rfl)) (pv 0) (fun _ _=>rfl))))))),?_⟩
  refine yj ?_;intro cj;refine(ao rfl (ao rfl ⟨wb,p,ts,S,rfl,hw,W,?_⟩));rcases q with⟨m,rfl,hm,q⟩|⟨hS,q⟩
  ·refine .inl ⟨m,rfl,hm,?_⟩;have wl:=W.len;have hb:Builtin.Int.intBits (m:Int)<=ts.length:=bits_le hm;refine(ao rfl ⟨m,rfl,by lia,fun L H1 _ s1 hL=>⟨L,rfl,⟨_,aZ.of hL⟩,fun D hD=>?_⟩⟩)
   obtain⟨b,xs,h1,h2,h3⟩:=(hw.same s1).ex;have qJ:=h3.length;refine dw (xs:=bf (aS (m:Int))) (fun i acc H2=>aq H1 H2/\H2 D=some (.lst acc)/\Paired (TupAt H2) acc (((aS (m:Int)).take i).map (bO ts))/\acc.length=i) ⟨aq.new hD,aj,.nil,rfl⟩ ?_ ?_ ?_ ?_
   ·rintro i acc H2 _ ⟨s2,hd,pr,hac⟩;exact⟨aZ.of (s2 _ _ hL),hd,Nat.le_of_eq hac⟩
   ·rw[bw];refine dl (Nat.ble_eq.mpr (Nat.le_trans (List.length_filter_le _ _) ?_));rw[List.length_range]
    lia
   ·rintro i x acc H2 hx ⟨s2,hd,pr,hac⟩;obtain⟨k,hk,rfl⟩:=jw hx;have nH:k<ts.length:=qT hm (nB hk);have hkx:k<xs.length:=by lia
    obtain⟨t,ht,c,hc,hct⟩:=Paired.vL h3 (i:=k) (x:=xs[k]) (by simp[hkx])
    have Dp:bO ts k=t:=by
     unfold bO;rw[List.getD_eq_getElem?_getD,ht];rfl
    refine⟨rfl,ao rfl (bM (aT.of (s2 _ _ h1)) (ai (j:=1) rfl) (ao rfl (bM (v:=xs[k]) (aT.of (s2 _ _ h2)) (ai (j:=k) (by simp[hkx])) (?_))))⟩
    rw[hc];refine⟨hd,s2.put hD,aj,?_,by rw[List.length_append,List.length_singleton,hac]⟩
    rw[List.take_add_one,hk,List.map_append];refine Paired.snoc (Paired.imp' (fun _ _ z=>z.tups (iU.put hd)) pr) ?_
    rw[Dp];exact⟨c,rfl,iU.put hd _ _ (s2 _ _ hct)⟩
   ·rintro acc H2 ⟨s2,hd,pr,hac⟩;rw[bw,List.take_length]at pr;exact q D acc H2 (s1.free hD) (s1.trans s2) hd pr
  ·exact .inr ⟨hS,q⟩
theorem mR(T:Txt K mg a):aP P w K mg base (nC P w) 5 a.gU a.jo ["web","tie_set"] (qa a.aJ):=by
 have cS:aP P w K mg base (nC P w) 4 a.eB a.fF ["web","tie_set"] (iR a.aJ):=cS T;refine T.r6.JW fU (fun vs H Q E h=>?_) (fun cdv A outer s H vs Q E hr h=>?_)
 ·obtain⟨w,p,ts,S,rfl,_⟩:=h;rfl
 ·obtain⟨wb,p,ts,S,rfl,hw,W,q⟩:=h;refine⟨_,(ak (aG (i:=2) fU.nd rfl (Or.inr rfl) (az GU (bQ (aa ae af)) (ay (bT K) (pv 0) ae (fun _ _=>rfl))))
   (ak (vg rfl (yb K (aB cS (hr.mono (by decide)) (by rfl) T.mH T.mO T.mJ .nil kR.passes (aa (pv 0) (aa (pv 1) af)))) (Gy K (n:=3) rfl (bh (aA (i:=3) fU.nd rfl (Or.inl rfl)) (bh (aA (i:=4) fU.nd rfl (Or.inl rfl)) (bh (aA (i:=5) fU.nd rfl (Or.inl rfl)) gf))))
   (ak (DZ (pv 2) (pv 3) (getL K) ae D6 set_list)
   (au (DZ (pv 2) (pv 4) (getL K) ae D6 set_list))))
   (au (aE (dB (own:=["point"]) (fq:=["ends"]) (js:=[2]) (aN (ah ee) ["web","tie_set","ends","one","other","length"]) rfl (aV (by rfl) T.bq (aa (ay (bT K) (pv 0) ae (fun _ _=>rfl)) af)) (fun _ _ _ _=>(aA (i:=0) (show(["point","ends"]:List Str).Nodup by decide +kernel) rfl (Or.inl rfl))) (fun _ _ _ _=>(di (aD cz (az bz (ay (m5 K) (pv 1) (pv 0) (fun _ _=>rfl)) ae) ae (aC _)))) (fun _ _ _ _=>(pv 0))))))),?_⟩
  refine yk ?_;intro cj cM eY gD;obtain⟨b,xs,h1,h2,h3⟩:=id hw.ex;have wp:=W.Q0;refine⟨dl rfl,fun l0 CO=>?_⟩
  have s0:aq H (upd H l0 (.lst [.int 0])):=aq.new CO;refine(ao rfl (bM (aT.of (s0 _ _ h1)) (ai (j:=0) rfl) ⟨l0,(p:Int),ao rfl ⟨rfl,aj,by lia,by lia,(by rw[Int.toNat_natCast];show 1*p<=sizeLine;exact dl (Nat.ble_eq.mpr (by lia))),fun e he=>?_⟩⟩))
  have s1:=s0.trans (aq.new (o:=.lst (List.replicate (p:Int).toNat [V.int 0]).flatten) he);have Q9:upd (upd H l0 (.lst [.int 0])) e (.lst (List.replicate (p:Int).toNat [V.int 0]).flatten) e=some (.lst (nI (List.replicate p 0))):=by
   rw[aj,Int.toNat_natCast,Hx]
  generalize upd (upd H l0 (.lst [.int 0])) e (.lst (List.replicate (p:Int).toNat [V.int 0]).flatten)=H1 at s1 Q9;have heH:H e=none:=s0.free he;refine(ao rfl (ao rfl ⟨wb,p,ts,S,rfl,hw.same s1,W,?_⟩));rcases q with⟨m,rfl,hm,q⟩|⟨hS,q⟩
  ·refine .inl ⟨m,rfl,hm,fun L ys H2 hLn s2 hL pr=>⟨L,rfl,⟨_,aZ.of hL⟩,?_⟩⟩
   have s12:=s1.trans s2;have heL:e≠L:=cC Q9 hLn;have MZ:ys.length<=24:=by
    rw[pr.length,List.length_map];have hb:Builtin.Int.intBits (m:Int)<=ts.length:=bits_le hm;have wl:=W.len;have:=List.length_filter_le (bit (m:Int)) (List.range (Builtin.Int.intBits (m:Int)));rw[List.length_range]at this;exact Nat.le_trans this (by lia)
   refine ir (K:=K) (a:=L) (xs:=ys) (fun i σ H3=>∃ v1 v2 v3,σ=[some (.ref wb),some (.int (m:Int)),some (.ref e),v1,v2,v3]/\(∀ x o,H2 x=some o->x≠e->H3 x=some o)/\H3 e=some (.lst (nI ((((aS (m:Int)).map (bO ts)).take i).foldl stepT (List.replicate p 0)))))
    ⟨none,none,none,rfl,fun _ _ z _=>z,s2 _ _ Q9⟩ (fun i σ H3 _ ⟨_,_,_,_,z,_⟩=>aZ.of (z _ _ hL (Ne.symm heL))) ?_ ?_
   ·rintro i y D' σ H3 hi ⟨v1,v2,v3,rfl,z3,O6⟩;obtain⟨t,ht,c,rfl,hc⟩:=Paired.vL pr hi;have hce:c≠e:=K0 hc (s2 _ _ Q9) (by intro z;cases z)
    have hc3:=z3 _ _ hc hce;have HU:t∈ts:=by
     obtain⟨k,hk,rfl⟩:=List.mem_map.mp (nB ht);unfold bO;have nH:=qT hm hk;rw[List.getD_eq_getElem?_getD];simp[nH]
    obtain⟨a0,a1,b0,b1⟩:=W.QZ.ends t HU;obtain⟨t1,t2,t3⟩:=t;dsimp only at a0 a1 b0 b1;obtain⟨j1,rfl⟩:=Int.eq_ofNat_of_zero_le a0;obtain⟨j2,rfl⟩:=Int.eq_ofNat_of_zero_le b0;generalize hE:(((aS (m:Int)).map (bO ts)).take i).foldl stepT (List.replicate p 0)=EE at O6;have hEl:EE.length=p:=by rw[<-hE,sY,List.length_replicate]
    have hj1:j1<EE.length:=by lia
    have O7:j2<(bump EE (j1:Int)).length:=by rw[lB];lia
    refine⟨c,_,rfl,aT.of hc3,rfl,_,_,rfl,_,_,rfl,_,_,rfl,rfl,?_⟩;refine(ao rfl (ao rfl ⟨e,_,j1,_,rfl,rfl,aZ.of O6,sZ hj1,_,_,rfl,rfl,e,_,_,j1,rfl,rfl,O6,kB (by rw[nI,List.length_map];exact hj1),?_⟩))
    rw[vQ];refine(ao rfl (ao rfl ⟨e,_,j2,_,rfl,rfl,aZ.of aj,sZ O7,_,_,rfl,rfl,e,_,_,j2,rfl,rfl,aj,kB (by rw[nI,List.length_map];exact O7),?_⟩))
    rw[vQ];refine⟨_,_,_,rfl,fun x o z hx=>by rw[aQ hx,aQ hx];exact z3 x o z hx,?_⟩
    rw[aj,List.take_add_one,ht,List.foldl_append,hE];rfl
   ·rintro σ H3 ⟨v1,v2,v3,rfl,z3,O6⟩;have hwe:wb≠e:=cC h1 heH;have Bc:aq H H3:=fun x o z=>z3 x o (s12 x o z) (cC z heH)
    have hE:H3 e=some (.lst (nI (kT p ts (m:Int)))):=by
     rw[O6,List.take_of_length_le (by rw[<-pr.length];exact Nat.le_refl _),yU hm]
    have hEl:(kT p ts (m:Int)).length=p:=by rw[yU hm,sY,List.length_replicate]
    refine(ao rfl (bM (aT.of (Bc _ _ h1)) (ai (j:=0) rfl) (ao rfl ⟨(by lia),(by lia),fun D hD=>bY (lo:=0) (m:=p) (lC (fun i=>decide ((kT p ts (m:Int)).getD i 0%2=1)) H3 D) (.start hD) (fun i acc H4 _ p=>p.len) (dl (Nat.ble_eq.mpr (by lia))) ?_ ?_⟩)))
    ·intro i acc H4 hi pk;rw[Int.zero_add];refine⟨rfl,ao rfl (ao rfl (nq (aZ.of (pk.1 _ _ hE)) (ai (j:=i) (sZ (by rw[hEl];exact hi))) (bu ⟨(jW rfl),rfl,ao rfl (?_)⟩)))⟩
     rw[J4];cases hb:decide ((kT p ts (m:Int)).getD i 0%2=1) with
     | true=>exact(ao rfl (pk.yes hD (aq.refl _) hb))
     | false=>exact pk.no (aq.refl _) hb
    ·intro acc H4 pk;exact q D H4 (Bc.trans pk.1) (by rw[pk.2.1,pk.2.2];rfl)
  ·exact .inr ⟨hS,q _ s1⟩
theorem uf(T:Txt K mg a):aP P w K mg base (nC P w) 6 a.lO a.o7 ["web","tie_set"] (xA a.aJ):=by
 have mR:aP P w K mg base (nC P w) 5 a.gU a.jo ["web","tie_set"] (qa a.aJ):=mR T;refine T.zw.JW DC (fun vs H Q E h=>?_) (fun cdv A outer s H vs Q E hr h=>?_)
 ·obtain⟨w,p,ts,S,rfl,_⟩:=h;rfl
 ·obtain⟨wb,p,ts,S,rfl,hw,W,q⟩:=h;refine⟨_,(au (aE (bN (CQ K hr.units) (aB mR (hr.mono (by decide)) (by rfl) T.AK T.AX T.AL .nil kR.passes (aa (pv 0) (aa (pv 1) af))) (bQ af) (aC _)))),?_⟩
  refine(ao rfl (ao rfl ⟨wb,p,ts,S,rfl,hw,W,?_⟩));rcases q with⟨m,rfl,hm,q⟩|⟨hS,q⟩
  ·refine .inl ⟨m,rfl,hm,fun D H1 s1 hD=>⟨dl rfl,fun l hl=>?_⟩⟩
   have s2:aq H1 (upd H1 l (.lst [])):=aq.new hl;refine⟨_,_,.lst (aZ.of (s2 _ _ hD)) (nJ _),.lst (aZ.of aj) .nil,kC _,rfl,?_⟩;rw[Er];exact q _ (s1.trans s2)
  ·exact .inr ⟨hS,q⟩
end
def Cs:Sp:=fun vs H Q _=>∃(l:Addr) (L:Nat->Nat) (p u v:Nat),vs=[.ref l,.int (u:Int),.int (v:Int)]/\H l=some (.lst (qp L p))/\p<=10/\u<p/\v<p/\
 ∀ D H',H D=none->aq H H'->H' D=some (.lst (qp (RM.join L u v) p))->Q (.ref D) H'
def zL(C:Addr):Sp:=fun vs H Q E=>∃ w p ts,∃ g:aL p ts,∃ S,vs=[.ref w,.int S]/\bU H w p ts/\sL ts S (∀ H',aq H H'->E (.ref C) none H') fun m =>
 ∀ D ys H',H D=none->aq H H'->H' D=some (.lst ys)->Paired (Le D H H') ys ((iL (cA p ts g m) p).map (pieceOf (cA p ts g m) p))->Q (.ref D) H'
section
variable {P:Program}{w:World}{K:bI}{mg:iI}{base:Heap}{a:tH}
theorem iG(T:Txt K mg a):aP P w K mg base cF 1 a.dZ a.fG ["leasts","one","other"] Cs:=by
 refine T.lT.ok gO (fun vs H Q E h=>?_) (fun cdv A outer s H vs Q E hr h=>?_)
 ·obtain⟨l,L,p,u,v,rfl,_⟩:=h;rfl
 ·obtain⟨l,L,p,u,v,rfl,hl,hp,hu,hv,q⟩:=h;refine⟨_,(ak (aG (i:=3) gO.nd rfl (Or.inr rfl) (aF (EX rfl) (by rfl) T.O5 PyProof.Rows.boot_min (aa (ay (m5 K) (pv 0) (pv 1) (fun _ _=>rfl)) (aa (ay (m5 K) (pv 0) (pv 2) (fun _ _=>rfl)) af))))
   (ak (aG (i:=4) gO.nd rfl (Or.inr rfl) (aF (EW rfl) (by rfl) T.O4 PyProof.Rows.boot_max (aa (ay (m5 K) (pv 0) (pv 1) (fun _ _=>rfl)) (aa (ay (m5 K) (pv 0) (pv 2) (fun _ _=>rfl)) af))))
   (au (aE (dB (own:=["least"]) (fq:=["low","high"]) (js:=[3,4]) (aN (ah cE) ["leasts","one","other","low","high"]) rfl (yb K (pv 0)) (fun _ _ _ _=>(aA (i:=0) (show(["least","low","high"]:List Str).Nodup by decide +kernel) rfl (Or.inl rfl))) (fun _ _ _ _=>gI) (fun _ _ _ _=>(Bf (aD cz (pv 0) (pv 2) (aC _)) (pv 1) (pv 0)))))))),?_⟩
  refine rP ?_;intro cj cM;refine(ao rfl (ao rfl (nq (aZ.of hl) (ai (j:=u) (j7 hu)) (ao rfl (ao rfl (nq (aZ.of hl) (ai (j:=v) (j7 hv)) ⟨_,_,rfl,?_⟩))))));refine(ao rfl (ao rfl (nq (aZ.of hl) (ai (j:=u) (j7 hu)) (ao rfl (ao rfl (nq (aZ.of hl) (ai (j:=v) (j7 hv)) ⟨_,_,rfl,?_⟩))))));refine(ao rfl ⟨l,rfl,⟨_,aZ.of hl⟩,fun D hD=>dw (xs:=qp L p) (BD (RM.join L u v) H D) (.start hD) (fun i acc H2 _ pd=>⟨aZ.of (pd.1 _ _ hl),pd.len⟩) (by rw[rq];exact dl (Nat.ble_eq.mpr (by lia))) ?_ ?_⟩)
  ·intro i x acc H2 hx pd;obtain⟨hi,rfl⟩:=Kd hx;refine⟨rfl,ao rfl (ao rfl ⟨rfl,ao rfl (?_)⟩)⟩;rw[Kf,mz]
   by_cases hm:L i=max (L u) (L v)
   ·rw[e7 hm];refine dm (ao rfl (pd.next hD (aq.refl _) ?_));rw[Ke];unfold RM.join;rw[if_pos hm]
   ·rw[h8 hm];refine dS (ao rfl (pd.next hD (aq.refl _) ?_));unfold RM.join;rw[if_neg hm]
  ·intro acc H2 pd;rw[rq]at pd;exact q D H2 hD pd.1 (by rw[pd.2.1,pd.2.2])
theorem xB(T:Txt K mg a):aP P w K mg base (nC P w) 5 a.nZ a.rW ["web","tie_set"] (zL a.aJ):=by
 have cS:aP P w K mg base (nC P w) 4 a.eB a.fF ["web","tie_set"] (iR a.aJ):=cS T;have iG:aP P w K mg base cF 1 a.dZ a.fG ["leasts","one","other"] Cs:=iG T;refine T.Ca.JW gw (fun vs H Q E h=>?_) (fun cdv A outer s H vs Q E hr h=>?_)
 ·obtain⟨w,p,ts,g,S,rfl,_⟩:=h;rfl
 ·obtain⟨wb,p,ts,g,S,rfl,hw,q⟩:=h;refine⟨_,(ak (aG (i:=2) gw.nd rfl (Or.inr rfl) (cD (Ld rfl) (by rfl) T.xw PyProof.Rows.boot_list (aa (cD Bu (by rfl) T.bq PyProof.Rows.boot_range (aa (ay (bT K) (pv 0) ae (fun _ _=>rfl)) af)) af)))
   (ak (vg rfl (yb K (aB cS (hr.mono (by decide)) (by rfl) T.mH T.mO T.mJ .nil kR.passes (aa (pv 0) (aa (pv 1) af)))) (Gy K (n:=3) rfl (bh (aA (i:=3) gw.nd rfl (Or.inl rfl)) (bh (aA (i:=4) gw.nd rfl (Or.inl rfl)) (bh (aA (i:=5) gw.nd rfl (Or.inl rfl)) gf))))
   (au (aG (i:=2) gw.nd rfl (Or.inr rfl) (aB iG (hr.mono (by decide)) (by rfl) T.tP T.tZ T.tQ .nil aX (aa (pv 2) (aa (pv 3) (aa (pv 4) af)))))))
   (ak (aG (i:=6) gw.nd rfl (Or.inl rfl) (bQ af))
   (ak (vg rfl (aV (by rfl) T.bq (aa (ay (bT K) (pv 0) ae (fun _ _=>rfl)) af)) (aA (i:=7) gw.nd rfl (Or.inr rfl))
   (au (bx (aD cz (ay (m5 K) (pv 2) (pv 7) (fun _ _=>rfl)) (pv 7) (aC _)) (au (iJ (Nt K (yQ PySem.F.plainAttrs_list PySem.F.slot_list_append PySem.F.type_list_append ik (pv 6) (aa (dB (own:=["point"]) (fq:=["leasts","start"]) (js:=[2,7]) (aN (ah j8) ["web","tie_set","leasts","one","other","length","found","start"]) rfl (aV (by rfl) T.bq (aa (ay (bT K) (pv 0) ae (fun _ _=>rfl)) af)) (fun _ _ _ _=>(aA (i:=0) (show(["point","leasts","start"]:List Str).Nodup by decide +kernel) rfl (Or.inl rfl))) (fun _ _ _ _=>(di (aD cz (ay (m5 K) (pv 1) (pv 0) (fun _ _=>rfl)) (pv 2) (aC _)))) (fun _ _ _ _=>(pv 0))) af))))) aR)))
   (au (aE (pv 6))))))),?_⟩
  refine FO ?_;intro cj cM eY gD lu nR nS;obtain⟨b,xs,h1,h2,h3⟩:=id hw.ex;have W:=g.Ka;have wp:=W.Q0;have wl:=W.len;refine(ao rfl (bM (aT.of h1) (ai (j:=0) rfl) (ao rfl (fun r hr=>⟨r,p,rfl,aj,by lia,fun l hl=>?_⟩))))
  have s1:aq H (upd (upd H r (.Jk 0 (p:Int))) l (.lst (CW p))):=(aq.new hr).trans (aq.new hl);have hl1:upd (upd H r (.Jk 0 (p:Int))) l (.lst (CW p)) l=some (.lst (qp (fun x=>x) p)):=aj
  generalize upd (upd H r (.Jk 0 (p:Int))) l (.lst (CW p))=H1 at s1 hl1;refine(ao rfl (ao rfl ⟨wb,p,ts,S,rfl,hw.same s1,W,?_⟩));rcases q with⟨m,rfl,hm,q⟩|⟨hS,q⟩
  ·refine .inl ⟨m,rfl,hm,fun T0 ys H2 hTn s2 hT pr=>⟨T0,rfl,⟨_,aZ.of hT⟩,?_⟩⟩
   have MZ:ys.length<=24:=by
    rw[pr.length,List.length_map];have hb:Builtin.Int.intBits (m:Int)<=ts.length:=bits_le hm;have:=List.length_filter_le (bit (m:Int)) (List.range (Builtin.Int.intBits (m:Int)));rw[List.length_range]at this;exact Nat.le_trans this (by lia)
   refine ir (K:=K) (a:=T0) (xs:=ys) (fun i σ H3=>∃ la v3 v4 v5,σ=[some (.ref wb),some (.int (m:Int)),some (.ref la),v3,v4,v5,none,none]/\aq H2 H3/\H3 la=some (.lst (qp (uz p ts g ((aS (m:Int)).take i)) p)))
    ⟨l,none,none,none,rfl,aq.refl _,s2 _ _ hl1⟩ (fun i σ H3 _ ⟨_,_,_,_,_,z,_⟩=>aZ.of (z _ _ hT)) ?_ ?_
   ·rintro i y D' σ H3 hi ⟨la,v3,v4,v5,rfl,s3,hla⟩;obtain⟨t,ht,c,rfl,hc⟩:=Paired.vL pr hi;have hc3:=s3 _ _ hc;rw[List.getElem?_map]at ht;obtain⟨k,hk,hkt⟩:=CD.mp ht;have nH:=qT hm (nB hk);have ea:=HE (g:=g) nH;have eb:=HF (g:=g) nH;rw[hkt]at ea eb;have la':=g.N.al k nH;have lb':=g.N.bl k nH;refine⟨c,_,rfl,aT.of hc3,rfl,_,_,rfl,_,_,rfl,_,_,rfl,rfl,?_⟩;refine(ao rfl (ao rfl (ao rfl ⟨la,uz p ts g ((aS (m:Int)).take i),p,g.N.a k,g.N.b k,?_,hla,wp,la',lb',fun D H4 O8 s4 hD=>?_⟩)))
    ·rw[<-ea,<-eb];rfl
    ·refine⟨D,_,_,_,rfl,s3.trans s4,?_⟩;rw[hD,List.take_add_one,hk];show _=some (HO.lst (qp (uz p ts g ((aS (m:Int)).take i++[k])) p));rw[C4]
   ·rintro σ H3 ⟨la,v3,v4,v5,rfl,s3,hla⟩;have hys:ys.length=(aS (m:Int)).length:=by rw[pr.length,List.length_map]
    rw[hys,List.take_length,C5 hm]at hla;have Bc:aq H H3:=(s1.trans s2).trans s3;refine⟨dl rfl,fun D hD=>?_⟩
    have t0:vV (cA p ts g m) p H3 D 0 (upd H3 D (.lst [])):=vV.start hD;generalize upd H3 D (.lst [])=H4 at t0;refine(ao rfl (bM (aT.of (t0.1 _ _ (Bc _ _ h1))) (ai (j:=0) rfl) (ao rfl ⟨(by lia),(by lia),?_⟩)))
    refine cP (lo:=0) (n:=(p:Int).toNat) (fun i σ H5=>∃ v7,σ=[some (.ref wb),some (.int (m:Int)),some (.ref la),v3,v4,v5,some (.ref D),v7]/\vV (cA p ts g m) p H3 D i H5) ⟨none,rfl,t0⟩ ?_ ?_
    ·rintro i D' σ H5 hi ⟨v7,rfl,t5⟩;rw[Int.toNat_natCast]at hi;rw[Int.zero_add];have O9:=t5.1 _ _ hla;refine(ao rfl (ao rfl (nq (aZ.of O9) (ai (j:=i) (j7 hi)) (ao rfl ⟨rfl,ao rfl (?_)⟩))));rw[mz]
     by_cases hr:cA p ts g m i=i
     ·rw[e7 hr];obtain⟨ys0,xC⟩:∃ ys,H5 D=some (.lst ys):=let⟨_,ys,z,_⟩:=t5;⟨ys,z⟩;refine dm (ao rfl ⟨.inl ⟨rfl,_,aZ.of xC⟩,ao rfl (bM (aT.of (t5.1 _ _ (Bc _ _ h1))) (ai (j:=0) rfl) (ao rfl ⟨(by lia),(by lia),fun B hB=>bY (lo:=0) (m:=(p:Int).toNat) (lC (fun x=>decide (cA p ts g m x=i)) H5 B) (.start hB) (fun i acc H6 _ pk=>pk.len) (dl (Nat.ble_eq.mpr (by lia))) ?_ ?_⟩))⟩)
      ·intro x acc H6 hx pk;rw[Int.toNat_natCast]at hx;rw[Int.zero_add];refine⟨rfl,ao rfl (ao rfl (nq (aZ.of (pk.1 _ _ O9)) (ai (j:=x) (j7 hx)) (ao rfl ⟨rfl,ao rfl (?_)⟩)))⟩;rw[mz];cases hb:decide (cA p ts g m x=i) with
       | true=>exact(ao rfl (pk.yes hB (aq.refl _) hb))
       | false=>exact pk.no (aq.refl _) hb
      ·intro acc H6 pk;have hB6:H6 B=some (.lst (bf (pieceOf (cA p ts g m) p i))):=by rw[pk.2.1,pk.2.2,Int.toNat_natCast];rfl
       obtain⟨ys1,T4,hl1,t7⟩:=t5.push hD hr pk.1 hB hB6;exact⟨D,ys1,_,rfl,rfl,T4,mw (by lia),ao rfl (t7)⟩
     ·rw[h8 hr];exact dS (ao rfl (t5.skip hr))
    ·rintro σ H5 ⟨v7,rfl,t5⟩;rw[Int.toNat_natCast]at t5;obtain⟨s5,ys5,xC,Lq,hl5⟩:=t5;exact(ao rfl (q D ys5 H5 (Bc.free hD) (Bc.trans s5) xC (Paired.imp' (fun _ _ ⟨e,he,hn,h0,z⟩=>⟨e,he,hn,Bc.free h0,z⟩) Lq)))
  ·exact .inr ⟨hS,q _ s1⟩
end
def xD(C:Addr):Sp:=fun vs H Q E=>∃ w p ts,∃ g:aL p ts,∃ S,vs=[.ref w,.int S]/\bU H w p ts/\sL ts S (∀ H',aq H H'->E (.ref C) none H') fun m=>∀ H',aq H H'->Q (.bl (uB p ts g m)) H'
section
variable {P:Program}{w:World}{K:bI}{mg:iI}{base:Heap}{a:tH}
theorem ug(T:Txt K mg a):aP P w K mg base (nC P w) 7 a.lP a.o8 ["web","tie_set"] (xD a.aJ):=by
 have uf:aP P w K mg base (nC P w) 6 a.lO a.o7 ["web","tie_set"] (xA a.aJ):=uf T;have xB:aP P w K mg base (nC P w) 5 a.nZ a.rW ["web","tie_set"] (zL a.aJ):=xB T;have fL:aP P w K mg base cF 2 a.iA a.jL ["tie_set"] mQ:=fL T;refine T.zx.JW wD (fun vs H Q E h=>?_) (fun cdv A outer s H vs Q E hr h=>?_)
 ·obtain⟨w,p,ts,g,S,rfl,_⟩:=h;rfl
 ·obtain⟨wb,p,ts,g,S,rfl,hw,q⟩:=h;refine⟨_,(ak (bx (kN (gk (aB uf (hr.mono (by decide)) (by rfl) T.FU T.Gk T.FW .nil kR.passes (aa (pv 0) (aa (pv 1) af))))) (au (aE gE)) aR)
   (ak (gJ (i:=2) wD.nd rfl rfl (own:=["piece"]) (fq:=[]) (js:=[]) (aN (ah iy) ["web","tie_set","touched"]) rfl (yb K (aB xB (hr.mono (by decide)) (by rfl) T.IA T.IW T.IB .nil kR.passes (aa (pv 0) (aa (pv 1) af)))) (fun _ _ _ _=>(aA (i:=0) (show(["piece"]:List Str).Nodup by decide +kernel) rfl (Or.inl rfl))) (fun _ _ _ _=>(di (aD Eb (aF (fS K) (by rfl) T.cW PySem.boot_len (aa (pv 0) af)) ae (aC _)))) (fun _ _ _ _=>(pv 0)))
   (au (aE (lY (bN cz (aF (fS K) (by rfl) T.cW PySem.boot_len (aa (pv 2) af)) ae (aC _)) (kO (bN cz (aF (fS K) (by rfl) T.cW PySem.boot_len (aa (ay (m5 K) (pv 2) ae (fun _ _=>rfl)) af)) (aF (fS K) (by rfl) T.cW PySem.boot_len (aa (aB fL (hr.mono (by decide)) (by rfl) T.tM T.tY T.tO .nil aX (aa (pv 1) af)) af)) (aC _)))))))),?_⟩
  refine DE ?_;intro cj cM eY;have W:=g.Ka;have wp:=g.p2;have wl:=g.len;refine(ao rfl (ao rfl ⟨wb,p,ts,S,rfl,hw,W,?_⟩));rcases q with⟨m,rfl,hm,q⟩|⟨hS,q⟩
  ·refine .inl ⟨m,rfl,hm,fun H1 s1=>(ao rfl (?_))⟩
   by_cases ev:vP p ts (m:Int)=[]
   ·rw[e7 ev];rw[C7 ev]at q;refine dS (ao rfl (ao rfl ⟨wb,p,ts,g,_,rfl,hw.same s1,.inl ⟨m,rfl,hm,fun D ys H2 O8 s2 hD pr=>⟨D,rfl,⟨_,aZ.of hD⟩,fun C hC=>?_⟩⟩⟩))
    have MZ:ys.length<=10:=by
     rw[pr.length,List.length_map];unfold iL;have:=List.length_filter_le (fun x=>decide (cA p ts g m x=x)) (List.range p)
     rw[List.length_range]at this;exact Nat.le_trans this wp
    refine dw (xs:=ys) (wc (fun l=>decide (1<l.length)) ((iL (cA p ts g m) p).map (pieceOf (cA p ts g m) p)) H2 C) (.start hC) (fun i acc H3 _ sf=>⟨aZ.of (sf.1 _ _ hD),sf.len⟩) (dD (by lia)) ?_ ?_
    ·intro i x acc H3 hx sf;obtain⟨l,hl,b,rfl,hbn,hb0,hb⟩:=Paired.vL pr hx;refine⟨rfl,ao rfl (m6 rfl (.inl (aZ.of (sf.1 _ _ hb))) (bu (ao rfl (?_))))⟩;cases Lr:decide (1<l.length) with
     | true =>
       have e:decide ((1:Int)<((bf l).length:Int))=true:=e7 (by have:=mX Lr;rw[bw];lia)
       show if decide ((1:Int)<((bf l).length:Int))=true then _ else _
       rw[e];exact dm (ao rfl (sf.yes hC hl Lr ⟨b,rfl,hb⟩))
     | false =>
       have e:decide ((1:Int)<((bf l).length:Int))=false:=h8 (by have:=of_decide_eq_false Lr;rw[bw];lia)
       show if decide ((1:Int)<((bf l).length:Int))=true then _ else _
       rw[e];exact dS (sf.no hl Lr)
    ·intro acc H3 sf;have pa:Paired (MB H2) acc ((eH (cA p ts g m) p).map (pieceOf (cA p ts g m) p)):=by
      have h:=sf.2.2;rw[pr.length,List.take_length,List.filter_map]at h;exact h
     have hal:=pa.length;rw[List.length_map]at hal;refine(ao rfl (m6 rfl (.inl (aZ.of sf.2.1)) ⟨rfl,ao rfl (?_)⟩));have Bc:=(s1.trans s2).trans sf.1;have ado:Builtin.Int.intBits (m:Int)<=ts.length:=bits_le hm;generalize eH (cA p ts g m) p=tl at q pa hal;cases tl with
     | nil =>
       have hal:acc.length=0:=hal;rw[hal];exact dS (q H3 Bc)
     | cons s r =>
       cases r with
       | nil =>
         cases pa with
         | cons hy pn =>
           cases pn;obtain⟨b,rfl,hb⟩:=hy;refine dm (ao rfl (nq (aZ.of sf.2.1) (ai (j:=0) rfl) (m6 rfl (.inl (aZ.of (sf.1 _ _ hb))) (ao rfl ⟨m,rfl,by lia,fun D4 H4 hn4 s4 Gq=>(m6 rfl (.inl (aZ.of Gq)) ⟨rfl,?_⟩)⟩))))
           rw[bw,bw,mz];exact q H4 (Bc.trans s4)
       | cons t r =>
         have hal:acc.length=r.length+2:=hal;have e:decide (V.int ((acc.length:Nat):Int)=V.int 1)=false:=h8 fun z=>by
          have:=V.int.inj z
          lia
         rw[e];exact dS (q H3 Bc)
   ·rw[h8 ev];have er:uB p ts g m=false:=by
     unfold uB;rw[h8 ev,Bool.false_and]
    rw[er]at q;exact dm (q H1 s1)
  ·exact .inr ⟨hS,q⟩
end
theorem M0{H:Hp}{xs:List V}{p:Nat}{ts:List dU}{g:aL p ts}{k:Nat}(h3:Paired (TupAt H) xs ts)(hk:k<ts.length):∃ c,xs[k]?=some (.ref c)/\H c=some (.tup [.int ((g.N.a k:Nat):Int),.int ((g.N.b k:Nat):Int),.int (bO ts k).2.2]):=nO h3 hk
def zM:Sp:=fun vs H Q _=>∃ S1 S2,∃ a b:Nat,vs=[.int S1,.int S2]/\S1=(a:Int)/\S2=(b:Int)/\Builtin.Int.intBits ((a&&&b:Nat):Int)<=1000/\∀ H',aq H H'->Q (.int (((aS ((a&&&b:Nat):Int)).length:Nat):Int)) H'
def Ct:Sp:=fun vs H Q _=>∃ S1 S2,∃ a b:Nat,vs=[.int S1,.int S2]/\S1=(a:Int)/\S2=(b:Int)/\Builtin.Int.intBits ((a&&&b:Nat):Int)<=1000/\∀ H',aq H H'->Q (.bl (decide ((aS ((a&&&b:Nat):Int)).length%2=1))) H'
structure KO(p:Nat)(xs:List Nat):Prop where
 up:xs.Pairwise (· < ·)
 lt:∀ x∈xs,x<p
def xE:Sp:=fun vs H Q _=>∃ w p ts,∃(l:Addr) (xs:List Nat),vs=[.ref w,.ref l]/\bU H w p ts/\H l=some (.lst (bf xs))/\KO p xs/\Q (.bl true) H
def zN:Sp:=fun vs H Q _=>∃ w p ts,∃(l:Addr) (ks:List Nat),vs=[.ref w,.ref l]/\bU H w p ts/\Hw p ts/\H l=some (.lst (bf ks))/\(∀ k∈ks,k<ts.length)/\Q (.int ((orM ks:Nat):Int)) H
def zO:Sp:=fun vs H Q _=>∃ w p ts,∃ g:aL p ts,∃(l:Addr) (xs:List Nat),vs=[.ref w,.ref l]/\bU H w p ts/\H l=some (.lst (bf xs))/\KO p xs/\
 ∀ H',aq H H'->Q (.int ((g.N.cut (fun x=>decide (x∈xs)):Nat):Int)) H'
theorem EI(n:Nat):decide (V.int (((n:Nat):Int)%2)=V.int 1)=decide (n%2=1):=decide_eq_decide.mpr ⟨fun z=>by have:=V.int.inj z;lia,fun z=>congrArg V.int (by lia)⟩
section
variable {P:Program}{w:World}{K:bI}{mg:iI}{base:Heap}{a:tH}
theorem xF(T:Txt K mg a):aP P w K mg base cF 3 a.n5 a.rX ["one","other"] zM:=by
 have fL:aP P w K mg base cF 2 a.iA a.jL ["tie_set"] mQ:=fL T;refine T.Cb.ok FP (fun vs H Q E h=>?_) (fun cdv A outer s H vs Q E hr h=>?_)
 ·obtain⟨S1,S2,u,v,rfl,_⟩:=h;rfl
 ·obtain⟨S1,S2,u,v,rfl,rfl,rfl,hb,q⟩:=h;refine⟨_,(au (aE (aF (fS K) (by rfl) T.cW PySem.boot_len (aa (aB fL (hr.mono (by decide)) (by rfl) T.tM T.tY T.tO .nil aX (aa (az kP (pv 0) (pv 1)) af)) af)))),?_⟩
  refine(ao rfl (ao rfl (bu ⟨u&&&v,?_,hb,fun D H1 hn s1 hD=>(m6 rfl (.inl (aZ.of hD)) (?_))⟩)))
  ·show[V.int (Builtin.bitAnd _ _)]=_;rw[and_int]
  ·rw[bw];exact q H1 s1
theorem kZ(T:Txt K mg a):aP P w K mg base cF 4 a.fV a.iM ["tie_set","marks"] Ct:=by
 have xF:aP P w K mg base cF 3 a.n5 a.rX ["one","other"] zM:=xF T;refine T.pQ.ok wF (fun vs H Q E h=>?_) (fun cdv A outer s H vs Q E hr h=>?_)
 ·obtain⟨S1,S2,u,v,rfl,_⟩:=h;rfl
 ·obtain⟨S1,S2,u,v,rfl,rfl,rfl,hb,q⟩:=h;refine⟨_,(au (aE (bN cz (az bz (aB xF (hr.mono (by decide)) (by rfl) T.IC T.IX T.ID .nil aX (aa (pv 0) (aa (pv 1) af))) ae) ae (aC _)))),?_⟩
  refine(ao rfl (ao rfl ⟨_,_,u,v,rfl,rfl,rfl,hb,fun H1 s1=>(bu ⟨(jW rfl),rfl,?_⟩)⟩))
  rw[EI];exact q H1 s1
theorem lW(T:Txt K mg a):aP P w K mg base cF 1 a.iB a.jM ["web","side"] xE:=by
 refine T.tT.ok fh (fun vs H Q E h=>?_) (fun cdv A outer s H vs Q E hr h=>?_)
 ·obtain⟨w,p,ts,l,xs,rfl,_⟩:=h;rfl
 ·obtain⟨wb,p,ts,l,zs,rfl,hw,hl,sd,q⟩:=h;refine⟨_,(ak (aG (i:=2) fh.nd rfl (Or.inl rfl) (uw nE ae))
   (ak (dj PassesOwn.never rfl (yb K (pv 1)) (aA (i:=3) fh.nd rfl (Or.inl rfl))
   (ak (bx (PW.pt (mY (aD Ea (pv 3) (pv 2) (aC _)) (jc (aD vG (pv 3) (ay (bT K) (pv 0) ae (fun _ _=>rfl)) (aC _))))) (au (aE gE)) aR)
   (au (aG (i:=2) fh.nd rfl (Or.inl rfl) (pv 3)))))
   (au (aE gE)))),?_⟩
  refine wG ?_;intro cj cM eY gD lu;obtain⟨bt,xs,h1,h2,h3⟩:=id hw.ex;refine(ao rfl (ao rfl ⟨l,rfl,⟨_,aZ.of hl⟩,vD (K:=K) (a:=l) (xs:=bf zs) (fun i σ H2=>∃ z v3,σ=[some (.ref wb),some (.ref l),some (.int z),v3]/\H2=H/\∀ x∈zs.drop i,z<(x:Int)) ⟨_,none,rfl,rfl,fun x _=>by show(-1:Int)<_;lia⟩ (fun i σ H2 _ ⟨_,_,_,z,_⟩=>by rw[z];exact aZ.of hl) ?_ ?_⟩))
  ·rintro i y σ H2 hy ⟨z,v3,rfl,rfl,hz⟩;obtain⟨x,hx,rfl⟩:=jw hy;have hdr:zs.drop i=x::zs.drop (i+1):=by
    obtain⟨hi,e⟩:=xZ.mp hx;rw[List.drop_eq_getElem_cons hi,e]
   have hzx:=hz x (by rw[hdr];exact List.mem_cons_self)
   have hxp:=sd.lt x (nB hx);refine(ao rfl (ao rfl (bu (ao rfl (nj (by lia) (ao rfl (ao rfl (bM (aT.of h1) (ai (j:=0) rfl) (bu (ao rfl (nj (by lia) ?_)))))))))))
   refine(ao rfl ⟨(x:Int),ao rfl ⟨rfl,fun y hy=>?_⟩⟩)
   have pw:(zs.drop i).Pairwise (· < ·):=sd.up.sublist (List.drop_sublist _ _);rw[hdr]at pw;have:=(List.pairwise_cons.mp pw).1 y hy
   lia
  ·rintro σ H2 ⟨z,v3,rfl,rfl,_⟩;exact q
theorem xG(T:Txt K mg a):aP P w K mg base cF 1 a.nX a.rV ["web","ties"] zN:=by
 refine T.B4.ok o6 (fun vs H Q E h=>?_) (fun cdv A outer s H vs Q E hr h=>?_)
 ·obtain⟨w,p,ts,l,ks,rfl,_⟩:=h;rfl
 ·obtain⟨wb,p,ts,l,ks,rfl,hw,W,hl,hk,q⟩:=h;refine⟨_,(ak (aG (i:=2) o6.nd rfl (Or.inl rfl) ae)
   (ak (dj PassesOwn.never rfl (yb K (pv 1)) (aA (i:=3) o6.nd rfl (Or.inl rfl))
   (ak (bx (PW.pt (mY (aD vF (pv 3) ae (aC _)) (jc (aD vG (pv 3) (aF (fS K) (by rfl) T.cW PySem.boot_len (aa (ay (bT K) (pv 0) ae (fun _ _=>rfl)) af)) (aC _))))) yJ aR)
   (au (LK (i:=2) o6.nd rfl (Or.inl rfl) (az je ae (pv 3)) LP))))
   (au (aE (pv 2))))),?_⟩
  refine FL ?_;intro cj cM eY gD lu;obtain⟨bt,xs,h1,h2,h3⟩:=id hw.ex;have qJ:=h3.length;have wl:=W.len;refine(ao rfl ⟨l,rfl,⟨_,aZ.of hl⟩,vD (K:=K) (a:=l) (xs:=bf ks) (fun i σ H2=>∃ v3,σ=[some (.ref wb),some (.ref l),some (.int ((orM (ks.take i):Nat):Int)),v3]/\H2=H) ⟨none,rfl,rfl⟩ (fun i σ H2 _ ⟨_,_,z⟩=>by rw[z];exact aZ.of hl) ?_ ?_⟩)
  ·rintro i x σ H2 hx ⟨v3,rfl,rfl⟩;obtain⟨k,hki,rfl⟩:=jw hx;have hkn:=hk k (nB hki);refine(ao rfl (bu (ao rfl (nj (by lia) (ao rfl (ao rfl (bM (aT.of h1) (ai (j:=1) rfl) (m6 rfl (.inr (aT.of h2)) (bu (ao rfl (nj (by lia) ?_)))))))))))
   refine(ao rfl (ao rfl (bu ⟨⟨by lia,by lia,by decide⟩,bu ⟨some (.int (k:Int)),?_,rfl⟩⟩)))
   show[_,_,some (V.int (Builtin.bitOr _ (1*2^(k:Int).toNat))),_]=_;rw[oW,or_int,List.take_add_one,hki];unfold Ring.orM;rw[List.foldl_append];rfl
  ·rintro σ H2 ⟨v3,rfl,rfl⟩;rw[bw,List.take_length];exact(ao rfl (q))
theorem xH(T:Txt K mg a):aP P w K mg base cF 2 a.n8 a.rY ["web","side"] zO:=by
 have lW:aP P w K mg base cF 1 a.iB a.jM ["web","side"] xE:=lW T;have xG:aP P w K mg base cF 1 a.nX a.rV ["web","ties"] zN:=xG T;refine T.Cc.ok FQ (fun vs H Q E h=>?_) (fun cdv A outer s H vs Q E hr h=>?_)
 ·obtain⟨w,p,ts,g,l,xs,rfl,_⟩:=h;rfl
 ·obtain⟨wb,p,ts,g,l,zs,rfl,hw,hl,sd,q⟩:=h;refine⟨_,(ak (bx (kN (gk (aB lW (hr.mono (by decide)) (by rfl) T.zy T.zJ T.zA .nil aX (aa (pv 0) (aa (pv 1) af))))) yJ aR)
   (au (aE (aB xG (hr.mono (by decide)) (by rfl) T.Iw T.IV T.Iz .nil aX (aa (pv 0) (aa (dB (own:=["k","tie"]) (fq:=["side"]) (js:=[1]) (aN (ah j9) ["web","side"]) rfl (BF K (by rfl) T.uV (aa (ay (bT K) (pv 0) ae (fun _ _=>rfl)) af)) (fun _ _ _ _=>(Gy K (n:=2) rfl (bh (aA (i:=0) (show(["k","tie","side"]:List Str).Nodup by decide +kernel) rfl (Or.inl rfl)) (bh (aA (i:=1) (show(["k","tie","side"]:List Str).Nodup by decide +kernel) rfl (Or.inl rfl)) gf)))) (fun _ _ _ _=>(di (aD qL (bN (QT K) (ay (bT K) (pv 1) ae (fun _ _=>rfl)) (pv 2) (by with_unfolding_all rfl)) (bN (QT K) (ay (bT K) (pv 1) ae (fun _ _=>rfl)) (pv 2) (by with_unfolding_all rfl)) (aC _)))) (fun _ _ _ _=>(pv 0))) af)))))),?_⟩
  refine FT ?_;intro cj cM;obtain⟨bt,xs,h1,h2,h3⟩:=id hw.ex;have qJ:=h3.length;have wl:=g.len;refine(ao rfl (ao rfl ⟨wb,p,ts,l,zs,rfl,hw,hl,sd,_,rfl,dS ?_⟩));refine(ao rfl (ao rfl (bM (aT.of h1) (ai (j:=1) rfl) ⟨bt,rfl,⟨_,aT.of h2⟩,fun D hD=>Df (xs:=xs) (lC (fun k=>decide (g.N.a k∈zs)^^decide (g.N.b k∈zs)) H D) (.start hD) (fun i acc H2 _ pk=>⟨aT.of (pk.1 _ _ h2),pk.len⟩) (dD (by lia)) ?_ ?_⟩)))
  ·intro i x T0 acc H2 hx pk hT;have hi:i<ts.length:=by have:=(xZ.mp hx).1;lia
   obtain⟨b,hxb,hct⟩:=M0 (g:=g) h3 hi;rw[hx]at hxb;cases hxb;have Pa:upd H2 T0 (.tup [.int (i:Int),.ref b]) b=some _:=aq.new hT _ _ (pk.1 _ _ hct);have hl2:upd H2 T0 (.tup [.int (i:Int),.ref b]) l=some _:=aq.new hT _ _ (pk.1 _ _ hl);refine⟨T0,_,rfl,aT.of aj,rfl,_,_,rfl,_,_,rfl,rfl,rfl,?_⟩;refine(ao rfl (bM (aT.of Pa) (ai (j:=0) rfl) (ao rfl (m6 rfl (.inl (aZ.of hl2)) ⟨rfl,oX _,_,rfl,bM (aT.of Pa) (ai (j:=1) rfl) (ao rfl (m6 rfl (.inl (aZ.of hl2)) ⟨rfl,oX _,rfl,ao rfl (?_)⟩))⟩))));rw[nM,nM];cases e1:decide (g.N.a i∈zs)<;>cases e2:decide (g.N.b i∈zs)
   ·exact pk.no (aq.new hT) (by rw[e1,e2];rfl)
   ·exact(ao rfl (pk.yes hD (aq.new hT) (by rw[e1,e2];rfl)))
   ·exact(ao rfl (pk.yes hD (aq.new hT) (by rw[e1,e2];rfl)))
   ·exact pk.no (aq.new hT) (by rw[e1,e2];rfl)
  ·intro acc H2 pk;refine⟨wb,p,ts,D,_,rfl,hw.same pk.1,g.Ka,by rw[pk.2.1,pk.2.2],fun k hk=>?_,?_⟩
   ·have:=List.mem_range.mp (List.mem_filter.mp hk).1
    lia
   ·rw[Dh,qJ];exact q H2 pk.1
end
def sM(C:Addr):Sp:=fun vs H Q E=>∃ w p ts S,vs=[.ref w,.int S]/\bU H w p ts/\Hw p ts/\sL ts S (∀ H',aq H H'->E (.ref C) none H') fun m=>∀ H',aq H H'->Q (.int (lenOf ts m)) H'
section
variable {P:Program}{w:World}{K:bI}{mg:iI}{base:Heap}{a:tH}
theorem oF(T:Txt K mg a):aP P w K mg base (nC P w) 5 a.iW a.kD ["web","tie_set"] (sM a.aJ):=by
 have cS:aP P w K mg base (nC P w) 4 a.eB a.fF ["web","tie_set"] (iR a.aJ):=cS T;refine T.uL.JW AB (fun vs H Q E h=>?_) (fun cdv A outer s H vs Q E hr h=>?_)
 ·obtain⟨w,p,ts,S,rfl,_⟩:=h;rfl
 ·obtain⟨wb,p,ts,S,rfl,hw,W,q⟩:=h;refine⟨_,(au (aE (aF (sumK K rfl) (by rfl) T.IG PyProof.Rows.boot_sum (aa (dB (own:=["tie"]) (fq:=[]) (js:=[]) (aN (ah fg) ["web","tie_set"]) rfl (yb K (aB cS (hr.mono (by decide)) (by rfl) T.mH T.mO T.mJ .nil kR.passes (aa (pv 0) (aa (pv 1) af)))) (fun _ _ _ _=>(aA (i:=0) (show(["tie"]:List Str).Nodup by decide +kernel) rfl (Or.inl rfl))) (fun _ _ _ _=>gI) (fun _ _ _ _=>(ay (bT K) (pv 0) ae (fun _ _=>rfl)))) af)))),?_⟩
  refine(ao rfl (ao rfl ⟨wb,p,ts,S,rfl,hw,W,?_⟩));rcases q with⟨m,rfl,hm,q⟩|⟨hS,q⟩
  ·refine .inl ⟨m,rfl,hm,fun L ys H1 hLn s1 hL pr=>⟨L,rfl,⟨_,aZ.of hL⟩,fun D hD=>?_⟩⟩
   have wl:=W.len;have MZ:ys.length=(aS (m:Int)).length:=by rw[pr.length,List.length_map]
   have T5:ys.length<=24:=by
    rw[MZ];have hb:Builtin.Int.intBits (m:Int)<=ts.length:=bits_le hm;have:=List.length_filter_le (bit (m:Int)) (List.range (Builtin.Int.intBits (m:Int)));rw[List.length_range]at this;exact Nat.le_trans this (by lia)
   refine dw (xs:=ys) (ye (fun k=>(bO ts k).2.2) (aS (m:Int)) H1 D) (.start hD) (fun i acc H2 _ pm=>⟨aZ.of (pm.1 _ _ hL),pm.len⟩) (dD T5) ?_ ?_
   ·intro i x acc H2 hx pm;obtain⟨t,ht,c,rfl,hc⟩:=Paired.vL pr hx;rw[List.getElem?_map]at ht;obtain⟨k,hk,rfl⟩:=CD.mp ht;exact⟨rfl,ao rfl (bM (aT.of (pm.1 _ _ hc)) (ai (j:=2) rfl) (pm.next hD (aq.refl _) hk rfl))⟩
   ·intro acc H2 pm;rw[MZ]at pm;exact⟨D,_,rfl,aZ.of pm.fin,q H2 (s1.trans pm.1)⟩
  ·exact .inr ⟨hS,q _ (aq.refl _)⟩
end
def g8(p:Nat):Int->List Int->Bool
 | _,[]=>true
 | z,x::r=>if x<=z\/(p:Int)<=x then false else g8 p x r
theorem yG(p:Nat)(z x:Int)(r:List Int):g8 p z (x::r)=if x<=z\/(p:Int)<=x then false else g8 p x r:=rfl
theorem mS{p:Nat}:∀{zs:List Int} {z:Int},-1<=z->(g8 p z zs=true↔∃ xs:List Nat,zs=xs.map (fun x=>((x:Nat):Int))/\KO p xs/\∀ x∈xs,z<((x:Nat):Int))
 | [],z,_=>⟨fun _=>⟨[],rfl,⟨List.Pairwise.nil,(fun _ h=>nomatch h)⟩,(fun _ h=>nomatch h)⟩,fun _=>rfl⟩
 | x::r,z,hz=>by
   unfold g8
   by_cases h:x<=z\/(p:Int)<=x
   ·rw[if_pos h];refine⟨(fun e=>by cases e),?_⟩
    rintro⟨xs,e,sd,hx⟩;cases xs with
    | nil=>cases e
    | cons y ys =>
      obtain⟨e1,_⟩:=List.cons.inj e;have e1:x=((y:Nat):Int):=e1;have h1:=hx y List.mem_cons_self;have h2:=sd.lt y List.mem_cons_self
      lia
   ·rw[if_neg h,mS (by lia)]
    obtain⟨y,rfl⟩:=Int.eq_ofNat_of_zero_le (show(0:Int)<=x by lia)
    constructor
    ·rintro⟨xs,rfl,sd,hx⟩;refine⟨y::xs,rfl,⟨List.pairwise_cons.mpr ⟨fun w hw=>by have:=hx w hw;lia,sd.up⟩,fun w hw=>?_⟩,fun w hw=>?_⟩
     ·rcases List.mem_cons.mp hw with e|e
      ·lia
      ·exact sd.lt w e
     ·rcases List.mem_cons.mp hw with e|e
      ·lia
      ·have:=hx w e
       lia
    ·rintro⟨xs,e,sd,hx⟩;cases xs with
     | nil=>cases e
     | cons y' ys =>
       obtain⟨e1,e2⟩:=List.cons.inj e;have e1:((y:Nat):Int)=((y' : Nat):Int):=e1;have ey:y=y':=by lia
       subst ey;exact⟨ys,e2,⟨(List.pairwise_cons.mp sd.up).2,fun w hw=>sd.lt w (CB _ hw)⟩,fun w hw=>by have:=(List.pairwise_cons.mp sd.up).1 w hw;lia⟩
def aaS(H:Hp)(b:Addr):List Int ⊕ Int->Prop
 | .inl zs=>∃ l,H b=some (.tup [.str "side",.ref l])/\H l=some (.lst (zs.map V.int))/\zs.length<=40
 | .inr z=>H b=some (.tup [.str "ring",.int z])
def Right(p:Nat)(ts:List dU)(g:aL p ts)(m:Nat):List Int ⊕ Int->Prop
 | .inl zs=>∃ xs:List Nat,zs=xs.map (fun x=>((x:Nat):Int))/\KO p xs/\g.N.cut (fun x=>decide (x∈xs))=m
 | .inr z=>∃ r:Nat,z=(r:Int)/\r<2^ts.length/\g.N.Ring r/\(aS ((r&&&m:Nat):Int)).length%2=1
def kK:Sp:=fun vs H Q _=>∃ w p ts,∃ g:aL p ts,∃ S:Int,vs=[.ref w,.int S]/\bU H w p ts/\∀ H' (d:Bool),aq H H'->(d=true↔∃ m:Nat,S=(m:Int)/\m<2^ts.length/\g.N.Ring m)->Q (.bl d) H'
def uZ:Sp:=fun vs H Q _=>∃ w p ts,∃(l:Addr) (zs:List Int),vs=[.ref w,.ref l]/\bU H w p ts/\H l=some (.lst (zs.map V.int))/\Q (.bl (g8 p (-1) zs)) H
def qb:Sp:=fun vs H Q _=>∃ w p ts,∃ g:aL p ts,∃(l:Addr) (zs:List Int) (m:Nat),vs=[.ref w,.ref l,.int (m:Int)]/\bU H w p ts/\H l=some (.lst (zs.map V.int))/\∀ H' (d:Bool),aq H H'->(d=true↔Right p ts g m (.inl zs))->Q (.bl d) H'
section
variable {P:Program}{w:World}{K:bI}{mg:iI}{base:Heap}{a:tH}
theorem DS(T:Txt K mg a):aP P w K mg base cF 1 a.iB a.jM ["web","side"] uZ:=by
 refine T.tT.ok fh (fun vs H Q E h=>?_) (fun cdv A outer s H vs Q E hr h=>?_)
 ·obtain⟨w,p,ts,l,zs,rfl,_⟩:=h;rfl
 ·obtain⟨wb,p,ts,l,zs,rfl,hw,hl,q⟩:=h;refine⟨_,(ak (aG (i:=2) fh.nd rfl (Or.inl rfl) (uw nE ae))
   (ak (dj PassesOwn.never rfl (yb K (pv 1)) (aA (i:=3) fh.nd rfl (Or.inl rfl))
   (ak (bx (PW.pt (mY (aD Ea (pv 3) (pv 2) (aC _)) (jc (aD vG (pv 3) (ay (bT K) (pv 0) ae (fun _ _=>rfl)) (aC _))))) (au (aE gE)) aR)
   (au (aG (i:=2) fh.nd rfl (Or.inl rfl) (pv 3)))))
   (au (aE gE)))),?_⟩
  refine wG ?_;intro cj cM eY gD lu;obtain⟨bt,xs,h1,h2,h3⟩:=id hw.ex;refine(ao rfl (ao rfl ⟨l,rfl,⟨_,aZ.of hl⟩,ir (K:=K) (a:=l) (xs:=zs.map V.int) (fun i σ H2=>∃ z v3,σ=[some (.ref wb),some (.ref l),some (.int z),v3]/\H2=H/\g8 p z (zs.drop i)=g8 p (-1) zs) ⟨-1,none,rfl,rfl,rfl⟩ (fun i σ H2 _ ⟨_,_,_,z,_⟩=>by rw[z];exact aZ.of hl) ?_ ?_⟩))
  ·rintro i y D' σ H2 hy ⟨z,v3,rfl,rfl,hz⟩;rw[List.getElem?_map]at hy;obtain⟨x,hx,rfl⟩:=CD.mp hy;have hdr:zs.drop i=x::zs.drop (i+1):=by
    obtain⟨hi,e⟩:=xZ.mp hx;rw[List.drop_eq_getElem_cons hi,e]
   rw[hdr,yG]at hz;refine(ao rfl (ao rfl (bu (ao rfl (?_)))))
   by_cases c1:x<=z
   ·rw[if_pos (.inl c1)]at hz;rw[e7 c1];rw[<-hz]at q;exact dm q
   ·rw[h8 c1];refine dS (ao rfl (ao rfl (bM (aT.of h1) (ai (j:=0) rfl) (bu (ao rfl (?_))))))
    by_cases c2:(p:Int)<=x
    ·rw[if_pos (.inr c2)]at hz;rw[e7 c2];rw[<-hz]at q;exact dm q
    ·rw[if_neg (fun z=>z.elim c1 c2)]at hz
     rw[h8 c2];exact dS (ao rfl ⟨x,_,rfl,rfl,hz⟩)
  ·rintro σ H2 ⟨z,v3,rfl,rfl,hz⟩;rw[List.length_map,List.drop_length]at hz;have hz:true=_:=hz;rw[<-hz]at q;exact q
theorem iH(T:Txt K mg a):aP P w K mg base cF 8 a.d7 a.fH ["web","number"] kK:=by
 have lV:aP P w K mg base cF 2 a.lN a.nY ["web","number"] ue:=lV T;have ug:aP P w K mg base (nC P w) 7 a.lP a.o8 ["web","tie_set"] (xD a.aJ):=ug T;refine T.lU.ok rQ (fun vs H Q E h=>?_) (fun cdv A outer s H vs Q E hr h=>?_)
 ·obtain⟨w,p,ts,g,S,rfl,_⟩:=h;rfl
 ·obtain⟨wb,p,ts,g,S,rfl,hw,q⟩:=h;refine⟨_,(au (aE (lY (aB lV (hr.mono (by decide)) (by rfl) T.B6 T.Cn T.B7 .nil aX (aa (pv 0) (aa (pv 1) af))) (kO (aB ug (hr.mono (by decide)) (by rfl) T.FY T.Gm T.FZ .nil Eo (aa (pv 0) (aa (pv 1) af))))))),?_⟩
  have h2n:((2:Int)^ts.length)=((2^ts.length:Nat):Int):=by simp
  refine(ao rfl (ao rfl ⟨wb,p,ts,S,rfl,hw,g.Ka,_,rfl,?_⟩))
  by_cases hs:0<=S/\S<2^ts.length
  ·rw[e7 hs];obtain⟨m,rfl⟩:=Int.eq_ofNat_of_zero_le hs.1;have hm:m<2^ts.length:=by lia
   refine dm (ao rfl (ao rfl ⟨wb,p,ts,g,_,rfl,hw,.inl ⟨m,rfl,hm,fun H1 s1=>q H1 _ s1 ?_⟩⟩))
   rw[Ft g hm];exact⟨fun r=>⟨m,rfl,hm,r⟩,fun⟨m',e,_,r⟩=>by
    have:m=m':=by lia
    rw[this];exact r⟩
  ·rw[h8 hs];refine dS (q H false (aq.refl _) ⟨fun z=>(Bool.false_ne_true z).elim,fun⟨m',e,hm,_⟩=>absurd ⟨by lia,by lia⟩ hs⟩)
theorem mT(T:Txt K mg a):aP P w K mg base cF 3 a.gV a.jq ["web","side","tie_set"] qb:=by
 have lW:aP P w K mg base cF 1 a.iB a.jM ["web","side"] uZ:=DS T;have xH:aP P w K mg base cF 2 a.n8 a.rY ["web","side"] zO:=xH T;refine T.r9.ok yl (fun vs H Q E h=>?_) (fun cdv A outer s H vs Q E hr h=>?_)
 ·obtain⟨w,p,ts,g,l,zs,m,rfl,_⟩:=h;rfl
 ·obtain⟨wb,p,ts,g,l,zs,m,rfl,hw,hl,q⟩:=h;refine⟨_,(au (aE (lY (aB lW (hr.mono (by decide)) (by rfl) T.zy T.zJ T.zA .nil aX (aa (pv 0) (aa (pv 1) af))) (kO (bN cz (aB xH (hr.mono (by decide)) (by rfl) T.IE T.IY T.IF .nil aX (aa (pv 0) (aa (pv 1) af))) (pv 2) (aC _)))))),?_⟩
  refine(ao rfl (ao rfl ⟨wb,p,ts,l,zs,rfl,hw,hl,_,rfl,?_⟩));cases hs:g8 p (-1) zs with
  | false =>
    refine dS (q H false (aq.refl _) ⟨fun z=>(Bool.false_ne_true z).elim,fun⟨xs,e,sd,_⟩=>?_⟩)
    rw[(mS (Int.le_refl _)).mpr ⟨xs,e,sd,fun x _=>by lia⟩]at hs
    cases hs
  | true =>
    obtain⟨xs,rfl,sd,_⟩:=(mS (Int.le_refl _)).mp hs;rw[<-vX]at hl;refine dm (ao rfl (ao rfl ⟨wb,p,ts,g,l,xs,rfl,hw,hl,sd,fun H1 s1=>(ao rfl ⟨rfl,q H1 _ s1 ?_⟩)⟩))
    rw[decide_eq_true_iff]
    constructor
    ·intro e;have e:=V.int.inj e;exact⟨xs,rfl,sd,by lia⟩
    ·rintro⟨ys,e,_,hc⟩;have e2:ys=xs:=by
      have:=congrArg (List.map Int.toNat) e;rw[List.map_map,List.map_map]at this;have h1:(Int.toNat∘fun x=>((x:Nat):Int))=id:=funext fun x=>rfl
      rw[h1,List.map_id,List.map_id]at this;exact this.symm
     rw[e2]at hc;exact congrArg (fun n:Nat=>V.int (n:Int)) hc
end
def EJ:Sp:=fun vs H Q _=>∃(x y:Option Int) (l:Int),vs=[oV x,oV y,.int l]/\Q (.bl (rD x y l)) H
def qe:Sp:=fun vs H Q _=>∃(b c:Addr) (t:dU) (u:Bool) (ys:List V) (R:List Pr),vs=[.ref b,.int (u.toNat:Int),.ref c]/\H b=some (.tup (J3 t))/\H c=some (.tup ys)/\Paired (fb H) ys R/\0<=t.1/\t.1<(R.length:Int)/\0<=t.2.1/\t.2.1<(R.length:Int)/\Q (.bl (Ar R t u)) H
def ng(C:Addr):Sp:=fun vs H Q E=>∃(w b:Addr) (p:Nat) (ts:List dU) (W:List (List Pr)) (S:Int),vs=[.ref w,.int S,.ref b]/\bU H w p ts/\Hw p ts/\ff H b W/\Kp p W/\sL ts S (∀ H',aq H H'->E (.ref C) none H') fun m =>
 (tF p ts m W->∀ H',aq H H'->Q (.bl true) H')/\(¬ tF p ts m W->∀ H',aq H H'->Q (.bl false) H')
theorem EK(a:Option Int):LQ (oV a) (V.int 0)=true:=by cases a<;>rfl
theorem nh{x y:V}{A B:Prop}(h:x≠y)(ha:A):if(!decide (x=y))=true then A else B:=by
 rw[h8 h];exact dm ha
section
variable {P:Program}{w:World}{K:bI}{mg:iI}{base:Heap}{a:tH}
theorem iS(T:Txt K mg a):aP P w K mg base cF 1 a.fW a.iN ["one","other","length"] EJ:=by
 refine T.pR.ok wH (fun vs H Q E h=>?_) (fun cdv A outer s H vs Q E hr h=>?_)
 ·obtain⟨x,y,l,rfl,_⟩:=h;rfl
 ·obtain⟨x,y,l,rfl,q⟩:=h;refine⟨_,(ak (bx (PW.pt (mY (aD jf (pv 0) cu (aC _)) (jc (aD jf (pv 1) cu (aC _))))) (au (aE (lY (bN jf (pv 0) cu (aC _)) (kO (bN jf (pv 1) cu (aC _)))))) aR)
   (au (aE (bN Ea (aF Bj (by rfl) T.Ln PyProof.Rows.boot_abs (aa (az jS (pv 0) (pv 1)) af)) (pv 2) (aC _))))),?_⟩
  refine wI ?_;intro cj cM;cases x with
  | none =>
    refine(ao rfl ⟨rfl,ao rfl (sU rfl (ao rfl ⟨rfl,ao rfl (sU rfl (ao rfl ⟨rfl,?_⟩))⟩))⟩);cases y with
    | none=>exact q
    | some y=>exact q
  | some x =>
    cases y with
    | none=>exact(ao rfl ⟨rfl,ao rfl (nj (fun z=>nomatch z) (ao rfl ⟨rfl,ao rfl (sU rfl (ao rfl ⟨rfl,ao rfl (nj (fun z=>nomatch z) q)⟩))⟩))⟩)
    | some y=>exact(ao rfl ⟨rfl,ao rfl (nj (fun z=>nomatch z) (ao rfl ⟨rfl,ao rfl (nj (fun z=>nomatch z) (ao rfl (ao rfl (bu (ao rfl (ao rfl (bu (q))))))))⟩))⟩)
theorem mU(T:Txt K mg a):aP P w K mg base cF 2 a.gW a.jr ["tie","turn","worths"] qe:=by
 have iS:aP P w K mg base cF 1 a.fW a.iN ["one","other","length"] EJ:=iS T;refine T.se.ok kU (fun vs H Q E h=>?_) (fun cdv A outer s H vs Q E hr h=>?_)
 ·obtain⟨b,c,t,u,ys,R,rfl,_⟩:=h;rfl
 ·obtain⟨b,c,t,u,ys,R,rfl,hb,hc,pr,a0,a1,b0,b1,q⟩:=h;refine⟨_,(ak (aG (i:=3) kU.nd rfl (Or.inl rfl) (ay (bT K) (pv 2) (ay (bT K) (pv 0) ae (fun _ _=>rfl)) (fun _ _=>rfl)))
   (ak (aG (i:=4) kU.nd rfl (Or.inl rfl) (ay (bT K) (pv 2) (ay (bT K) (pv 0) ae (fun _ _=>rfl)) (fun _ _=>rfl)))
   (au (aE (lY (aB iS (hr.mono (by decide)) (by rfl) T.pS T.p7 T.pU .nil aX (aa (ay (bT K) (pv 3) ae (fun _ _=>rfl)) (aa (ay (bT K) (pv 4) (pv 1) (fun _ _=>rfl)) (aa (ay (bT K) (pv 0) ae (fun _ _=>rfl)) af)))) (kO (aB iS (hr.mono (by decide)) (by rfl) T.pS T.p7 T.pU .nil aX (aa (ay (bT K) (pv 3) ae (fun _ _=>rfl)) (aa (ay (bT K) (pv 4) (az jS ae (pv 1)) (fun _ _=>rfl)) (aa (ay (bT K) (pv 0) ae (fun _ _=>rfl)) af)))))))))),?_⟩
  refine ym ?_;intro cj cM;obtain⟨c1,e1,h1⟩:=RowW.at pr (i:=t.1.toNat) (by lia)
  obtain⟨c2,e2,h2⟩:=RowW.at pr (i:=t.2.1.toNat) (by lia)
  have i1:z7 ys t.1=some (.ref c1):=by
   have:=ai e1
   rwa [Int.toNat_of_nonneg a0]at this
  have i2:z7 ys t.2.1=some (.ref c2):=by
   have:=ai e2
   rwa [Int.toNat_of_nonneg b0]at this
  have eu:(1:Int)-(u.toNat:Int)=((!u).toNat:Int):=by cases u<;>rfl
  refine(ao rfl (ao rfl (bM (aT.of hb) (ai (j:=0) rfl) (bM (aT.of hc) (i1) (?_)))));refine(ao rfl (ao rfl (bM (aT.of hb) (ai (j:=1) rfl) (bM (aT.of hc) (i2) (?_)))));refine(ao rfl (bM (aT.of h1) (ai (j:=0) rfl) (ao rfl (ao rfl (bM (aT.of h2) (ai (we _ u)) (ao rfl (bM (aT.of hb) (ai (j:=2) rfl) ⟨_,_,_,rfl,_,rfl,?_⟩)))))));unfold Ar at q;cases hB:rD (cg R t.1.toNat).1 (sel (cg R t.2.1.toNat) u) t.2.2 with
  | false =>
    rw[hB]at q;exact dS q
  | true =>
    rw[hB]at q;refine dm (ao rfl (bM (aT.of h1) (ai (j:=1) rfl) (ao rfl (ao rfl (bu (bM (aT.of h2) (?_) (ao rfl (bM (aT.of hb) (ai (j:=2) rfl) ⟨_,_,_,rfl,q⟩))))))));rw[eu];exact ai (we _ (!u))
theorem kq(T:Txt K mg a):aP P w K mg base (nC P w) 4 a.fm a.gX ["web","marks","worths"] (ng a.aJ):=by
 have dJ:aP P w K mg base (nC P w) 3 a.fk a.gA ["web","tie_set"] (jv a.aJ):=dJ T;have jP:aP P w K mg base cF 1 a.jK a.lM ["tie_set","tie"] qF:=jP T;have mU:aP P w K mg base cF 2 a.gW a.jr ["tie","turn","worths"] qe:=mU T;refine T.oz.JW gi (fun vs H Q E h=>?_) (fun cdv A outer s H vs Q E hr h=>?_)
 ·obtain⟨w,b,p,ts,W,S,rfl,_⟩:=h;rfl
 ·obtain⟨wb,b,p,ts,W,S,rfl,hw,Wb,hW,sq,q⟩:=h;refine⟨_,(ak (iJ (aB dJ (hr.mono (by decide)) (by rfl) T.oq T.oE T.ou .nil kR.passes (aa (pv 0) (aa (pv 1) af))))
   (ak (vg rfl (aV (by rfl) T.bq (aa (ay (bT K) (pv 0) ae (fun _ _=>rfl)) af)) (aA (i:=3) gi.nd rfl (Or.inl rfl))
   (ak (bx (aD qL (ay (bT K) (ay (bT K) (ay (bT K) (pv 2) (pv 3) (fun _ _=>rfl)) (pv 3) (fun _ _=>rfl)) ae (fun _ _=>rfl)) ae (aC _)) (au (aE gE)) aR)
   (au (dj PassesOwn.never rfl (BF K (by rfl) T.uV (aa (ay (bT K) (pv 0) ae (fun _ _=>rfl)) af)) (Gy K (n:=2) rfl (bh (aA (i:=4) gi.nd rfl (Or.inl rfl)) (bh (aA (i:=5) gi.nd rfl (Or.inl rfl)) gf)))
   (au (bx (kN (gk (aB mU (hr.mono (by decide)) (by rfl) T.AO T.AZ T.AQ .nil aX (aa (pv 5) (aa (Bf (gk (aB jP (hr.mono (by decide)) (by rfl) T.zp T.zI T.zq .nil aX (aa (pv 1) (aa (pv 4) af)))) ae ae) (aa (ay (bT K) (pv 2) (pv 3) (fun _ _=>rfl)) af)))))) (au (aE gE)) aR))))))
   (au (aE gE)))),?_⟩
  refine u6 ?_;intro cj cM eY gD lu nR nS;refine(ao rfl (ao rfl ⟨wb,p,ts,S,rfl,hw,Wb,?_⟩));rcases q with⟨m,rfl,hm,q1,q2⟩|⟨hS,q⟩
  ·refine .inl ⟨m,rfl,hm,?_⟩;obtain⟨bt,xs,h1,h2,h3⟩:=id hw.ex;obtain⟨ws,hws,Gr⟩:=id hW;have qJ:=h3.length;have wp:=Wb.Q0;have wl:=Wb.len;refine(ao rfl (bM (aT.of h1) (ai (j:=0) rfl) (ao rfl ⟨(by lia),(by lia),?_⟩)))
   refine ly (lo:=0) (n:=(p:Int).toNat) (fun i σ H2=>∃ v3 v4 v5,σ=[some (.ref wb),some (.int (m:Int)),some (.ref b),v3,v4,v5]/\aq H H2/\∀ j,j<i->HR ts m j (W.getD j [])) ⟨none,none,none,rfl,aq.refl _,fun j hj=>by lia⟩ ?_ ?_
   ·rintro i σ H2 hi ⟨v3,v4,v5,rfl,s2,ok⟩;rw[Int.toNat_natCast]at hi;rw[Int.zero_add];obtain⟨x,hx,bR,ys,rfl,Gs,CC⟩:=jB Gr (i:=i) (by rw[sq.1];exact hi) []
    have rl:=sq.row hi;obtain⟨bP,eP,M1⟩:=RowW.at CC (i:=i) (by lia)
    refine(ao rfl (ao rfl (bM (aT.of (s2 _ _ hws)) (ai (j:=i) hx) (ao rfl (bM (aT.of (s2 _ _ Gs)) (ai (j:=i) eP) (bM (aT.of (s2 _ _ M1)) (ai (j:=0) rfl) (?_)))))));refine⟨EK _,_,rfl,?_⟩
    by_cases h0:(cg (W.getD i []) i).1=some 0
    case neg =>
     refine nh (fun z=>h0 ?_) (q2 (fun z=>h0 (z i hi).1) _ s2)
     have e:=EA (cg (W.getD i []) i).1;rw[e7 z]at e;exact mX e.symm
    refine m3 (by rw[h0];rfl) ?_
    refine(ao rfl (bM (aT.of (s2 _ _ h1)) (ai (j:=1) rfl) ⟨bt,rfl,⟨_,aT.of (s2 _ _ h2)⟩,?_⟩));refine FD (K:=K) (a:=bt) (xs:=xs) (fun k σ H3=>∃ v4 v5,σ=[some (.ref wb),some (.int (m:Int)),some (.ref b),some (.int (i:Int)),v4,v5]/\aq H H3/\∀ j,j<k->Ar (W.getD i []) (bO ts j) (m.testBit j)=true) ⟨v4,v5,rfl,s2,fun j hj=>by lia⟩ (fun k σ H3 _ ⟨_,_,_,z,_⟩=>aT.of (z _ _ h2)) ?_ ?_
    ·rintro k x T0 σ H3 hk ⟨v4,v5,rfl,s3,Jt⟩ hT;have hkx:k<xs.length:=(xZ.mp hk).1;obtain⟨t,ht,ct,rfl,hct⟩:=Paired.vL h3 hk;have Dp:bO ts k=t:=by
      unfold bO;rw[List.getD_eq_getElem?_getD,ht];rfl
     obtain⟨g0,g1,g2,g3⟩:=Wb.QZ.ends t (nB ht);have s4:aq H3 (upd H3 T0 (.tup [.int (k:Int),.ref ct])):=aq.new hT;have hT4:upd H3 T0 (.tup [.int (k:Int),.ref ct]) T0=some (.tup [.int (k:Int),.ref ct]):=aj;generalize upd H3 T0 (.tup [.int (k:Int),.ref ct])=H4 at s4 hT4;have GA:=s3.trans s4;refine⟨T0,_,rfl,aT.of hT4,rfl,_,_,rfl,_,_,rfl,rfl,?_⟩;refine(ao rfl (ao rfl (ao rfl ⟨(m:Int),k,rfl,ao rfl (?_)⟩)));rw[jk];cases hb:m.testBit k with
     | true =>
       refine dm (ao rfl (ao rfl (bM (aT.of (GA _ _ hws)) (ai (j:=i) hx) ⟨ct,bR,t,true,ys,_,rfl,GA _ _ hct,GA _ _ Gs,Paired.imp' (fun _ _ z=>z.same GA) CC,g0,by lia,g2,by lia,_,rfl,?_⟩)))
       cases hB:Ar (W.getD i []) t true with
       | false=>exact dm (q2 (fun z=>by
        have:=(z i hi).2 k (by lia)
        rw[Dp,hb,hB]at this;cases this) _ GA)
       | true =>
         refine dS ⟨_,_,rfl,GA,fun j hj=>?_⟩
         by_cases e:j=k
         ·rw[e,Dp,hb];exact hB
         ·exact Jt j (by lia)
     | false =>
       refine dS (ao rfl (ao rfl (bM (aT.of (GA _ _ hws)) (ai (j:=i) hx) ⟨ct,bR,t,false,ys,_,rfl,GA _ _ hct,GA _ _ Gs,Paired.imp' (fun _ _ z=>z.same GA) CC,g0,by lia,g2,by lia,_,rfl,?_⟩)))
       cases hB:Ar (W.getD i []) t false with
       | false=>exact dm (q2 (fun z=>by
        have:=(z i hi).2 k (by lia)
        rw[Dp,hb,hB]at this;cases this) _ GA)
       | true =>
         refine dS ⟨_,_,rfl,GA,fun j hj=>?_⟩
         by_cases e:j=k
         ·rw[e,Dp,hb];exact hB
         ·exact Jt j (by lia)
    ·rintro σ H3 ⟨v4,v5,rfl,s3,Jt⟩;rw[qJ]at Jt;refine⟨_,_,_,rfl,s3,fun j hj=>?_⟩
     by_cases e:j=i
     ·rw[e];exact⟨h0,Jt⟩
     ·exact ok j (by lia)
   ·rintro σ H2 ⟨v3,v4,v5,rfl,s2,ok⟩;rw[Int.toNat_natCast]at ok;exact q1 ok _ s2
  ·exact .inr ⟨hS,q _ (aq.refl _)⟩
end
def IZ(p:Nat)(W:List (List Pr))(l:Int):Prop:=∀ i,i<p->∀ d,(cg (W.getD i []) i).2=some d->l<=d
def Ju(o:Option Int)(l:Int):Bool:=match o with
 | none=>true
 | some d=>decide (l<=d)
def oG(W:List (List Pr))(i:Nat):List V:=(List.range i).map fun j=>oV (cg (W.getD j []) j).2
theorem zP(W:List (List Pr))(i:Nat):oG W (i+1)=oG W i++[oV (cg (W.getD i []) i).2]:=by
 unfold oG;rw[List.range_succ,List.map_append];rfl
def ni:Sp:=fun vs H Q _=>∃(b:Addr) (p:Nat) (W:List (List Pr)) (l:Int),vs=[.ref b,.int l]/\ff H b W/\Kp p W/\p<=10/\∀ H' (d:Bool),aq H H'->(d=true↔IZ p W l)->Q (.bl d) H'
def xJ(p:Nat)(ts:List dU)(g:aL p ts)(m:Nat):List Int ⊕ (Int×List (List Pr))->Prop
 | .inl zs=>Right p ts g m (.inl zs)
 | .inr (z,W)=>∃ r:Nat,z=(r:Int)/\r<2^ts.length/\g.N.Ring r/\(aS ((r&&&m:Nat):Int)).length%2=1/\tF p ts m W/\IZ p W (lenOf ts r)
def nA(p:Nat)(H:Hp)(b:Addr):List Int ⊕ (Int×List (List Pr))->Prop
 | .inl zs=>∃ l,H b=some (.tup [.str "side",.ref l])/\H l=some (.lst (zs.map V.int))/\zs.length<=40
 | .inr (z,W)=>∃ c,H b=some (.tup [.str "ring",.int z,.ref c])/\ff H c W/\Kp p W
theorem nA.same{p:Nat}{H H' : Hp}{b:Addr}(s:aq H H'):∀{x:List Int ⊕ (Int×List (List Pr))},nA p H b x->nA p H' b x
 | .inl _,⟨l,h1,h2,h3⟩=>⟨l,s _ _ h1,s _ _ h2,h3⟩
 | .inr (_,_),⟨c,h1,h2,h3⟩=>⟨c,s _ _ h1,h2.same s,h3⟩
def oH:Sp:=fun vs H Q _=>∃(w b:Addr) (p:Nat) (ts:List dU),∃ g:aL p ts,∃(W:List (List Pr)) (m:Nat) (z:Int),vs=[.ref w,.int (m:Int),.int z,.ref b]/\bU H w p ts/\ff H b W/\Kp p W/\m<2^ts.length/\
 ∀ H' (d:Bool),aq H H'->(d=true↔xJ p ts g m (.inr (z,W)))->Q (.bl d) H'
def lg(C:Addr):Sp:=fun vs H Q E=>∃ w p ts,∃ g:aL p ts,∃(S:Int) (b:Addr) (x:List Int ⊕ (Int×List (List Pr))),vs=[.ref w,.int S,.ref b]/\bU H w p ts/\nA p H b x/\sL ts S (∀ H',aq H H'->E (.ref C) none H') fun m =>
 ∀ H' (d:Bool),aq H H'->(d=true↔xJ p ts g m x)->Q (.bl d) H'
section
variable {P:Program}{w:World}{K:bI}{mg:iI}{base:Heap}{a:tH}
theorem kr(T:Txt K mg a):aP P w K mg base cF 1 a.fu a.gY ["worths","length"] ni:=by
 refine T.oB.ok nc (fun vs H Q E h=>?_) (fun cdv A outer s H vs Q E hr h=>?_)
 ·obtain⟨b,p,W,l,rfl,_⟩:=h;rfl
 ·obtain⟨b,p,W,l,rfl,hW,sq,hp,q⟩:=h;refine⟨_,(ak (gJ (i:=2) nc.nd rfl rfl (own:=["point"]) (fq:=["worths"]) (js:=[0]) (aN (ah cH) ["worths","length","rounds"]) rfl (aV (by rfl) T.bq (aa (aF (fS K) (by rfl) T.cW PySem.boot_len (aa (pv 0) af)) af)) (fun _ _ _ _=>(aA (i:=0) (show(["point","worths"]:List Str).Nodup by decide +kernel) rfl (Or.inl rfl))) (fun _ _ _ _=>gI) (fun _ _ _ _=>(ay (bT K) (ay (bT K) (ay (bT K) (pv 1) (pv 0) (fun _ _=>rfl)) (pv 0) (fun _ _=>rfl)) ae (fun _ _=>rfl))))
   (au (aE (aF (TV K rfl) (by rfl) T.O2 PyProof.Rows.boot_all (aa (dB (own:=["worth"]) (fq:=["length"]) (js:=[1]) (aN (ah cH) ["worths","length","rounds"]) rfl (yb K (pv 2)) (fun _ _ _ _=>(aA (i:=0) (show(["worth","length"]:List Str).Nodup by decide +kernel) rfl (Or.inl rfl))) (fun _ _ _ _=>gI) (fun _ _ _ _=>(ND (bN jf (pv 0) cu (aC _)) (kO (bN vG (pv 0) (pv 1) (aC _)))))) af))))),?_⟩
  refine u7 ?_;intro cj;obtain⟨ws,hws,Gr⟩:=id hW;have T6:ws.length=p:=by rw[Gr.length,sq.1]
  refine(ao rfl (m6 rfl (.inr (aT.of hws)) (ao rfl ⟨(by lia),(by lia),fun D hD=>bY (lo:=0) (m:=ws.length) (fun i acc H2=>aq H H2/\H2 D=some (.lst acc)/\acc=oG W i) ⟨aq.new hD,aj,rfl⟩ (fun i acc H2 _ z=>⟨z.2.1,by rw[z.2.2];unfold oG;rw[List.length_map,List.length_range];exact Nat.le_refl _⟩) (dD (by lia)) ?_ ?_⟩)))
  ·rintro i acc H2 hi ⟨s2,yH,e2⟩;rw[Int.zero_add];have hi:i<p:=by lia
   obtain⟨x,hx,bR,ys,rfl,Gs,CC⟩:=jB Gr (i:=i) (by rw[sq.1];exact hi) []
   have rl:=sq.row hi;obtain⟨bP,eP,M1⟩:=RowW.at CC (i:=i) (by lia)
   refine⟨rfl,ao rfl (ao rfl (bM (aT.of (s2 _ _ hws)) (ai (j:=i) hx) (ao rfl (bM (aT.of (s2 _ _ Gs)) (ai (j:=i) eP) (bM (aT.of (s2 _ _ M1)) (ai (j:=1) rfl) ⟨yH,s2.put hD,aj,?_⟩)))))⟩;rw[zP,e2]
  ·rintro acc H2 ⟨s2,yH,rfl⟩;refine(ao rfl ⟨D,rfl,⟨_,aZ.of yH⟩,fun D2 Pb=>dw (xs:=oG W ws.length) (fun i acc H3=>aq H2 H3/\H3 D2=some (.lst acc)/\acc=((List.range i).map fun j=>Ju (cg (W.getD j []) j).2 l).map V.bl) ⟨aq.new Pb,aj,rfl⟩ (fun i acc H3 _ z=>⟨aZ.of (z.1 _ _ yH),z.2.1,by rw[z.2.2];rw[List.length_map,List.length_map,List.length_range];exact Nat.le_refl _⟩) (dD (by unfold oG;rw[List.length_map,List.length_range];lia)) ?_ ?_⟩)
   ·rintro i x acc H3 hx ⟨s3,Ek,rfl⟩;unfold oG at hx;rw[List.getElem?_map]at hx;obtain⟨j,hj,rfl⟩:=CD.mp hx;have ej:j=i:=by
     obtain⟨h1,h2⟩:=xZ.mp hj;rw[List.getElem_range]at h2;exact h2.symm
    subst ej;have Ls:∀ bl,Ju (cg (W.getD j []) j).2 l=bl->H3 D2=some (.lst (((List.range j).map fun j=>Ju (cg (W.getD j []) j).2 l).map V.bl))/\aq H2 (upd H3 D2 (.lst ((((List.range j).map fun j=>Ju (cg (W.getD j []) j).2 l).map V.bl)++[.bl bl])))/\upd H3 D2 (.lst ((((List.range j).map fun j=>Ju (cg (W.getD j []) j).2 l).map V.bl)++[.bl bl])) D2=some (.lst ((((List.range j).map fun j=>Ju (cg (W.getD j []) j).2 l).map V.bl)++[.bl bl]))/\(((List.range j).map fun j=>Ju (cg (W.getD j []) j).2 l).map V.bl)++[.bl bl]=((List.range (j+1)).map fun j=>Ju (cg (W.getD j []) j).2 l).map V.bl:=by
     intro bl hb;refine⟨Ek,s3.put Pb,aj,?_⟩;rw[List.range_succ,List.map_append,List.map_append];show _=_++[V.bl (Ju (cg (W.getD j []) j).2 l)];rw[hb]
    generalize hv:(cg (W.getD j []) j).2=o at Ls;cases o with
    | none=>exact⟨rfl,ao rfl ⟨rfl,ao rfl (sU rfl (Ls true rfl))⟩⟩
    | some d=>exact⟨rfl,ao rfl ⟨rfl,ao rfl (nj (fun z=>nomatch z) (ao rfl (ao rfl (bu (Ls _ rfl)))))⟩⟩
   ·rintro acc H3 ⟨s3,Ek,rfl⟩;refine⟨D2,_,rfl,aZ.of Ek,q H3 _ (s2.trans s3) ?_⟩;rw[List.all_eq_true];have hl:(oG W ws.length).length=p:=by unfold oG;rw[List.length_map,List.length_range,T6]
    rw[hl]
    constructor
    ·intro h i hi d hd;have:=h _ (List.mem_map.mpr ⟨i,List.mem_range.mpr hi,rfl⟩);rw[hd]at this;exact mX this
    ·intro h x hx;obtain⟨j,hj,rfl⟩:=List.mem_map.mp hx;have hj:=List.mem_range.mp hj;show Ju _ l=true;cases hd:(cg (W.getD j []) j).2 with
     | none=>rfl
     | some d=>exact e7 (h j hj d hd)
theorem lj(T:Txt K mg a):aP P w K mg base cF 9 a.fX a.iO ["web","marks","ring","worths"] oH:=by
 have iH:aP P w K mg base cF 8 a.d7 a.fH ["web","number"] kK:=iH T;have kZ:aP P w K mg base cF 4 a.fV a.iM ["tie_set","marks"] Ct:=kZ T;have kq:aP P w K mg base (nC P w) 4 a.fm a.gX ["web","marks","worths"] (ng a.aJ):=kq T;have kr:aP P w K mg base cF 1 a.fu a.gY ["worths","length"] ni:=kr T;have oF:aP P w K mg base (nC P w) 5 a.iW a.kD ["web","tie_set"] (sM a.aJ):=oF T;refine T.pV.ok wK (fun vs H Q E h=>?_) (fun cdv A outer s H vs Q E hr h=>?_)
 ·obtain⟨w,b,p,ts,g,W,m,z,rfl,_⟩:=h;rfl
 ·obtain⟨wb,b,p,ts,g,W,m,z,rfl,hw,hW,sq,hm,q⟩:=h;refine⟨_,(ak (bx (PW.pt (mY (kN (gk (aB iH (hr.mono (by decide)) (by rfl) T.tR T.t8 T.tS .nil aX (aa (pv 0) (aa (pv 2) af))))) (jc (kN (gk (aB kZ (hr.mono (by decide)) (by rfl) T.yu T.yD T.yv .nil aX (aa (pv 2) (aa (pv 1) af)))))))) (au (aE gE)) aR)
   (au (aE (lY (aB kq (hr.mono (by decide)) (by rfl) T.xj T.xx T.xm .nil Eo (aa (pv 0) (aa (pv 1) (aa (pv 3) af)))) (kO (aB kr (hr.mono (by decide)) (by rfl) T.xn T.xy T.xo .nil aX (aa (pv 3) (aa (aB oF (hr.mono (by decide)) (by rfl) T.B8 T.Co T.B9 .nil Eo (aa (pv 0) (aa (pv 2) af))) af)))))))),?_⟩
  refine wL ?_;intro cj cM;have wl:=g.len;have wp:=g.p2;refine(ao rfl (ao rfl ⟨wb,p,ts,g,z,rfl,hw,fun H1 d s1 hd=>(ao rfl (?_))⟩))
  cases d with
  | false=>exact dm (q H1 false s1 ⟨fun z=>(Bool.false_ne_true z).elim,fun⟨r,e,hr,rg,_⟩=>hd.mpr ⟨r,e,hr,rg⟩⟩)
  | true =>
    obtain⟨r,rfl,hr',rg⟩:=hd.mp rfl;have Pc:Builtin.Int.intBits ((r&&&m:Nat):Int)<=1000:=by
     have h1:r&&&m<2^ts.length:=Nat.and_lt_two_pow _ hm;have h2:=bits_le h1
     lia
    have one:∀ r2:Nat,(r:Int)=(r2:Int)->r2=r:=fun r2 e=>by lia
    refine dS (ao rfl (ao rfl ⟨_,_,r,m,rfl,rfl,rfl,Pc,fun H2 s2=>(ao rfl (?_))⟩))
    by_cases ho:(aS ((r&&&m:Nat):Int)).length%2=1
    case neg =>
     rw[h8 ho];refine dm (q H2 false (s1.trans s2) ⟨fun z=>(Bool.false_ne_true z).elim,fun⟨r2,e,_,_,h,_⟩=>absurd h ?_⟩)
     rw[one r2 e];exact ho
    rw[e7 ho];have s12:=s1.trans s2;refine dS (ao rfl (ao rfl (ao rfl ⟨wb,b,p,ts,W,_,rfl,hw.same s12,g.Ka,hW.same s12,sq,.inl ⟨m,rfl,hm,fun st H3 s3=>?_,fun T7 H3 s3=>?_⟩⟩)))
    ·have Bc:=s12.trans s3;refine(ao rfl (dm (ao rfl (ao rfl (ao rfl ⟨wb,p,ts,_,rfl,hw.same Bc,g.Ka,.inl ⟨r,rfl,hr',fun H4 s4=>?_⟩⟩)))))
     have GB:=Bc.trans s4;refine⟨b,p,W,_,rfl,hW.same GB,sq,wp,fun H5 d5 s5 hd5=>q H5 d5 (GB.trans s5) ?_⟩
     rw[hd5];exact⟨fun h=>⟨r,rfl,hr',rg,ho,st,h⟩,fun⟨r2,e,_,_,_,_,h⟩=>by rw[one r2 e]at h;exact h⟩
    ·refine(ao rfl (dS (q H3 false (s12.trans s3) ⟨fun z=>(Bool.false_ne_true z).elim,fun⟨r2,e,_,_,_,st,_⟩=>absurd st T7⟩)))
theorem fM(T:Txt K mg a):aP P w K mg base (nC P w) 10 a.fJ a.gZ ["web","marks","answer"] (lg a.aJ):=by
 have dJ:aP P w K mg base (nC P w) 3 a.fk a.gA ["web","tie_set"] (jv a.aJ):=dJ T;have mT:aP P w K mg base cF 3 a.gV a.jq ["web","side","tie_set"] qb:=mT T;have lj:aP P w K mg base cF 9 a.fX a.iO ["web","marks","ring","worths"] oH:=lj T;refine T.sj.JW yn (fun vs H Q E h=>?_) (fun cdv A outer s H vs Q E hr h=>?_)
 ·obtain⟨w,p,ts,g,S,b,x,rfl,_⟩:=h;rfl
 ·obtain⟨wb,p,ts,g,S,b,x,rfl,hw,hx,q⟩:=h;refine⟨_,(ak (iJ (aB dJ (hr.mono (by decide)) (by rfl) T.oq T.oE T.ou .nil kR.passes (aa (pv 0) (aa (pv 1) af))))
   (ak (bx (aD cz (ay (bT K) (pv 2) ae (fun _ _=>rfl)) ie (aC _)) (au (aE (aB mT (hr.mono (by decide)) (by rfl) T.AM T.AY T.AN .nil aX (aa (pv 0) (aa (ay (bT K) (pv 2) ae (fun _ _=>rfl)) (aa (pv 1) af)))))) aR)
   (au (aE (aB lj (hr.mono (by decide)) (by rfl) T.yw T.yE T.yx .nil aX (aa (pv 0) (aa (pv 1) (aa (ay (bT K) (pv 2) ae (fun _ _=>rfl)) (aa (ay (bT K) (pv 2) ae (fun _ _=>rfl)) af))))))))),?_⟩
  refine yo ?_;intro cj cM eY;refine(ao rfl (ao rfl ⟨wb,p,ts,S,rfl,hw,g.Ka,?_⟩));rcases q with⟨m,rfl,hm,q⟩|⟨hS,q⟩
  case inr=>exact .inr ⟨hS,q _ (aq.refl _)⟩
  refine .inl ⟨m,rfl,hm,?_⟩;cases x with
  | inl zs =>
    obtain⟨l,hb,hl,_⟩:=hx;refine(ao rfl (bM (aT.of hb) (ai (j:=0) rfl) ⟨rfl,ao rfl (?_)⟩));rw[e7 rfl];exact dm (ao rfl (ao rfl (bM (aT.of hb) (ai (j:=1) rfl) (ao rfl ⟨wb,p,ts,g,l,zs,m,rfl,hw,hl,q⟩))))
  | inr zW =>
    obtain⟨z,W⟩:=zW;obtain⟨c,hb,hW,sq⟩:=hx;refine(ao rfl (bM (aT.of hb) (ai (j:=0) rfl) ⟨rfl,ao rfl (?_)⟩));rw[h8 (by intro z;cases z)]
    exact dS (ao rfl (ao rfl (ao rfl (bM (aT.of hb) (ai (j:=1) rfl) (ao rfl (bM (aT.of hb) (ai (j:=2) rfl) ⟨wb,c,p,ts,g,W,m,z,rfl,hw,hW,sq,hm,q⟩))))))
end
def A4(K:bI):Sp:=fun vs H Q _=>∃(a:Addr) (ns:List Int) (k:Int),vs=[.ref a,.int k]/\0<=k/\aZ K H a (ns.map V.int)/\∀ z,Q (.int z) H
def A8:Sp:=fun vs H Q _=>∃ c k y,vs=[.int c,.int k,.int y]/\∀ z,Q (.int z) H
def Ja:Sp:=fun vs H Q _=>∃(c:Int) (p m:Nat),vs=[.int c,.int (p:Int),.int (m:Int)]/\2<=p/\p<=10/\m<4/\∀ t b H',aq H H'->qU (p:Int) t->H' b=some (.tup (J3 t))->Q (.ref b) H'
def Jb(K:bI):Sp:=fun vs H Q _=>∃(a:Addr) (ns:List Int) (mp mt:Nat),vs=[.ref a,.int (mp:Int),.int (mt:Int)]/\aZ K H a (ns.map V.int)/\ns.length<=63/\1<=mp/\mp<=10/\1<=mt/\mt<=24/\
 ∀ r w p ts z H',aq H H'->aL p ts->p<=mp->ts.length<=mt->bU H' w p ts->H' r=some (.tup [.ref w,.int z])->Q (.ref r) H'
theorem Pd(l:Int){m:Nat}(hm:m<4):∃ v,z7 [V.int (1+l%9),.int 1,.int (1+l%10^(30:Int).toNat),.int (1+l%2)] (m:Int)=some (.int v)/\1<=v/\v<=1000000000000000000000000000000:=by
 have h9:=d8 l 9 (by decide)
 have h30:=d8 l (10^(30:Int).toNat) (by decide)
 have h2:=d8 l 2 (by decide)
 have e:(10:Int)^(30:Int).toNat=1000000000000000000000000000000:=by decide
 match m,hm with
 | 0,_=>exact⟨_,ai (j:=0) rfl,by lia,by lia⟩
 | 1,_=>exact⟨_,ai (j:=1) rfl,by decide,by decide⟩
 | 2,_=>exact⟨_,ai (j:=2) rfl,by lia,by lia⟩
 | 3,_=>exact⟨_,ai (j:=3) rfl,by lia,by lia⟩
section
variable {P:Program}{w:World}{K:bI}{mg:iI}{base:Heap}{a:tH}
theorem dQ(T:Txt K mg a):aP P w K mg base cF 1 a.eR a.fY ["script","k"] (A4 K):=by
 refine T.pW.ok wM (fun vs H Q E h=>?_) (fun cdv A outer s H vs Q E hr h=>?_)
 ·obtain⟨b,ns,k,rfl,_⟩:=h;rfl
 ·obtain⟨b,ns,k,rfl,hk0,hS,q⟩:=h;refine⟨_,(ak (bx (aD vF (pv 1) (aF (fS K) (by rfl) T.cW PySem.boot_len (aa (pv 0) af)) (aC _)) (au (aE (ay (m5 K) (pv 0) (pv 1) (fun _ _=>rfl)))) aR)
   (au (aE ae))),?_⟩
  refine wN ?_;intro cj cM;refine(ao rfl (ao rfl ⟨b,_,rfl,.inl hS,_,_,rfl,rfl,ao rfl (jj (fun hlt=>?_) (fun _=>q 0))⟩))
  have hlt:=mX hlt;rw[List.length_map]at hlt;obtain⟨k,rfl⟩:=Int.eq_ofNat_of_zero_le hk0;exact(ao rfl (ao rfl ⟨b,_,_,_,rfl,rfl,hS,ai (j:=k) (vh (by lia)),q _⟩))
theorem gq(T:Txt K mg a):aP P w K mg base cF 1 a.iC a.kj ["cell","k","way"] A8:=by
 refine T.xq.ok uG (fun vs H Q E h=>?_) (fun cdv A outer s H vs Q E hr h=>?_)
 ·obtain⟨c,k,y,rfl,_⟩:=h;rfl
 ·obtain⟨c,k,y,rfl,q⟩:=h;refine⟨_,(ak (bx (aD cz (pv 2) ae (aC _)) (au (aE (pv 0))) aR)
   (ak (aG (i:=3) uG.nd rfl (Or.inl rfl) (az bz (az qg (az cG (az cG (az bz (pv 0) ae) (az qg ae (pv 1))) ae) ae) ae))
   (au (aE (az bz (az qg (az qg (pv 3) (pv 3)) (az cG (pv 3) ae)) (az cG (az GK ae ae) ae)))))),?_⟩
  refine BU ?_;intro cj cM eY;refine(ao rfl ⟨rfl,ao rfl (jj (fun _=>(ao rfl (q _))) (fun _=>?_))⟩)
  refine(ao rfl (bu ⟨(jW rfl),ao rfl (bu ⟨.inl ⟨by decide,by decide⟩,bu (bu (bu ⟨.inr ⟨by decide,by decide⟩,bu ⟨(jW rfl),?_⟩⟩))⟩)⟩))
  have h1:=d8 ((c%998244353+7919*k+1)*69621) 2147483647 (by decide)
  dsimp only;generalize (c%998244353+7919*k+1)*69621%2147483647=n at h1;exact(ao rfl (ao rfl (bu ⟨.inl ⟨by lia,by lia⟩,ao rfl (bu (bu ⟨.inr ⟨by lia,by lia⟩,bu ⟨⟨by decide,by decide,by decide⟩,bu (bu ⟨(show(0:Int)<10^(18:Int).toNat+9 by decide),q _⟩)⟩⟩))⟩)))
theorem uh(T:Txt K mg a):aP P w K mg base cF 1 a.lQ a.o9 ["left","points","mode"] Ja:=by
 refine T.zB.ok kc (fun vs H Q E h=>?_) (fun cdv A outer s H vs Q E hr h=>?_)
 ·obtain⟨c,p,m,rfl,_⟩:=h;rfl
 ·obtain⟨c,p,m,rfl,T8,G3,hm,q⟩:=h;refine⟨_,(ak (aG (i:=3) kc.nd rfl (Or.inl rfl) (az bz (pv 0) (pv 1)))
   (ak (aG (i:=0) kc.nd rfl (Or.inl rfl) (az cR (pv 0) (pv 1)))
   (ak (aG (i:=4) kc.nd rfl (Or.inl rfl) (az bz (az cG (az cG (pv 3) ae) (az bz (pv 0) (az jS (pv 1) ae))) (pv 1)))
   (ak (aG (i:=0) kc.nd rfl (Or.inl rfl) (az cR (pv 0) (az jS (pv 1) ae)))
   (au (aE (cZ (aa (pv 3) (aa (pv 4) (aa (ay (m5 K) (bQ (aa (az cG ae (az bz (pv 0) ae)) (aa ae (aa (az cG ae (az bz (pv 0) (az GK ae ae))) (aa (az cG ae (az bz (pv 0) ae)) af))))) (pv 2) (fun _ _=>rfl)) af)))))))))),?_⟩
  refine DF ?_;intro cj cM eY gD;have p0:(0:Int)<(p:Int):=by lia
  have p9:(0:Int)<(p:Int)-1:=by lia
  have hd:∀ i,JI i (p:Int):=fun i=>⟨by lia,by lia⟩
  have hd1:∀ i,JI i ((p:Int)-1):=fun i=>⟨by lia,by lia⟩
  refine(ao rfl (ao rfl (bu ⟨p0,?_⟩)));refine(ao rfl (ao rfl (bu ⟨hd _,?_⟩)));refine(ao rfl (bu (ao rfl (ao rfl (bu (bu ⟨p9,_,_,rfl,rfl,ao rfl (bu ⟨p0,?_⟩)⟩))))));refine(ao rfl (ao rfl (bu (bu ⟨hd1 _,?_⟩))));obtain⟨v,hv,v1,v2⟩:=Pd (c/p/(p-1)) hm;refine(ao rfl (ao rfl (ao rfl (bu ⟨(jW rfl),bu (ao rfl (bu ⟨⟨by decide,by decide,by decide⟩,bu ⟨(jW rfl),bu (ao rfl (bu ⟨(jW rfl),bu ⟨dl rfl,fun l hl=>(ao rfl (nq (aZ.of aj) (hv) ⟨dl rfl,fun b hb=>?_⟩))⟩⟩))⟩⟩))⟩))))
  obtain⟨o1,o2,o3⟩:=Hy (p:=p) (o:=c%p) (r:=c/p%(p-1)) (d8 _ _ p0).1 (d8 _ _ p0).2 (d8 _ _ p9).1 (d8 _ _ p9).2;exact q (c%p,(c%p+1+c/p%(p-1))%p,v) b _ ((aq.new hl).trans (aq.new hb)) ⟨(d8 _ _ p0).1,(d8 _ _ p0).2,o1,o2,o3,v1,v2⟩ aj
theorem um(T:Txt K mg a):aP P w K mg base cF 2 a.lR a.pe ["script","most_points","most_ties"] (Jb K):=by
 have dQ:aP P w K mg base cF 1 a.eR a.fY ["script","k"] (A4 K):=dQ T;have gq:aP P w K mg base cF 1 a.iC a.kj ["cell","k","way"] A8:=gq T;have uh:aP P w K mg base cF 1 a.lQ a.o9 ["left","points","mode"] Ja:=uh T;refine T.zC.ok dP (fun vs H Q E h=>?_) (fun cdv A outer s H vs Q E hr h=>?_)
 ·obtain⟨b,ns,mp,mt,rfl,_⟩:=h;rfl
 ·obtain⟨b,ns,mp,mt,rfl,hS,hn,mp1,adq,mt1,ads,q⟩:=h;refine⟨_,(ak (aG (i:=3) dP.nd rfl (Or.inl rfl) (az bz (aB dQ (hr.mono (by decide)) (by rfl) T.kW T.kY T.kX .nil aX (aa (pv 0) (aa ae af))) ae))
   (ak (aG (i:=4) dP.nd rfl (Or.inl rfl) (aB gq (hr.mono (by decide)) (by rfl) T.qy T.qC T.qz .nil aX (aa (az cR (aB dQ (hr.mono (by decide)) (by rfl) T.kW T.kY T.kX .nil aX (aa (pv 0) (aa ae af))) ae) (aa ae (aa (pv 3) af)))))
   (ak (aG (i:=5) dP.nd rfl (Or.inl rfl) (az cG ae (az bz (pv 4) (pv 1))))
   (ak (aG (i:=6) dP.nd rfl (Or.inl rfl) (az bz (az cR (pv 4) (pv 1)) ae))
   (ak (aG (i:=7) dP.nd rfl (Or.inl rfl) (cD (K8 K) (by rfl) T.xw PyProof.Rows.boot_list (aa (gF (slL K) (pv 0) (iK ae) (iK (az cG ae (pv 2)))) af)))
   (ak (dj PassesOwn.never rfl (yK (by rfl) T.bq (aa (az cG ae (pv 2)) (aa (aF (fS K) (by rfl) T.cW PySem.boot_len (aa (pv 0) af)) af))) (aA (i:=8) dP.nd rfl (Or.inl rfl))
   (au (jd (az cG (az qg (ay (m5 K) (pv 7) (az bz (pv 8) (pv 2)) (fun _ _=>rfl)) ae) (ay (m5 K) (pv 0) (pv 8) (fun _ _=>rfl))) (sQ (pv 7) (az bz (pv 8) (pv 2)) set_list))))
   (ak (bx (aD cz (pv 5) ae (aC _)) (au (aG (i:=7) dP.nd rfl (Or.inl rfl) (bQ af))) aR)
   (ak (aG (i:=9) dP.nd rfl (Or.inl rfl) (bQ af))
   (ak (dj PassesOwn.never rfl (aV (by rfl) T.bq (aa (aF (fS K) (by rfl) T.cW PySem.boot_len (aa (pv 7) af)) af)) (aA (i:=8) dP.nd rfl (Or.inl rfl))
   (au (iJ (Nt K (yQ PySem.F.plainAttrs_list PySem.F.slot_list_append PySem.F.type_list_append ik (pv 9) (aa (aB uh (hr.mono (by decide)) (by rfl) T.Ga T.Gn T.Gb .nil aX (aa (aB gq (hr.mono (by decide)) (by rfl) T.qy T.qC T.qz .nil aX (aa (ay (m5 K) (pv 7) (pv 8) (fun _ _=>rfl)) (aa (az cG (pv 8) ae) (aa (pv 3) af)))) (aa (pv 5) (aa (pv 6) af)))) af))))))
   (au (aE (cZ (aa (cZ (aa (pv 5) (aa (cD (yS K) (by rfl) T.pB PyProof.Rows.boot_tuple (aa (pv 9) af)) af))) (aa (az cR (pv 4) (az qg ae (pv 1))) af)))))))))))))),?_⟩
  refine DG ?_;intro cj cM eY gD lu nR nS uI wQ wR lK nU;refine(ao rfl ⟨b,ns,0,rfl,(by decide),hS,fun z=>(bu ⟨(jW rfl),?_⟩)⟩)
  refine(ao rfl ⟨b,ns,0,rfl,(by decide),hS,fun z1=>(bu ⟨⟨by decide,by decide⟩,ao rfl ⟨_,_,_,rfl,fun lf=>?_⟩⟩)⟩)
  refine(ao rfl (ao rfl (bu ⟨(by lia),bu (?_)⟩)))
  obtain⟨p,hp,p1,p2⟩:∃ p:Nat,1+lf%(mp:Int)=(p:Int)/\1<=p/\p<=mp:=by
   obtain⟨h1,h2⟩:=d8 lf (mp:Int) (by lia)
   exact⟨(1+lf%(mp:Int)).toNat,by lia,by lia,by lia⟩
  dsimp only;rw[hp];refine(ao rfl (ao rfl (bu ⟨⟨by lia,by lia⟩,bu ⟨(jW rfl),?_⟩⟩)))
  obtain⟨m,hm,m4⟩:∃ m:Nat,lf/(mp:Int)%4=(m:Int)/\m<4:=by
   obtain⟨h1,h2⟩:=d8 (lf/(mp:Int)) 4 (by decide)
   exact⟨(lf/(mp:Int)%4).toNat,by lia,by lia⟩
  dsimp only;rw[hm];refine(ao rfl (ao rfl (ao rfl (bu (ao rfl ⟨b,_,rfl,hS,fun c hc=>(m6 rfl (.inl (aZ.of aj)) (fun c2 hc2=>?_))⟩)))))
  have Pe:=G9 ns (some 1) (some (1+(mt:Int)));have T9:HT.eU ns.length 0 (some (1:Int))=min 1 ns.length:=HT.vf ns.length 0 1;have Ua:HT.eU ns.length ns.length (some (1+(mt:Int)))=min (1+mt) ns.length:=by
   rw[show(1+(mt:Int))=((1+mt:Nat):Int) from by lia]
   exact HT.vf ns.length ns.length (1+mt)
  have hml:((ns.drop (HT.eU ns.length 0 (some 1))).take (HT.eU ns.length ns.length (some (1+(mt:Int)))-HT.eU ns.length 0 (some 1))).length=min (1+mt) ns.length-min 1 ns.length:=by
   rw[List.length_take,List.length_drop,T9,Ua]
   lia
  generalize (ns.drop (HT.eU ns.length 0 (some 1))).take (HT.eU ns.length ns.length (some (1+(mt:Int)))-HT.eU ns.length 0 (some 1))=ms at Pe hml;rw[Pe]at hc2 ⊢;have s1:aq H (upd (upd H c (.lst (ms.map V.int))) c2 (.lst (ms.map V.int))):=(aq.new hc).trans (aq.new hc2);have hH1:upd (upd H c (.lst (ms.map V.int))) c2 (.lst (ms.map V.int)) c2=some (.lst (ms.map V.int)):=aj;have Ub:H c2=none:=(aq.new hc).free hc2;generalize upd (upd H c (.lst (ms.map V.int))) c2 (.lst (ms.map V.int))=H1 at s1 hH1;refine(ao rfl (bu (ao rfl ⟨b,_,rfl,.inl (s1.seq hS),_,_,rfl,⟨by lia,by lia,by rw[List.length_map];lia,by rw[List.length_map];lia⟩,?_⟩)))
  have hnl:(ns.map V.int).length=ns.length:=List.length_map ..;refine cP (lo:=1+(mt:Int)) (n:=_) (fun i σ H2=>∃ v8,σ=[some (.ref b),some (.int (mp:Int)),some (.int (mt:Int)),some (.int (z%2)),some (.int lf),some (.int (p:Int)),some (.int (m:Int)),some (.ref c2),v8,none]/\aq H H2/\∃ ms',H2 c2=some (.lst (ms'.map V.int))/\ms'.length=ms.length) ⟨none,rfl,s1,ms,hH1,rfl⟩ ?_ ?_
  ·rintro i D' σ H2 hi ⟨v8,rfl,s2,ms',h2,hl2⟩;rw[hnl]at hi;obtain⟨j,hj,hjm⟩:∃ j:Nat,(1+(mt:Int)+(i:Int))%(mt:Int)=(j:Int)/\j<mt:=by
    obtain⟨h1,h2⟩:=d8 (1+(mt:Int)+(i:Int)) (mt:Int) (by lia)
    exact⟨((1+(mt:Int)+(i:Int))%(mt:Int)).toNat,by lia,by lia⟩
   have hjl:j<ms'.length:=by lia
   refine(ao rfl (ao rfl (ao rfl (bu ⟨(by lia),nq (aZ.of h2) ((by rw[hj];exact ai (vh hjl))) (bu ⟨.inr ⟨by decide,by decide⟩,ao rfl (ao rfl ⟨b,_,_,_,rfl,rfl,s2.seq hS,(by rw[show(1+(mt:Int)+(i:Int))=((1+mt+i:Nat):Int) from by lia];exact ai (vh (by lia))),bu (?_)⟩)⟩)⟩))))
   refine(ao rfl (ao rfl (ao rfl (bu ⟨(by lia),c2,_,_,j,rfl,rfl,h2,(by rw[hj,List.length_map];exact kB hjl),?_⟩))))
   refine(ao rfl ⟨s2.put Ub,ms'.set j (ms'.getD j 0*31+ns.getD (1+mt+i) 0),?_,by rw[List.length_set,hl2]⟩)
   rw[aj,List.map_set]
  ·rintro σ H2 ⟨v8,rfl,s2,ms',h2,hl2⟩;have fin:∀(n:Nat) (H1:Hp) (D:Addr) (H2:Hp),aq H H1->vS (p:Int) H1 D n H2->n<=mt->∃ acc,H2 D=some (.lst acc)/\∀ l',H2 l' = none->([V.int (p:Int),.ref l']:List V).length<=sizeLine/\∀ w',upd H2 l' (.tup acc) w' = none->∀ zz r,upd (upd H2 l' (.tup acc)) w' (.tup [.int (p:Int),.ref l']) r=none->Q (.ref r) (upd (upd (upd H2 l' (.tup acc)) w' (.tup [.int (p:Int),.ref l'])) r (.tup [.ref w',.int zz])):=by
    intro n H1 D H2 s1 ht hnm;obtain⟨acc,ts,hd,hl,gt,z⟩:=ht.fin;refine⟨acc,hd,fun l' hl'=>⟨dl rfl,fun w' hw zz r hr=>?_⟩⟩
    obtain⟨z1,z2⟩:=z l' hl' w' hw;exact q r w' p ts zz _ ((s1.trans z1).trans (aq.new hr)) ⟨p1,by lia,by lia,gt⟩ p2 (by lia) (z2.same (aq.new hr)) aj
   refine(ao rfl ⟨rfl,ao rfl (?_)⟩)
   by_cases T8:p=1
   case' pos =>
    refine sU (by rw[T8];rfl) ⟨dl rfl,fun cc hcc=>?_⟩
    have s3:aq H (upd H2 cc (.lst [])):=s2.trans (aq.new hcc);have h3:upd H2 cc (.lst []) cc=some (.lst (([]:List Int).map V.int)):=aj;have hx:([]:List Int).length<=mt/\(([]:List Int).length≠0->2<=p):=⟨Nat.zero_le _,fun z=>absurd rfl z⟩
    generalize upd H2 cc (.lst [])=H3 at s3 h3;generalize ([]:List Int)=mx at h3 hx
   case' neg =>
    refine nj (fun z=>T8 (by have:=V.int.inj z;lia)) ?_
    have s3:=s2;have h3:=h2;have hx:ms'.length<=mt/\(ms'.length≠0->2<=p):=⟨by lia,fun _=>by lia⟩
    generalize H2=H3 at s3 h3;generalize ms' = mx at h3 hx;generalize c2=cc at h3
   all_goals (
    refine⟨dl rfl,fun D hD=>?_⟩
    have t0:vS (p:Int) H3 D 0 (upd H3 D (.lst [])):=vS.start hD;have h4:=t0.1 _ _ h3;generalize upd H3 D (.lst [])=H4 at t0 h4;refine(ao rfl (m6 rfl (.inl (aZ.of h4)) (ao rfl ⟨(by rw[List.length_map];lia),(by rw[List.length_map];lia),?_⟩)))
    refine cP (lo:=0) (n:=(((mx.map V.int).length:Nat):Int).toNat) (fun i σ H5=>∃ v8,σ=[some (.ref b),some (.int (mp:Int)),some (.int (mt:Int)),some (.int (z%2)),some (.int lf),some (.int (p:Int)),some (.int (m:Int)),some (.ref cc),v8,some (.ref D)]/\vS (p:Int) H3 D i H5) (ao rfl (t0)) ?_ ?_
    ·rintro i D' σ H5 hi ⟨v8,rfl,t5⟩;rw[Int.toNat_natCast,List.length_map]at hi;rw[Int.zero_add];have Uc:2<=p:=hx.2 (by lia)
     have xC:∃ acc,H5 D=some (.lst acc):=let⟨_,acc,_,z,_⟩:=t5;⟨acc,z⟩;obtain⟨adt,xC⟩:=xC;refine(ao rfl ⟨.inl ⟨rfl,_,aZ.of xC⟩,ao rfl (ao rfl (nq (aZ.of (t5.1 _ _ h3)) (ai (j:=i) (vh hi)) (ao rfl (bu (ao rfl ⟨_,_,_,rfl,fun zl=>?_⟩)))))⟩)
     refine(ao rfl (ao rfl ⟨zl,p,m,rfl,Uc,by lia,m4,fun t bb H6 s6 gt hb=>?_⟩))
     obtain⟨acc,T4,hac,t7⟩:=t5.push hD s6 gt hb;exact⟨D,acc,_,rfl,rfl,T4,mw (by lia),ao rfl (t7)⟩
    ·rintro σ H5 ⟨v8,rfl,t5⟩;rw[Int.toNat_natCast,List.length_map]at t5;obtain⟨acc,xC,zf⟩:=fin _ H3 D H5 s3 t5 hx.1;refine(ao rfl (ao rfl ⟨D,acc,rfl,.inl ⟨aZ.of xC,fun l' hl'=>⟨(zf l' hl').1,fun w' hw'=>?_⟩⟩⟩))
     exact(ao rfl (ao rfl (bu ⟨.inl ⟨by decide,by decide⟩,bu ⟨⟨by show(0:Int)<4*(mp:Int);lia,by show 4*(mp:Int)<_;lia⟩,dl rfl,fun r hr=>(zf l' hl').2 w' hw' _ r hr⟩⟩))))
end
structure EL(K:bI)(a:tH)(C:Addr)(j:Nat):Prop where
 lt:j<12
 e:vN K C
 q0:PySem.W.kitOne K (.ref C) (.ref a.wY)=some (decide (0=j))
 q1:PySem.W.kitOne K (.ref C) (.ref a.aJ)=some (decide (1=j))
 q2:PySem.W.kitOne K (.ref C) (.ref a.qx)=some (decide (2=j))
 q3:PySem.W.kitOne K (.ref C) (.ref a.tI)=some (decide (3=j))
 q4:PySem.W.kitOne K (.ref C) (.ref a.tJ)=some (decide (4=j))
 q5:PySem.W.kitOne K (.ref C) (.ref a.wZ)=some (decide (5=j))
 q6:PySem.W.kitOne K (.ref C) (.ref a.w4)=some (decide (6=j))
 q7:PySem.W.kitOne K (.ref C) (.ref a.tK)=some (decide (7=j))
 q8:PySem.W.kitOne K (.ref C) (.ref a.w5)=some (decide (8=j))
 q9:PySem.W.kitOne K (.ref C) (.ref a.w6)=some (decide (9=j))
 q10:PySem.W.kitOne K (.ref C) (.ref a.tL)=some (decide (10=j))
 q11:PySem.W.kitOne K (.ref C) (.ref a.xg)=some (decide (11=j))
 qV:PySem.W.kitOne K (.ref C) (.type "ValueError")=some true
def A9(K:bI)(a:tH)(ea:Addr):Sp:=fun vs H Q _=>vs=[.ref ea]/\∃ C j,H ea=some (vM ea (.ref C))/\EL K a C j/\∀ D H',H D=none->aq H H'->H' D=some (.lst [.int (j:Int),.int 1])->Q (.ref D) H'
theorem DT{j:Nat}(h:j<12):(List.range 12).filter (fun k=>decide (k=j))=[j]:=by
 match j,h with
 | 0,_ | 1,_ | 2,_ | 3,_ | 4,_ | 5,_ | 6,_ | 7,_ | 8,_ | 9,_ | 10,_ | 11,_=>decide
 | n+12,h=>lia
theorem Gu{j i:Nat}(h:i<12):([.bl (decide (0=j)),.bl (decide (1=j)),.bl (decide (2=j)),.bl (decide (3=j)),.bl (decide (4=j)),.bl (decide (5=j)),.bl (decide (6=j)),.bl (decide (7=j)),.bl (decide (8=j)),.bl (decide (9=j)),.bl (decide (10=j)),.bl (decide (11=j))]:List V)[i]?=some (.bl (decide (i=j))):=by
 match i,h with
 | 0,_ | 1,_ | 2,_ | 3,_ | 4,_ | 5,_ | 6,_ | 7,_ | 8,_ | 9,_ | 10,_ | 11,_=>rfl
 | n+12,h=>lia
section
variable {P:Program}{w:World}{K:bI}{mg:iI}{base:Heap}{a:tH}
theorem oJ(T:Txt K mg a)(ea:Addr):QX ea P w K mg base 1 a.kF a.oj ["e"] (A9 K a ea):=by
 refine T.uQ.okH gQ (fun vs H Q E h=>?_) (fun cdv A outer s H vs Q E hr h=>?_)
 ·obtain⟨rfl,_⟩:=h;rfl
 ·obtain⟨rfl,C,j,hx,kk,q⟩:=h;refine⟨_,(ak (aG (i:=1) gQ.nd rfl (Or.inl rfl) (bQ (aa (aF (sW K) (by rfl) T.bC PyProof.Rows.boot_isinstance (aa (pv 0) (aa (jg (by rfl) T.II) af))) (aa (aF (sW K) (by rfl) T.bC PyProof.Rows.boot_isinstance (aa (pv 0) (aa (jg (by rfl) T.IJ) af))) (aa (aF (sW K) (by rfl) T.bC PyProof.Rows.boot_isinstance (aa (pv 0) (aa (jg (by rfl) T.DP) af))) (aa (aF (sW K) (by rfl) T.bC PyProof.Rows.boot_isinstance (aa (pv 0) (aa (jg (by rfl) T.Gf) af))) af))))))
   (ak (aG (i:=2) gQ.nd rfl (Or.inl rfl) (bQ (aa (aF (sW K) (by rfl) T.bC PyProof.Rows.boot_isinstance (aa (pv 0) (aa (jg (by rfl) T.Gg) af))) (aa (aF (sW K) (by rfl) T.bC PyProof.Rows.boot_isinstance (aa (pv 0) (aa (jg (by rfl) T.IK) af))) (aa (aF (sW K) (by rfl) T.bC PyProof.Rows.boot_isinstance (aa (pv 0) (aa (jg (by rfl) T.IL) af))) (aa (aF (sW K) (by rfl) T.bC PyProof.Rows.boot_isinstance (aa (pv 0) (aa (jg (by rfl) T.Gh) af))) af))))))
   (ak (aG (i:=3) gQ.nd rfl (Or.inl rfl) (bQ (aa (aF (sW K) (by rfl) T.bC PyProof.Rows.boot_isinstance (aa (pv 0) (aa (jg (by rfl) T.IM) af))) (aa (aF (sW K) (by rfl) T.bC PyProof.Rows.boot_isinstance (aa (pv 0) (aa (jg (by rfl) T.IP) af))) (aa (aF (sW K) (by rfl) T.bC PyProof.Rows.boot_isinstance (aa (pv 0) (aa (jg (by rfl) T.Gi) af))) (aa (aF (sW K) (by rfl) T.bC PyProof.Rows.boot_isinstance (aa (pv 0) (aa (jg (by rfl) T.IQ) af))) af))))))
   (ak (aG (i:=4) gQ.nd rfl (Or.inr rfl) (az (CU K) (az (CU K) (pv 1) (pv 2)) (pv 3)))
   (au (aE (az (CU K) (GZ (own:=["k"]) (fq:=["heard"]) (js:=[4]) (aN (ah fj) ["e","first","more","last","heard"]) (Fc (C:=.ref C) hr.hd rfl (by rfl) T.bq (aa ae af)) (fun _ _ _ _=>(aA (i:=0) (show(["k","heard"]:List Str).Nodup by decide +kernel) rfl (Or.inl rfl))) (fun _ _ _ _=>(di (gk (ay (m5 K) (pv 1) (pv 0) (fun _ _=>rfl))))) (fun _ _ _ _=>(pv 0))) (bQ (aa (cD EY (by rfl) T.O3 PyProof.Rows.boot_int (aa (aF (sW K) (by rfl) T.bC PyProof.Rows.boot_isinstance (aa (pv 0) (aa (K9 (T:="ValueError") (by rfl) T.AW (by decide +kernel)) af))) af)) af))))))))),?_⟩
  refine AH ?_;intro cj cM eY gD;refine(ao rfl ⟨ea,_,C,_,_,rfl,rfl,hx,kk.e,kk.q0,_,rfl,ea,_,C,_,_,rfl,rfl,hx,kk.e,kk.q1,_,rfl,ea,_,C,_,_,rfl,rfl,hx,kk.e,kk.q2,_,rfl,ea,_,C,_,_,rfl,rfl,hx,kk.e,kk.q3,dl rfl,fun l1 h1=>?_⟩)
  have s1:aq H (upd H l1 (.lst [.bl (decide (0=j)),.bl (decide (1=j)),.bl (decide (2=j)),.bl (decide (3=j))])):=aq.new h1;have g1:upd H l1 (.lst [.bl (decide (0=j)),.bl (decide (1=j)),.bl (decide (2=j)),.bl (decide (3=j))]) l1=some (.lst [.bl (decide (0=j)),.bl (decide (1=j)),.bl (decide (2=j)),.bl (decide (3=j))]):=aj;generalize upd H l1 (.lst [.bl (decide (0=j)),.bl (decide (1=j)),.bl (decide (2=j)),.bl (decide (3=j))])=H1 at s1 g1;refine(ao rfl ⟨ea,_,C,_,_,rfl,rfl,(s1 _ _ hx),kk.e,kk.q4,_,rfl,ea,_,C,_,_,rfl,rfl,(s1 _ _ hx),kk.e,kk.q5,_,rfl,ea,_,C,_,_,rfl,rfl,(s1 _ _ hx),kk.e,kk.q6,_,rfl,ea,_,C,_,_,rfl,rfl,(s1 _ _ hx),kk.e,kk.q7,dl rfl,fun l2 h2=>?_⟩)
  have s2:aq H (upd H1 l2 (.lst [.bl (decide (4=j)),.bl (decide (5=j)),.bl (decide (6=j)),.bl (decide (7=j))])):=s1.trans (aq.new h2);have g12:=aq.new (o:=.lst [.bl (decide (4=j)),.bl (decide (5=j)),.bl (decide (6=j)),.bl (decide (7=j))]) h2 _ _ g1;have g2:upd H1 l2 (.lst [.bl (decide (4=j)),.bl (decide (5=j)),.bl (decide (6=j)),.bl (decide (7=j))]) l2=some (.lst [.bl (decide (4=j)),.bl (decide (5=j)),.bl (decide (6=j)),.bl (decide (7=j))]):=aj;generalize upd H1 l2 (.lst [.bl (decide (4=j)),.bl (decide (5=j)),.bl (decide (6=j)),.bl (decide (7=j))])=H2 at s2 g2 g12;refine(ao rfl ⟨ea,_,C,_,_,rfl,rfl,(s2 _ _ hx),kk.e,kk.q8,_,rfl,ea,_,C,_,_,rfl,rfl,(s2 _ _ hx),kk.e,kk.q9,_,rfl,ea,_,C,_,_,rfl,rfl,(s2 _ _ hx),kk.e,kk.q10,_,rfl,ea,_,C,_,_,rfl,rfl,(s2 _ _ hx),kk.e,kk.q11,dl rfl,fun l3 h3=>?_⟩)
  have s3:aq H (upd H2 l3 (.lst [.bl (decide (8=j)),.bl (decide (9=j)),.bl (decide (10=j)),.bl (decide (11=j))])):=s2.trans (aq.new h3);have g13:=aq.new (o:=.lst [.bl (decide (8=j)),.bl (decide (9=j)),.bl (decide (10=j)),.bl (decide (11=j))]) h3 _ _ g12;have g23:=aq.new (o:=.lst [.bl (decide (8=j)),.bl (decide (9=j)),.bl (decide (10=j)),.bl (decide (11=j))]) h3 _ _ g2;have g3:upd H2 l3 (.lst [.bl (decide (8=j)),.bl (decide (9=j)),.bl (decide (10=j)),.bl (decide (11=j))]) l3=some (.lst [.bl (decide (8=j)),.bl (decide (9=j)),.bl (decide (10=j)),.bl (decide (11=j))]):=aj;generalize upd H2 l3 (.lst [.bl (decide (8=j)),.bl (decide (9=j)),.bl (decide (10=j)),.bl (decide (11=j))])=H3 at s3 g3 g13 g23;refine(ao rfl (ao rfl ⟨l1,l2,_,_,rfl,rfl,aZ.of g13,aZ.of g23,dl rfl,fun l4 h4=>(ao rfl ⟨l4,l3,_,_,rfl,rfl,aZ.of aj,aZ.of (aq.new h4 _ _ g3),dl rfl,fun l5 h5=>?_⟩)⟩))
  have s5:aq H (upd (upd H3 l4 (.lst ([.bl (decide (0=j)),.bl (decide (1=j)),.bl (decide (2=j)),.bl (decide (3=j))]++[.bl (decide (4=j)),.bl (decide (5=j)),.bl (decide (6=j)),.bl (decide (7=j))]))) l5 (.lst ([.bl (decide (0=j)),.bl (decide (1=j)),.bl (decide (2=j)),.bl (decide (3=j))]++[.bl (decide (4=j)),.bl (decide (5=j)),.bl (decide (6=j)),.bl (decide (7=j))]++[.bl (decide (8=j)),.bl (decide (9=j)),.bl (decide (10=j)),.bl (decide (11=j))]))):=(s3.trans (aq.new h4)).trans (aq.new h5);have g5:upd (upd H3 l4 (.lst ([.bl (decide (0=j)),.bl (decide (1=j)),.bl (decide (2=j)),.bl (decide (3=j))]++[.bl (decide (4=j)),.bl (decide (5=j)),.bl (decide (6=j)),.bl (decide (7=j))]))) l5 (.lst ([.bl (decide (0=j)),.bl (decide (1=j)),.bl (decide (2=j)),.bl (decide (3=j))]++[.bl (decide (4=j)),.bl (decide (5=j)),.bl (decide (6=j)),.bl (decide (7=j))]++[.bl (decide (8=j)),.bl (decide (9=j)),.bl (decide (10=j)),.bl (decide (11=j))])) l5=some (.lst [.bl (decide (0=j)),.bl (decide (1=j)),.bl (decide (2=j)),.bl (decide (3=j)),.bl (decide (4=j)),.bl (decide (5=j)),.bl (decide (6=j)),.bl (decide (7=j)),.bl (decide (8=j)),.bl (decide (9=j)),.bl (decide (10=j)),.bl (decide (11=j))]):=aj;generalize upd (upd H3 l4 (.lst ([.bl (decide (0=j)),.bl (decide (1=j)),.bl (decide (2=j)),.bl (decide (3=j))]++[.bl (decide (4=j)),.bl (decide (5=j)),.bl (decide (6=j)),.bl (decide (7=j))]))) l5 (.lst ([.bl (decide (0=j)),.bl (decide (1=j)),.bl (decide (2=j)),.bl (decide (3=j))]++[.bl (decide (4=j)),.bl (decide (5=j)),.bl (decide (6=j)),.bl (decide (7=j))]++[.bl (decide (8=j)),.bl (decide (9=j)),.bl (decide (10=j)),.bl (decide (11=j))]))=H5 at s5 g5;refine(ao rfl ⟨by decide,by decide,fun D hD=>Bt (lo:=0) (m:=12) (lC (fun k=>decide (k=j)) H5 D) (.start hD) (fun i acc H4 _ p=>p.len) (dl rfl) ?_ ?_⟩)
  ·intro i acc H4 hi p;rw[Int.zero_add];refine⟨rfl,ao rfl (ao rfl (nq (aZ.of (p.1 _ _ g5)) (ai (j:=i) (Gu hi)) (ao rfl (?_))))⟩;cases hb:decide (i=j) with
   | true=>exact(ao rfl (p.yes hD (aq.refl _) hb))
   | false=>exact p.no (aq.refl _) hb
  ·intro acc H4 p;refine⟨p.1 _ _ (s5 _ _ hx),?_⟩;have Gq:H4 D=some (.lst [.int (j:Int)]):=by
    rw[p.2.1,p.2.2,DT kk.lt];rfl
   refine(ao rfl ⟨ea,_,C,_,_,rfl,rfl,p.1 _ _ (s5 _ _ hx),kk.e,kk.qV,.inr (ao rfl ⟨dl rfl,fun l6 h6=>⟨D,l6,_,_,rfl,rfl,aZ.of (aq.new h6 _ _ Gq),aZ.of aj,dl rfl,fun l7 h7=>?_⟩⟩)⟩)
   have s7:=(s5.trans p.1).trans (aq.new (o:=.lst [.int 1]) h6);exact q l7 _ (s7.free h7) (s7.trans (aq.new h7)) aj
end
section
variable {K:bI}{mg:iI}{a:tH}
theorem Ba(T:Txt K mg a):EL K a a.aJ 1:=⟨by decide,T.IT,T.q_BadSet_BadWeb,T.q_BadSet_BadSet,T.q_BadSet_BadPoint,T.q_BadSet_NotRing,T.q_BadSet_NoChord,T.q_BadSet_NoBase,T.q_BadSet_NoSuch,T.q_BadSet_TooMany,T.q_BadSet_BadRow,T.q_BadSet_NoDeed,T.q_BadSet_NotEven,T.q_BadSet_NoText,T.Gj⟩
end
theorem Gv{p:Nat}{ts:List dU}{g:aL p ts}{m x:Nat}(hm:m<2^ts.length):(aS (m:Int)).filter (fun t=>decide (g.N.a t=x\/g.N.b t=x))=g.N.bK m x:=by
 rw[gK hm,List.filter_filter];unfold RM.Net.bK;refine List.filter_congr fun k _=>?_
 rw[Bool.and_comm,Bool.decide_or]
theorem M3(x u v:Nat):JQ (.int (x:Int)) [.int (u:Int),.int (v:Int)]=decide (u=x\/v=x):=by
 have e:([.int (u:Int),.int (v:Int)]:List V)=bf [u,v]:=rfl;rw[e,nM];refine decide_eq_decide.mpr ?_;simp[eq_comm]
theorem EM(u v z:V):pG [u,v,z] none (some 2)=[u,v]:=rfl
def kL:Sp:=fun vs H Q _=>∃ w p ts,∃ g:aL p ts,∃ S,∃ m:Nat,vs=[.ref w,.int S]/\S=(m:Int)/\bU H w p ts/\m<2^ts.length/\
 (g.N.Ring m->∀ D H' t0 acc v,H D=none->aq H H'->m.testBit t0=true->(aS (m:Int))[0]?=some t0->RM.Wk g.N m t0 acc v 0->WalkAt H' D acc->Q (.ref D) H')/\(¬ g.N.Ring m->∀ H',aq H H'->Q .eS H')
theorem M4(l:List V)(v:V):z7 (l++[v]) (-1)=some v:=by
 unfold z7 Jo;have hl:(l++[v]).length=l.length+1:=by rw[List.length_append];rfl
 rw[if_neg (by decide),hl,if_pos (by lia)]
 have e:((-1:Int)+((l.length+1:Nat):Int)).toNat=l.length:=by lia
 show(l++[v])[((-1:Int)+((l.length+1:Nat):Int)).toNat]?=_;rw[e,List.getElem?_append_right (Nat.le_refl _)];simp
theorem u0{α β:Type}{F:α->β->Prop}{y:β}:∀{l:List α} {r:List β},Paired F l (r++[y])->∃ l' x,l=l'++[x]/\F x y
 | _,[],.cons h .nil=>⟨[],_,rfl,h⟩
 | _,_::r,.cons _ h=>by
   obtain⟨l',x,e,hx⟩:=u0 (r:=r) h;exact⟨_::l',x,by rw[e];rfl,hx⟩
theorem Gw{p:Nat}{ts:List dU}{g:aL p ts}{l:List Nat}{i k:Nat}(hk:l[i]?=some k)(nH:k<ts.length):
 (fun j=>if j=g.N.b k then(if j=g.N.a k then(l.take i).filter (fun t=>decide (g.N.a t=j\/g.N.b t=j))++[k] else(l.take i).filter (fun t=>decide (g.N.a t=j\/g.N.b t=j)))++[k]
  else(if j=g.N.a k then(l.take i).filter (fun t=>decide (g.N.a t=j\/g.N.b t=j))++[k] else(l.take i).filter (fun t=>decide (g.N.a t=j\/g.N.b t=j)))) =
 fun j=>(l.take (i+1)).filter (fun t=>decide (g.N.a t=j\/g.N.b t=j)):=by
 funext j
 have ne:=g.N.ne k nH;rw[List.take_add_one,hk,List.filter_append]
 by_cases e1:j=g.N.b k
 ·have e2 : ¬ j=g.N.a k:=fun z=>ne (z.symm.trans e1)
  rw[if_pos e1,if_neg e2]
  congr 1
  show[k]=[k].filter _;rw[List.filter_cons,if_pos (e7 (.inr e1.symm))];rfl
 ·rw[if_neg e1]
  by_cases e2:j=g.N.a k
  ·rw[if_pos e2]
   congr 1
   show[k]=[k].filter _;rw[List.filter_cons,if_pos (e7 (.inl e2.symm))];rfl
  ·rw[if_neg e2];have:(some k).toList.filter (fun t=>decide (g.N.a t=j\/g.N.b t=j))=[]:=by
    show[k].filter _=_;rw[List.filter_cons,if_neg (by rw[decide_eq_true_eq];exact fun z=>z.elim (fun z=>e2 z.symm) (fun z=>e1 z.symm))]
    rfl
   rw[this,List.append_nil]
section
variable {P:Program}{w:World}{K:bI}{mg:iI}{base:Heap}{a:tH}
theorem eF(T:Txt K mg a):aP P w K mg base cF 1 a.gp a.iD ["web","some"] kL:=by
 refine T.xr.ok cU (fun vs H Q E h=>?_) (fun cdv A outer s H vs Q E hr h=>?_)
 ·obtain⟨w,p,ts,g,S,m,rfl,_⟩:=h;rfl
 ·obtain⟨wb,p,ts,g,S,m,rfl,rfl,hw,hm,q1,q2⟩:=h;refine⟨_,(ak (gJ (i:=2) cU.nd rfl rfl (own:=["point"]) (fq:=[]) (js:=[]) (aN (ah ef) ["web","some","ends","ties","k","start","at","walk","tie"]) rfl (aV (by rfl) T.bq (aa (ay (bT K) (pv 0) ae (fun _ _=>rfl)) af)) (fun _ _ _ _=>(aA (i:=0) (show(["point"]:List Str).Nodup by decide +kernel) rfl (Or.inl rfl))) (fun _ _ _ _=>gI) (fun _ _ _ _=>(bQ af)))
   (ak (gJ (i:=3) cU.nd rfl rfl (own:=["k"]) (fq:=["some"]) (js:=[1]) (aN (ah ef) ["web","some","ends","ties","k","start","at","walk","tie"]) rfl (aV (by rfl) T.bq (aa (aF (fS K) (by rfl) T.cW PySem.boot_len (aa (ay (bT K) (pv 0) ae (fun _ _=>rfl)) af)) af)) (fun _ _ _ _=>(aA (i:=0) (show(["k","some"]:List Str).Nodup by decide +kernel) rfl (Or.inl rfl))) (fun _ _ _ _=>(di (aD cz (az kP (az qh (pv 1) (pv 0)) ae) ae (aC _)))) (fun _ _ _ _=>(pv 0)))
   (ak (dj PassesOwn.never rfl (yb K (pv 3)) (aA (i:=4) cU.nd rfl (Or.inl rfl))
   (ak (iJ (Nt K (yQ PySem.F.plainAttrs_list PySem.F.slot_list_append PySem.F.type_list_append ik (ay (m5 K) (pv 2) (ay (bT K) (ay (bT K) (ay (bT K) (pv 0) ae (fun _ _=>rfl)) (pv 4) (fun _ _=>rfl)) ae (fun _ _=>rfl)) (fun _ _=>rfl)) (aa (pv 4) af))))
   (au (iJ (Nt K (yQ PySem.F.plainAttrs_list PySem.F.slot_list_append PySem.F.type_list_append ik (ay (m5 K) (pv 2) (ay (bT K) (ay (bT K) (ay (bT K) (pv 0) ae (fun _ _=>rfl)) (pv 4) (fun _ _=>rfl)) ae (fun _ _=>rfl)) (fun _ _=>rfl)) (aa (pv 4) af)))))))
   (ak (bx (PW.pt (mY (aD (CQ K hr.units) (pv 3) (bQ af) (aC _)) (jc (aD Eb (aF (fS K) (by rfl) T.cW PySem.boot_len (aa (dB (own:=["row"]) (fq:=[]) (js:=[]) (aN (ah ef) ["web","some","ends","ties","k","start","at","walk","tie"]) rfl (yb K (pv 2)) (fun _ _ _ _=>(aA (i:=0) (show(["row"]:List Str).Nodup by decide +kernel) rfl (Or.inl rfl))) (fun _ _ _ _=>(di (aD (Hg K) (aF (fS K) (by rfl) T.cW PySem.boot_len (aa (pv 0) af)) (cZ (aa ae (aa ae af))) (by with_unfolding_all rfl)))) (fun _ _ _ _=>(pv 0))) af)) ae (aC _))))) (au (aE cu)) aR)
   (ak (jd (gF (CY) (ay (bT K) (ay (bT K) (pv 0) ae (fun _ _=>rfl)) (ay (m5 K) (pv 3) ae (fun _ _=>rfl)) (fun _ _=>rfl)) kA (iK ae)) (Gy K (n:=2) rfl (bh (aA (i:=5) cU.nd rfl (Or.inl rfl)) (bh (aA (i:=6) cU.nd rfl (Or.inl rfl)) gf))))
   (ak (aG (i:=7) cU.nd rfl (Or.inl rfl) (bQ (aa (cZ (aa (ay (m5 K) (pv 3) ae (fun _ _=>rfl)) (aa ae af))) af)))
   (ak (Bg PassesOwn.never (aD qL (pv 6) (pv 5) (aC _)) (ak (aG (i:=8) cU.nd rfl (Or.inl rfl) (az jS (aF (sumK K rfl) (by rfl) T.IG PyProof.Rows.boot_sum (aa (ay (m5 K) (pv 2) (pv 6) (fun _ _=>rfl)) af)) (ay (bT K) (ay (m5 K) (pv 7) (uw nE ae) (fun _ _=>rfl)) ae (fun _ _=>rfl))))
   (au (bx (aD cz (ay (bT K) (ay (bT K) (ay (bT K) (pv 0) ae (fun _ _=>rfl)) (pv 8) (fun _ _=>rfl)) ae (fun _ _=>rfl)) (pv 6) (aC _)) (ak (iJ (Nt K (yQ PySem.F.plainAttrs_list PySem.F.slot_list_append PySem.F.type_list_append ik (pv 7) (aa (cZ (aa (pv 8) (aa ae af))) af))))
   (au (aG (i:=6) cU.nd rfl (Or.inl rfl) (ay (bT K) (ay (bT K) (ay (bT K) (pv 0) ae (fun _ _=>rfl)) (pv 8) (fun _ _=>rfl)) ae (fun _ _=>rfl))))) (ak (iJ (Nt K (yQ PySem.F.plainAttrs_list PySem.F.slot_list_append PySem.F.type_list_append ik (pv 7) (aa (cZ (aa (pv 8) (aa (uw nE ae) af))) af))))
   (au (aG (i:=6) cU.nd rfl (Or.inl rfl) (ay (bT K) (ay (bT K) (ay (bT K) (pv 0) ae (fun _ _=>rfl)) (pv 8) (fun _ _=>rfl)) ae (fun _ _=>rfl)))))))))
   (ak (bx (aD qL (aF (fS K) (by rfl) T.cW PySem.boot_len (aa (pv 7) af)) (aF (fS K) (by rfl) T.cW PySem.boot_len (aa (pv 3) af)) (aC _)) (au (aE cu)) aR)
   (au (aE (pv 7))))))))))),?_⟩
  refine BV ?_;intro cj cM eY gD lu nR nS uI wQ wR lK nU rR rS u9 wU BZ B0;obtain⟨bt,xs,h1,h2,h3⟩:=id hw.ex;have qJ:=h3.length;have wl:=g.len;have wp:=g.p2;refine(ao rfl (bM (aT.of h1) (ai (j:=0) rfl) (ao rfl ⟨(by lia),(by lia),fun E hE=>bY (lo:=0) (m:=p) (uF H E) (.start hE) (fun i acc H2 _ f=>f.len) (dD (by lia)) ?_ ?_⟩)))
  ·intro i acc H2 hi f;exact⟨rfl,dl rfl,fun b hb=>f.next hb⟩
  intro acc H1 f;obtain⟨es,rfl,hel,R1⟩:=f;refine(ao rfl (bM (aT.of (R1.same _ _ h1)) (ai (j:=1) rfl) (m6 rfl (.inr (aT.of (R1.same _ _ h2))) (ao rfl ⟨(by lia),(by lia),fun L hL=>bY (lo:=0) (m:=xs.length) (lC (bit (m:Int)) H1 L) (.start hL) (fun i acc H2 _ p=>p.len) (dD (by lia)) ?_ ?_⟩))))
  ·intro i acc H2 hi pk;rw[Int.zero_add];refine⟨rfl,ao rfl (ao rfl (bu ⟨(by lia),bu ⟨rfl,ao rfl (?_)⟩⟩))⟩
   rw[Int.toNat_natCast,CZ];cases hb:bit (m:Int) i with
   | true=>exact(ao rfl (pk.yes hL (aq.refl _) hb))
   | false=>exact pk.no (aq.refl _) hb
  intro acc H2 pk;have hL2:H2 L=some (.lst (bf (aS (m:Int)))):=by
   rw[pk.2.1,pk.2.2,gK hm,qJ];show some (HO.lst (bf ((List.range ts.length).filter (bit (m:Int)))))=_;rw[show bit (m:Int)=fun k=>m.testBit k from funext fun k=>jk m k]
  have R2:=R1.go pk.1;have hLH:H L=none:=R1.same.free hL;have KP:L∉es:=fun z=>by
   obtain⟨j,hj⟩:=List.getElem?_of_mem z;have:=R1.at_ j L hj;rw[hL]at this;cases this
  refine(ao rfl ⟨L,rfl,⟨_,aZ.of hL2⟩,ir (K:=K) (a:=L) (xs:=bf (aS (m:Int))) (fun i σ H3=>∃ v4,σ=[some (.ref wb),some (.int (m:Int)),some (.ref E),some (.ref L),v4,none,none,none,none]/\Rows H E es (fun x=>((aS (m:Int)).take i).filter (fun t=>decide (g.N.a t=x\/g.N.b t=x))) H3/\H3 L=some (.lst (bf (aS (m:Int)))))
   ⟨none,rfl,R2,hL2⟩ (fun i σ H3 _ ⟨_,_,_,z⟩=>aZ.of z) ?_ ?_⟩)
  ·rintro i y D' σ H3 hi ⟨v4,rfl,R3,M5⟩;obtain⟨k,hk,rfl⟩:=jw hi;have nH:k<ts.length:=qT hm (nB hk);obtain⟨c,hxc,hct⟩:=nO (g:=g) h3 nH;have ha:=g.N.al k nH;have hb:=g.N.bl k nH;have ha:g.N.a k<p:=ha;have hb:g.N.b k<p:=hb;obtain⟨ba,ga,ea,va⟩:=R3.get (i:=g.N.a k) (by lia)
   have s3:=R3.same;have hti:((aS (m:Int)).take i).length<=24:=by
    have h1:(aS (m:Int)).length<=ts.length:=by rw[gK hm];exact Nat.le_trans (List.length_filter_le _ _) (by rw[List.length_range];exact Nat.le_refl _)
    have h2:=List.length_take_le i (aS (m:Int));have h3:=List.length_take_le' i (aS (m:Int))
    lia
   refine(ao rfl (ao rfl (bM (aT.of (s3 _ _ h1)) (ai (j:=1) rfl) (ao rfl (bM (aT.of (s3 _ _ h2)) (ai (j:=k) hxc) (bM (aT.of (s3 _ _ hct)) (ai (j:=0) rfl) (nq (aZ.of R3.lst) (ai (j:=g.N.a k) ga) ⟨.inl ⟨rfl,_,aZ.of va⟩,ao rfl ⟨ba,_,_,rfl,rfl,va,mw (by rw[bw];have:=List.length_filter_le (fun t=>decide (g.N.a t=g.N.a k\/g.N.b t=g.N.a k)) ((aS (m:Int)).take i);lia),?_⟩⟩)))))))
   have R4:=R3.push (k:=k) ea;have Pf:upd H3 ba (.lst (bf (((aS (m:Int)).take i).filter (fun t=>decide (g.N.a t=g.N.a k\/g.N.b t=g.N.a k)))++[.int (k:Int)])) L=some (.lst (bf (aS (m:Int)))):=by
    rw[aQ (fun z:L=ba=>KP (z▸nB ea))]
    exact M5
   generalize upd H3 ba (.lst (bf (((aS (m:Int)).take i).filter (fun t=>decide (g.N.a t=g.N.a k\/g.N.b t=g.N.a k)))++[.int (k:Int)]))=H4 at R4 Pf
   obtain⟨bb,gb,eb,vb⟩:=R4.get (i:=g.N.b k) (by lia)
   have s4:=R4.same;have ne : ¬ g.N.b k=g.N.a k:=fun z=>g.N.ne k nH z.symm
   refine(ao rfl (ao rfl (bM (aT.of (s4 _ _ h1)) (ai (j:=1) rfl) (ao rfl (bM (aT.of (s4 _ _ h2)) (ai (j:=k) hxc) (bM (aT.of (s4 _ _ hct)) (ai (j:=1) rfl) (nq (aZ.of R4.lst) (ai (j:=g.N.b k) gb) ⟨.inl ⟨rfl,_,aZ.of vb⟩,ao rfl ⟨bb,_,_,rfl,rfl,vb,mw (by rw[bw,if_neg ne];have:=List.length_filter_le (fun t=>decide (g.N.a t=g.N.b k\/g.N.b t=g.N.b k)) ((aS (m:Int)).take i);lia),?_⟩⟩)))))))
   have R5:=R4.push (k:=k) eb;rw[Gw hk nH]at R5;exact(ao rfl ⟨R5,by rw[aQ (fun z:L=bb=>KP (z▸nB eb))];exact Pf⟩)
  rintro σ H3 ⟨v4,rfl,R3,M5⟩;rw[bw,List.take_length,show(fun x=>(aS (m:Int)).filter (fun t=>decide (g.N.a t=x\/g.N.b t=x)))=fun x=>g.N.bK m x from funext fun x=>Gv hm]at R3
  refine(ao rfl ⟨dl rfl,fun l hl=>⟨_,_,.lst (aZ.of (aq.new hl _ _ M5)) (nJ _),.lst (aZ.of aj) .nil,kC _,rfl,ao rfl (?_)⟩⟩)
  rw[Er];have R4:=R3.go (aq.new (o:=.lst []) hl);have Pf:upd H3 l (.lst []) L=_:=aq.new hl _ _ M5;generalize upd H3 l (.lst [])=H4 at R4 Pf
  by_cases hz:aS (m:Int)=[]
  ·rw[e7 hz];refine dm (dm (q2 (fun r=>?_) H4 R4.same))
   obtain⟨c,hc0,_⟩:=zb r.1;rw[hz]at hc0;cases hc0
  rw[h8 hz];refine dS ?_;refine(ao rfl ⟨E,rfl,⟨_,aZ.of R4.lst⟩,fun C hC=>dw (xs:=es.map V.ref) (fun i acc H5=>aq H4 H5/\H5 C=some (.lst acc)/\acc.length=RM.cnt (fun x=>!decide (0=g.N.dg m x\/2=g.N.dg m x)) i) ⟨aq.new hC,aj,rfl⟩
   (fun i acc H5 hi f=>⟨aZ.of (f.1 _ _ R4.lst),f.2.1,by have:=RM.rf (fun x=>!decide (0=g.N.dg m x\/2=g.N.dg m x)) i;have:=f.2.2;lia⟩) (dD (by rw[List.length_map];lia)) ?_ ?_⟩)
  ·rintro i y acc H5 hy ⟨f1,f2,f3⟩;rw[List.getElem?_map]at hy;obtain⟨b,hb,rfl⟩:=CD.mp hy;have Ud:=f1 _ _ (R4.at_ i b hb);refine⟨rfl,ao rfl (m6 rfl (.inl (aZ.of Ud)) ⟨dl rfl,fun u hu=>(m6 rfl (.inr (aT.of aj)) ⟨rfl,rfl,ao rfl (?_)⟩)⟩)⟩
   have e:JQ (.int (((bf (g.N.bK m i)).length:Nat):Int)) [.int 0,.int 2]=decide (0=g.N.dg m i\/2=g.N.dg m i):=by
    rw[bw,RM.wj];exact M3 _ 0 2
   have hc1:RM.cnt (fun x=>!decide (0=g.N.dg m x\/2=g.N.dg m x)) (i+1)=RM.cnt (fun x=>!decide (0=g.N.dg m x\/2=g.N.dg m x)) i+if(!decide (0=g.N.dg m i\/2=g.N.dg m i))=true then 1 else 0:=rfl
   dsimp only;rw[if_pos rfl,e];have hCu:C≠u:=cC f2 hu;cases hb:decide (0=g.N.dg m i\/2=g.N.dg m i) with
   | false =>
     rw[hb]at hc1;refine dm (ao rfl ⟨by rw[aQ hCu];exact f2,(f1.trans (aq.new hu)).put hC,aj,?_⟩)
     rw[List.length_append,hc1,f3];rfl
   | true =>
     rw[hb]at hc1;exact dS ⟨f1.trans (aq.new hu),by rw[aQ hCu];exact f2,by rw[hc1,f3];rfl⟩
  rintro acc H5 ⟨f1,f2,f3⟩;refine(m6 rfl (.inl (aZ.of f2)) (bu (ao rfl (?_))));rw[List.length_map,hel]at f3;have R5:=R4.go f1;have hL5:=f1 _ _ Pf
  by_cases hD:g.N.D2 m
  case neg =>
   have hpos:(0:Int)<((acc.length:Nat):Int):=by
    have:0<acc.length:=by
     rw[f3];apply Classical.byContradiction;intro hz;refine hD fun x hx=>?_
     cases hc:decide (0=g.N.dg m x\/2=g.N.dg m x) with
     | true=>exact(mX hc).elim (fun z=>.inl z.symm) (fun z=>.inr z.symm)
     | false=>exact absurd (RM.oY (f:=fun x=>!decide (0=g.N.dg m x\/2=g.N.dg m x)) (k:=x) (by rw[hc];rfl) hx) hz
    lia
   rw[e7 hpos];exact dm (q2 (fun r=>hD (RM.Kq hm r)) H5 R5.same)
  have hz0 : ¬(0:Int)<((acc.length:Nat):Int):=fun z=>by
   have z:0<acc.length:=by lia
   rw[f3]at z;obtain⟨x,hx,hxf⟩:=RM.nN z;rw[Bool.not_eq_true',decide_eq_false_iff_not]at hxf;exact hxf ((hD x hx).elim (fun z=>.inl z.symm) (fun z=>.inr z.symm))
  rw[h8 hz0];refine dS ?_;have hm0:m≠0:=fun z=>hz (by rw[z];rfl)
  obtain⟨c,hc0,hcb⟩:=zb hm0;have hcl:=RM.eV hm hcb;obtain⟨b,hxb,hct⟩:=nO (g:=g) h3 hcl;have s5:=R5.same;refine(ao rfl (bM (aT.of (s5 _ _ h1)) (ai (j:=1) rfl) (ao rfl (nq (aZ.of hL5) (ai (j:=0) (Ak hc0)) (bM (aT.of (s5 _ _ h2)) (ai (j:=c) hxb) ⟨2,rfl,b,_,rfl,s5 _ _ hct,fun u H6 s6 hu=>?_⟩)))))
  rw[EM]at hu;refine⟨u,_,rfl,aT.of hu,rfl,_,_,rfl,_,_,rfl,rfl,?_⟩;have R6:=R5.go s6;have Pg:=s6 _ _ hL5;refine(ao rfl (nq (aZ.of Pg) (ai (j:=0) (Ak hc0)) ⟨dl rfl,fun b0 hb0=>⟨dl rfl,fun Dw Ue=>?_⟩⟩))
  have s7:aq H6 (upd (upd H6 b0 (.tup [.int ((c:Nat):Int),.int 1])) Dw (.lst [.ref b0])):=(aq.new hb0).trans (aq.new Ue);have O8:H6 Dw=none:=(aq.new hb0).free Ue;have Ug:H Dw=none:=R6.same.free O8;have w7:WalkAt (upd (upd H6 b0 (.tup [.int ((c:Nat):Int),.int 1])) Dw (.lst [.ref b0])) Dw [(c,1)] :=
   ⟨[.ref b0],aj,.cons ⟨b0,rfl,aq.new Ue _ _ aj⟩ .nil⟩
  generalize upd (upd H6 b0 (.tup [.int ((c:Nat):Int),.int 1])) Dw (.lst [.ref b0])=H7 at s7 w7;refine⟨fun k σ H8=>∃ acc v left v8,σ=[some (.ref wb),some (.int (m:Int)),some (.ref E),some (.ref L),v4,some (.int ((g.N.a c:Nat):Int)),some (.int ((v:Nat):Int)),some (.ref Dw),v8]/\aq H6 H8/\WalkAt H8 Dw acc/\RM.Wk g.N m c acc v left/\k=RM.cnt (fun j=>left.testBit j) ts.length,⟨_,[(c,1)],g.N.b c,m^^^2^c,none,rfl,s7,w7,.start,rfl⟩,?_⟩
  rintro k σ H8 ⟨acc,v,left,v8,rfl,s8,w8,wk,rfl⟩;refine(ao rfl (ao rfl ⟨rfl,ao rfl (?_)⟩));rw[mz];have R8:=R6.go s8;have KQ:=s8 _ _ Pg;obtain⟨ws,hws,hwp⟩:=id w8;have hlen:acc.length+RM.cnt (fun j=>left.testBit j) ts.length=RM.cnt (fun j=>m.testBit j) ts.length:=RM.HS hm hcb wk
  by_cases e:v=g.N.a c
  ·subst e;rw[e7 rfl];refine dS (ao rfl (m6 rfl (.inl (aZ.of hws)) (ao rfl (m6 rfl (.inl (aZ.of KQ)) ⟨rfl,ao rfl (?_)⟩))));rw[bw,mz,hwp.length,rB hm];have Lu:acc.length=RM.cnt (fun k=>m.testBit k) ts.length↔left=0:=RM.Ku hm hcb wk
   by_cases CO:left=0
   ·subst CO;rw[e7 (Lu.mpr rfl)];exact dS (ao rfl (q1 ((RM.EB hm hD hcb wk).mpr rfl) Dw H8 c acc _ Ug R8.same hcb hc0 wk w8))
   ·rw[h8 (fun z=>CO (Lu.mp z))]
    exact dm (q2 (fun r=>CO ((RM.EB hm hD hcb wk).mp r)) H8 R8.same)
  rw[h8 e];obtain⟨acc',l,yy,t,Uh,Ra,Ph,CO,Dp⟩:=RM.OG hm hD hcb wk e;have Ra:t<ts.length:=Ra;have HU:=RM.bA.mp (nB Dp);have Nr:v<p:=(RM.As hm hcb wk).1;have ady:RM.cnt (fun j=>left.testBit j) ts.length=RM.cnt (fun j=>(left^^^2^t).testBit j) ts.length+1:=RM.wg Ra HU.2.1
  have adz:RM.cnt (fun j=>m.testBit j) ts.length<=ts.length:=by
   have:=RM.rf (fun j=>m.testBit j) ts.length
   lia
  refine dm ⟨fun σ H9=>∃ acc v left' v8,σ=[some (.ref wb),some (.int (m:Int)),some (.ref E),some (.ref L),v4,some (.int ((g.N.a c:Nat):Int)),some (.int ((v:Nat):Int)),some (.ref Dw),v8]/\aq H6 H9/\WalkAt H9 Dw acc/\RM.Wk g.N m c acc v left'/\RM.cnt (fun j=>left'.testBit j) ts.length<RM.cnt (fun j=>left.testBit j) ts.length,fun σ H9 ⟨acc,v,left',v8,z1,z2,z3,z4,z5⟩=>⟨_,z5,acc,v,left',v8,z1,z2,z3,z4,rfl⟩,?_⟩
  obtain⟨bv,gv,ev,vv⟩:=R8.get (i:=v) (by lia)
  rw[vX]at vv;have M6:=hwp;rw[Uh]at hwp;obtain⟨ws',x,ews,b7,rfl,hb7⟩:=u0 hwp;have hs:((g.N.bK m v).map fun x=>((x:Nat):Int)).sum-((l:Nat):Int)=((t:Nat):Int):=by
   rcases Ph with z|z <;> · rw[z];simp only[List.map_cons,List.map_nil,List.sum_cons,List.sum_nil];lia
  refine(ao rfl (ao rfl (nq (aZ.of R8.lst) (ai (j:=v) gv) ⟨bv,_,rfl,aZ.of vv,_,rfl,ao rfl (nq (aZ.of hws) (by rw[ews];exact M4 _ _) (bM (aT.of hb7) (ai (j:=0) rfl) (bu (?_))))⟩)))
  dsimp only;rw[hs];have Pj:=R8.same;obtain⟨bb,M7,M8⟩:=nO (g:=g) h3 Ra;refine(ao rfl (bM (aT.of (Pj _ _ h1)) (ai (j:=1) rfl) (ao rfl (bM (aT.of (Pj _ _ h2)) (ai (j:=t) M7) (bM (aT.of (Pj _ _ M8)) (ai (j:=0) rfl) (ao rfl ⟨rfl,ao rfl (?_)⟩))))));rw[mz];have Pk:ws.length<sizeLine:=by
   rw[M6.length];exact mw (by lia)
  by_cases ea:g.N.a t=v
  ·rw[e7 ea];refine dm (ao rfl ⟨.inl ⟨rfl,_,aZ.of hws⟩,ao rfl ⟨dl rfl,fun b1 hb1=>⟨Dw,ws,_,rfl,rfl,aq.new hb1 _ _ hws,Pk,?_⟩⟩⟩)
   have s9:aq H8 (upd H8 b1 (.tup [.int ((t:Nat):Int),.int 1])):=aq.new hb1;have Pn:=RM.Wk.next wk CO Dp;have M9:g.N.Jr t v=g.N.b t:=by unfold RM.Net.Jr;rw[if_pos ea]
   rw[if_pos ea,M9]at Pn;have w9:=WalkAt.push (q:=(t,1)) (s9 _ _ hws) (Paired.imp' (fun _ _ z=>Gz.same s9 z) M6) aj
   have Ag:aq H (upd (upd H8 b1 (.tup [.int ((t:Nat):Int),.int 1])) Dw (.lst (ws++[.ref b1]))):=(Pj.trans s9).put Ug;have Ui:aq H6 (upd (upd H8 b1 (.tup [.int ((t:Nat):Int),.int 1])) Dw (.lst (ws++[.ref b1]))):=(s8.trans s9).put O8;exact(ao rfl (bM (aT.of (Ag _ _ h1)) (ai (j:=1) rfl) (ao rfl (bM (aT.of (Ag _ _ h2)) (ai (j:=t) M7) (bM (aT.of (Ag _ _ M8)) (ai (j:=1) rfl) ⟨_,_,_,_,rfl,Ui,w9,Pn,by lia⟩)))))
  ·rw[h8 ea];refine dS (ao rfl ⟨.inl ⟨rfl,_,aZ.of hws⟩,ao rfl (ao rfl ⟨dl rfl,fun b1 hb1=>⟨Dw,ws,_,rfl,rfl,aq.new hb1 _ _ hws,Pk,?_⟩⟩)⟩)
   have s9:aq H8 (upd H8 b1 (.tup [.int ((t:Nat):Int),.int (-1)])):=aq.new hb1;have Pn:=RM.Wk.next wk CO Dp;have M9:g.N.Jr t v=g.N.a t:=by unfold RM.Net.Jr;rw[if_neg ea]
   rw[if_neg ea,M9]at Pn;have w9:=WalkAt.push (q:=(t,-1)) (s9 _ _ hws) (Paired.imp' (fun _ _ z=>Gz.same s9 z) M6) aj
   have Ag:aq H (upd (upd H8 b1 (.tup [.int ((t:Nat):Int),.int (-1)])) Dw (.lst (ws++[.ref b1]))):=(Pj.trans s9).put Ug;have Ui:aq H6 (upd (upd H8 b1 (.tup [.int ((t:Nat):Int),.int (-1)])) Dw (.lst (ws++[.ref b1]))):=(s8.trans s9).put O8;exact(ao rfl (bM (aT.of (Ag _ _ h1)) (ai (j:=1) rfl) (ao rfl (bM (aT.of (Ag _ _ h2)) (ai (j:=t) M7) (bM (aT.of (Ag _ _ M8)) (ai (j:=0) rfl) ⟨_,_,_,_,rfl,Ui,w9,Pn,by lia⟩)))))
end
def uo:Sp:=fun vs H Q _=>∃(x:Option Int) (y:Int),vs=[oV x,.int y]/\Q (.int (RM.lst x y)) H
def xK:Sp:=fun vs H Q _=>∃(w:Addr) (p:Nat) (ts:List dU),∃ g:aL p ts,∃(m pt:Nat),vs=[.ref w,.int (m:Int),.int (pt:Int)]/\bU H w p ts/\pt<p/\
 ∀ b ys R H',aq H H'->H' b=some (.tup ys)->Paired (fb H') ys R->R.length=p->(∀ x s,x<p->RM.OH g.N (lF ts) m pt x s (sel (cg R x) s))->Q (.ref b) H'
theorem sx(sb:Bool)(m k:Nat):Builtin.bitXor (sb.toNat:Int) (Builtin.bitAnd ((m:Int)/2^(k:Int).toNat) 1)=((sb^^m.testBit k).toNat:Int):=by
 have e:Builtin.bitAnd ((m:Int)/2^(k:Int).toNat) 1=((m.testBit k).toNat:Int):=by
  rw[Int.toNat_natCast,PyProof.Rows.bitAnd_m1,<-jk];unfold bit;obtain⟨h0,h1⟩:=d8 ((m:Int)/2^k) 2 (by decide)
  by_cases h:(m:Int)/2^k%2=1
  ·rw[e7 h,h];rfl
  ·rw[h8 h];have:(m:Int)/2^k%2=0:=by lia
   rw[this];rfl
 rw[e];cases sb<;>cases m.testBit k<;>decide
section
variable {P:Program}{w:World}{K:bI}{mg:iI}{base:Heap}{a:tH}
theorem gC(T:Txt K mg a):aP P w K mg base cF 1 a.gB a.iX ["one","more"] uo:=by
 refine T.uM.ok AD (fun vs H Q E h=>?_) (fun cdv A outer s H vs Q E hr h=>?_)
 ·obtain⟨x,y,rfl,_⟩:=h;rfl
 ·obtain⟨x,y,rfl,q⟩:=h;refine⟨_,(ak (bx (PW.pt (mY (aD jf (pv 0) cu (aC _)) (jc (aD vF (pv 1) (pv 0) (aC _))))) (au (aE (pv 1))) aR)
   (au (aE (pv 0)))),?_⟩
  refine AE ?_;intro cj cM;cases x with
  | none=>exact(ao rfl ⟨rfl,ao rfl (sU rfl (ao rfl (q)))⟩)
  | some x =>
    refine(ao rfl ⟨rfl,ao rfl (nj (fun z=>nomatch z) (ao rfl (ao rfl (bu (ao rfl (jj (fun h=>(ao rfl (?_))) (fun h=>(ao rfl (?_)))))))))⟩)
    ·have e:RM.lst (some x) y=y:=if_pos (mX h);rw[e]at q;exact q
    ·have e:RM.lst (some x) y=x:=if_neg (fun z=>h (e7 z))
     rw[e]at q;exact q
theorem mV(T:Txt K mg a):aP P w K mg base cF 2 a.g6 a.jt ["web","marks","point"] xK:=by
 have gC:aP P w K mg base cF 1 a.gB a.iX ["one","more"] uo:=gC T;refine T.sy.ok bL (fun vs H Q E h=>?_) (fun cdv A outer s H vs Q E hr h=>?_)
 ·obtain⟨w,p,ts,g,m,pt,rfl,_⟩:=h;rfl
 ·obtain⟨wb,p,ts,g,m,pt,rfl,hw,hpt,q⟩:=h;refine⟨_,(ak (gJ (i:=3) bL.nd rfl rfl (own:=["other"]) (fq:=[]) (js:=[]) (aN (ah dF) ["web","marks","point","far","turn","k","one","other","length","bit","a","b","s"]) rfl (aV (by rfl) T.bq (aa (ay (bT K) (pv 0) ae (fun _ _=>rfl)) af)) (fun _ _ _ _=>(aA (i:=0) (show(["other"]:List Str).Nodup by decide +kernel) rfl (Or.inl rfl))) (fun _ _ _ _=>gI) (fun _ _ _ _=>(bQ (aa cu (aa cu af)))))
   (ak (jd ae (sQ (ay (m5 K) (pv 3) (pv 2) (fun _ _=>rfl)) ae set_list))
   (ak (dj PassesOwn.never rfl (aV (by rfl) T.bq (aa (az qg ae (ay (bT K) (pv 0) ae (fun _ _=>rfl))) af)) (aA (i:=4) bL.nd rfl (Or.inl rfl))
   (au (dj PassesOwn.never rfl (aV (by rfl) T.bq (aa (aF (fS K) (by rfl) T.cW PySem.boot_len (aa (ay (bT K) (pv 0) ae (fun _ _=>rfl)) af)) af)) (aA (i:=5) bL.nd rfl (Or.inl rfl))
   (ak (jd (ay (bT K) (ay (bT K) (pv 0) ae (fun _ _=>rfl)) (pv 5) (fun _ _=>rfl)) (Gy K (n:=3) rfl (bh (aA (i:=6) bL.nd rfl (Or.inl rfl)) (bh (aA (i:=7) bL.nd rfl (Or.inl rfl)) (bh (aA (i:=8) bL.nd rfl (Or.inl rfl)) gf)))))
   (ak (aG (i:=9) bL.nd rfl (Or.inl rfl) (az kP (az qh (pv 1) (pv 5)) ae))
   (au (dj PassesOwn.never rfl (yb K (bQ (aa (cZ (aa (pv 6) (aa (pv 7) af))) (aa (cZ (aa (pv 7) (aa (pv 6) af))) af)))) (Gy K (n:=2) rfl (bh (aA (i:=10) bL.nd rfl (Or.inl rfl)) (bh (aA (i:=11) bL.nd rfl (Or.inl rfl)) gf)))
   (au (dj PassesOwn.never rfl (aV (by rfl) T.bq (aa ae af)) (aA (i:=12) bL.nd rfl (Or.inl rfl))
   (au (bx (aD lZ (ay (m5 K) (ay (m5 K) (pv 3) (pv 10) (fun _ _=>rfl)) (pv 12) (fun _ _=>rfl)) cu (aC _)) (au (jd (aB gC (hr.mono (by decide)) (by rfl) T.uN T.uW T.uO .nil aX (aa (ay (m5 K) (ay (m5 K) (pv 3) (pv 11) (fun _ _=>rfl)) (az vE (pv 12) (pv 9)) (fun _ _=>rfl)) (aa (az cG (ay (m5 K) (ay (m5 K) (pv 3) (pv 10) (fun _ _=>rfl)) (pv 12) (fun _ _=>rfl)) (pv 8)) af))) (sQ (ay (m5 K) (pv 3) (pv 11) (fun _ _=>rfl)) (az vE (pv 12) (pv 9)) set_list))) aR)))))))))))
   (au (aE (cD (yS K) (by rfl) T.pB PyProof.Rows.boot_tuple (aa (dB (own:=["pair"]) (fq:=[]) (js:=[]) (aN (ah dF) ["web","marks","point","far","turn","k","one","other","length","bit","a","b","s"]) rfl (yb K (pv 3)) (fun _ _ _ _=>(aA (i:=0) (show(["pair"]:List Str).Nodup by decide +kernel) rfl (Or.inl rfl))) (fun _ _ _ _=>gI) (fun _ _ _ _=>(cD (yS K) (by rfl) T.pB PyProof.Rows.boot_tuple (aa (pv 0) af)))) af))))))),?_⟩
  refine yq ?_;intro cj cM eY gD lu nR nS uI wQ wR;obtain⟨bt,xs,h1,h2,h3⟩:=id hw.ex;have qJ:=h3.length;have wp:=g.p2;have wl:=g.len;refine(ao rfl (bM (aT.of h1) (ai (j:=0) rfl) (ao rfl ⟨(by lia),(by lia),fun D hD=>bY (lo:=0) (m:=p) (BL H D) (.start hD) (fun i acc H2 _ z=>z.len) (dl (Nat.ble_eq.mpr (by lia))) ?_ ?_⟩)))
  ·rintro i acc H2 hi f2;exact⟨rfl,dl rfl,fun l hl=>f2.next hl⟩
  rintro acc H2 ⟨es,rfl,hel,f2⟩;obtain⟨bb,e2,e3,Ma⟩:=f2.get (i:=pt) (by lia)
  refine(ao rfl (ao rfl (nq (aZ.of f2.lst) (ai e2) ⟨bb,_,_,0,rfl,rfl,Ma,kB (n:=2) (j:=0) (by decide),?_⟩)))
  have f3:pI H D es (RM.rE (fun _ _=>none) pt false 0) (upd H2 bb (.lst (([oV none,oV none]:List V).set 0 (.int 0)))):=f2.put e3 false 0
  generalize upd H2 bb (.lst (([oV none,oV none]:List V).set 0 (.int 0)))=H3 at f3;refine(ao rfl (bM (aT.of (f3.same _ _ h1)) (ai (j:=0) rfl) (bu ⟨.inl ⟨by decide,by decide⟩,ao rfl ⟨(by lia),(by lia),?_⟩⟩)))
  have e2p:(2*(p:Int)).toNat=2*p:=by lia
  refine cP (lo:=0) (n:=(2*(p:Int)).toNat) (fun i σ H4=>∃ v4 v5 v6 v7 v8 v9 v10 v11 DU,σ=[some (.ref wb),some (.int (m:Int)),some (.int (pt:Int)),some (.ref D),v4,v5,v6,v7,v8,v9,v10,v11,DU]/\∃ F,pI H D es F H4/\RM.MJ g.N (lF ts) m pt F/\RM.Bp g.N (lF ts) m pt i F) ⟨none,none,none,none,none,none,none,none,none,rfl,_,f3,RM.MJ.start,RM.Bp.start⟩ ?_ ?_
  ·rintro i D' σ H4 hi ⟨v4,v5,v6,v7,v8,v9,v10,v11,DU,rfl,F0,f4,Uj,Rb⟩;refine(ao rfl (bM (aT.of (f4.same _ _ h1)) (ai (j:=1) rfl) (m6 rfl (.inr (aT.of (f4.same _ _ h2))) (ao rfl ⟨(by lia),(by lia),?_⟩))))
   refine cP (lo:=0) (n:=(xs.length:Int).toNat) (fun k σ H5=>∃ v4 v5 v6 v7 v8 v9 v10 v11 DU,σ=[some (.ref wb),some (.int (m:Int)),some (.int (pt:Int)),some (.ref D),v4,v5,v6,v7,v8,v9,v10,v11,DU]/\∃ F,pI H D es F H5/\RM.Rl g.N (lF ts) m pt F0 F (4*k)) ⟨_,_,_,_,_,_,_,_,_,rfl,_,f4,RM.Rl.start Uj⟩ ?_ ?_
   ·rintro k D2' σ H5 hk ⟨v4,v5,v6,v7,v8,v9,v10,v11,DU,rfl,F,f5,r5⟩;rw[Int.toNat_natCast]at hk;rw[Int.zero_add];have nH:k<ts.length:=by lia
    obtain⟨ct,ex,hct⟩:=nO (g:=g) h3 nH;have ha:g.N.a k<p:=g.N.al k nH;have hb:g.N.b k<p:=g.N.bl k nH;refine(ao rfl (bM (aT.of (f5.same _ _ h1)) (ai (j:=1) rfl) (ao rfl (bM (aT.of (f5.same _ _ h2)) (ai (j:=k) ex) ⟨ct,_,rfl,aT.of (f5.same _ _ hct),rfl,_,_,rfl,_,_,rfl,_,_,rfl,rfl,?_⟩))));refine(ao rfl (ao rfl (bu ⟨(by lia),bu (?_)⟩)))
    generalize Rc:g.N.a k=ua at ha;generalize Rf:g.N.b k=ub at hb;refine(ao rfl (ao rfl ⟨dl rfl,fun t1 Po=>(ao rfl (ao rfl ⟨dl rfl,fun t2 Na=>⟨dl rfl,fun L hL=>⟨L,rfl,⟨_,aZ.of aj⟩,?_⟩⟩⟩))⟩))
    have hf:aq H5 (upd (upd (upd H5 t1 (.tup [.int (ua:Int),.int (ub:Int)])) t2 (.tup [.int (ub:Int),.int (ua:Int)])) L (.lst [.ref t1,.ref t2])):=((aq.new Po).trans (aq.new Na)).trans (aq.new hL);have KP:L∉es:=f5.off (((aq.new Po).trans (aq.new Na)).free hL);have Pg:upd (upd (upd H5 t1 (.tup [.int (ua:Int),.int (ub:Int)])) t2 (.tup [.int (ub:Int),.int (ua:Int)])) L (.lst [.ref t1,.ref t2]) L=some (.lst [.ref t1,.ref t2]):=aj;have Pp:upd (upd (upd H5 t1 (.tup [.int (ua:Int),.int (ub:Int)])) t2 (.tup [.int (ub:Int),.int (ua:Int)])) L (.lst [.ref t1,.ref t2]) t1=some (.tup [.int (ua:Int),.int (ub:Int)]):=aq.new hL _ _ (aq.new Na _ _ aj);have Pq:upd (upd (upd H5 t1 (.tup [.int (ua:Int),.int (ub:Int)])) t2 (.tup [.int (ub:Int),.int (ua:Int)])) L (.lst [.ref t1,.ref t2]) t2=some (.tup [.int (ub:Int),.int (ua:Int)]):=aq.new hL _ _ aj;have f6:=f5.go hf;generalize upd (upd (upd H5 t1 (.tup [.int (ua:Int),.int (ub:Int)])) t2 (.tup [.int (ub:Int),.int (ua:Int)])) L (.lst [.ref t1,.ref t2])=H6 at f6 Pg Pp Pq;refine ir (K:=K) (a:=L) (xs:=[.ref t1,.ref t2]) (fun j σ H7=>∃ v4 v10 v11 DU,σ=[some (.ref wb),some (.int (m:Int)),some (.int (pt:Int)),some (.ref D),v4,some (.int (k:Int)),some (.int (ua:Int)),some (.int (ub:Int)),some (.int (bO ts k).2.2),some (.int (Builtin.bitAnd ((m:Int)/2^(k:Int).toNat) 1)),v10,v11,DU]/\(∃ F,pI H D es F H7/\RM.Rl g.N (lF ts) m pt F0 F (4*k+2*j))/\H7 L=some (.lst [.ref t1,.ref t2])/\iU H6 H7)
     ⟨_,_,_,_,rfl,⟨F,f6,r5⟩,Pg,(aq.refl _).tups⟩ (fun j σ H7 _ ⟨_,_,_,_,_,_,z,_⟩=>aZ.of z) ?_ ?_
    ·rintro j y D3' σ H7 hj ⟨v4,v10,v11,DU,rfl,⟨F,f7,r7⟩,hL7,Rg⟩;have O7:j<2:=(xZ.mp hj).1;obtain⟨cc,x1,x2,rfl,hcc,e1,e2,y1,y3⟩:∃(cc:Addr) (x1 x2:Nat),y = .ref cc/\H7 cc=some (.tup [.int (x1:Int),.int (x2:Int)])/\(if j=0 then ua else ub)=x1/\(if j=0 then ub else ua)=x2/\x1<p/\x2<p:=by
      match j,hj with
      | 0,hj=>exact⟨t1,ua,ub,(Option.some.inj hj).symm,Rg _ _ Pp,rfl,rfl,ha,hb⟩
      | 1,hj=>exact⟨t2,ub,ua,(Option.some.inj hj).symm,Rg _ _ Pq,rfl,rfl,hb,ha⟩
     refine⟨cc,_,rfl,aT.of hcc,rfl,_,_,rfl,_,_,rfl,rfl,?_⟩;refine(ao rfl ⟨(by decide),(by decide),?_⟩)
     refine cP (lo:=0) (n:=(2:Int).toNat) (fun n σ H8=>∃ DU,σ=[some (.ref wb),some (.int (m:Int)),some (.int (pt:Int)),some (.ref D),v4,some (.int (k:Int)),some (.int (ua:Int)),some (.int (ub:Int)),some (.int (bO ts k).2.2),some (.int (Builtin.bitAnd ((m:Int)/2^(k:Int).toNat) 1)),some (.int (x1:Int)),some (.int (x2:Int)),DU]/\(∃ F,pI H D es F H8/\RM.Rl g.N (lF ts) m pt F0 F (4*k+2*j+n))/\H8 L=some (.lst [.ref t1,.ref t2])/\iU H6 H8) (ao rfl ⟨⟨F,f7,r7⟩,hL7,Rg⟩) ?_ ?_
     ·rintro n D4' σ H8 hn ⟨DU,rfl,⟨F,f8,r8⟩,KQ,Rh⟩;rw[Int.zero_add];have hn2:n<2:=hn;obtain⟨q1,q2,q3,q4⟩:=RM.Kw (N:=g.N) (k:=k) O7 hn2;rw[Rc,Rf,e1]at q3;rw[Rc,Rf,e2]at q4;obtain⟨sb,Pu⟩:∃ sb:Bool,n=sb.toNat/\decide (n=1)=sb:=by
       have:n=0\/n=1:=by lia
       rcases this with rfl|rfl
       ·exact⟨false,rfl,rfl⟩
       ·exact⟨true,rfl,rfl⟩
      obtain⟨Pu,hsd⟩:=Pu;rw[hsd]at q2;clear hsd;subst Pu;obtain⟨ba,ga,ea,hba⟩:=f8.get (i:=x1) (by lia)
      obtain⟨bb,gb,eb,Ma⟩:=f8.get (i:=x2) (by lia)
      refine(ao rfl (ao rfl (nq (aZ.of f8.lst) (ai ga) (ao rfl (nq (aZ.of hba) (ai (Dr F x1 sb)) ⟨rfl,ao rfl (?_)⟩)))));cases hX:F x1 sb with
      | none=>exact m3 rfl (ao rfl ⟨⟨F,f8,r8.skip (by rw[q3,q2];exact hX)⟩,KQ,Rh⟩)
      | some x =>
        have hsl:([oV (F x1 false),oV (F x1 true)]:List V)[sb.toNat]?=some (.int x):=by
         have:=Dr F x1 sb;rw[hX]at this;exact this
        refine nh (fun z=>nomatch z) ?_
        refine(ao rfl (ao rfl (nq (aZ.of f8.lst) (ai gb) (ao rfl (ao rfl (bu (nq (aZ.of Ma) ((by rw[sx];exact ai (Dr F x2 _))) (ao rfl (ao rfl (nq (aZ.of f8.lst) (ai ga) (ao rfl (nq (aZ.of hba) (ai hsl) (ao rfl (bu ⟨_,_,rfl,?_⟩))))))))))))))
        have hu:(sb^^m.testBit k).toNat<2:=by cases(sb^^m.testBit k)<;>decide
        refine(ao rfl (ao rfl (nq (aZ.of f8.lst) (ai gb) (ao rfl (ao rfl (bu ⟨bb,_,_,(sb^^m.testBit k).toNat,rfl,rfl,Ma,(by rw[sx];exact kB hu),?_⟩))))))
        exact(ao rfl ⟨⟨_,f8.put eb _ _,r8.TX q1 q3 q4 q2 nH hX⟩,by rw[aQ (fun z:L=bb=>KP (z▸nB eb))];exact KQ,Rh.trans (iU.put Ma)⟩)
     ·rintro σ H8 ⟨DU,rfl,f8,KQ,Rh⟩;exact⟨_,_,_,_,rfl,f8,KQ,Rh⟩
    ·rintro σ H7 ⟨v4,v10,v11,DU,rfl,f7,hL7,Rg⟩;exact⟨_,_,_,_,_,_,_,_,_,rfl,f7⟩
   ·rintro σ H5 ⟨v4,v5,v6,v7,v8,v9,v10,v11,DU,rfl,F,f5,r5⟩;rw[Int.toNat_natCast,qJ]at r5;exact⟨_,_,_,_,_,_,_,_,_,rfl,F,f5,r5.snd,r5.E8 Rb⟩
  ·rintro σ H4 ⟨v4,v5,v6,v7,v8,v9,v10,v11,DU,rfl,F,f4,Uj,Rb⟩;rw[e2p]at Rb;have best:=RM.Ib (FF g) (show pt<g.N.p from hpt) Rb Uj
   refine(ao rfl ⟨D,rfl,⟨_,aZ.of f4.lst⟩,fun D2 yH=>dw (xs:=es.map V.ref) (fun i acc H5=>aq H4 H5/\H5 D2=some (.lst acc)/\Paired (fb H5) acc (rF F i)) ⟨aq.new yH,aj,.nil⟩ ?_ (dl (Nat.ble_eq.mpr (by rw[List.length_map];lia))) ?_ ?_⟩)
   ·rintro i acc H5 hi ⟨s5,xC,Lq⟩;exact⟨aZ.of (s5 _ _ f4.lst),xC,by rw[Lq.length,EF];exact Nat.le_refl _⟩
   ·rintro i x acc H5 hx ⟨s5,xC,Lq⟩;rw[List.getElem?_map]at hx;obtain⟨b,hb,rfl⟩:=CD.mp hx;have Ud:=s5 _ _ (f4.at_ i b hb);refine⟨rfl,ao rfl ⟨b,_,rfl,.inl ⟨aZ.of Ud,fun l hl=>?_⟩⟩⟩
    have s6:aq H5 (upd H5 l (.tup [oV (F i false),oV (F i true)])):=aq.new hl;refine⟨s6 _ _ xC,(s5.trans s6).put yH,aj,?_⟩;rw[Ic];exact Paired.snoc (Paired.imp' (fun _ _ z=>z.tups (s6.tups.trans (iU.put (s6 _ _ xC)))) Lq) ⟨l,rfl,iU.put (s6 _ _ xC) _ _ aj⟩
   ·rintro acc H5 ⟨s5,xC,Lq⟩;rw[List.length_map,hel]at Lq;refine⟨D2,acc,rfl,.inl ⟨aZ.of xC,fun l hl=>?_⟩⟩
    exact q l acc (rF F p) _ ((f4.same.trans s5).trans (aq.new hl)) aj (Paired.imp' (fun _ _ z=>z.same (aq.new hl)) Lq) (EF F p) fun x s hx=>by rw[ML hx];exact best x s
end
def vp:Sp:=fun vs H Q _=>∃ w p ts,∃ g:aL p ts,∃(S:Int) (m:Nat),vs=[.ref w,.int S]/\S=(m:Int)/\bU H w p ts/\m<2^ts.length/\∀ H',aq H H'->Q (.int (lenOf ts m)) H'
def vq:Sp:=fun vs H Q _=>∃(S:Int) (m:Nat),vs=[.int S]/\S=(m:Int)/\∀ v:Bool,(∀ d,m<2^d->v=RM.cy (fun j=>m.testBit j) d)->Q (.bl v) H
def vt:Sp:=fun vs H Q _=>∃ w p ts,∃ g:aL p ts,∃(l:Addr) (xs:List Nat),vs=[.ref w,.ref l]/\bU H w p ts/\H l=some (.lst (bf xs))/\Q (.int ((g.N.cut (fun x=>decide (x∈xs)):Nat):Int)) H
def oK(N:RM.Net)(L:Nat->Int)(m b:Nat):Option Int->Prop
 | none=>∀ r,r<b->N.Ring r->N.par r m=false
 | some d=>(∃ r,r<b/\N.Ring r/\N.par r m=true/\RM.lsum L (fun k=>r.testBit k) N.n=d)/\∀ r,r<b->N.Ring r->N.par r m=true->d<=RM.lsum L (fun k=>r.testBit k) N.n
theorem oK.skip{N:RM.Net}{L:Nat->Int}{m b:Nat}{o:Option Int}(h:oK N L m b o)(hn : ¬(N.Ring b/\N.par b m=true)):oK N L m (b+1) o:=by
 have lt:∀ r,r<b+1->r≠b->r<b:=fun r h1 h2=>by lia
 cases o with
 | none =>
   intro r hr rg
   by_cases e:r=b
   ·subst e;cases hp:N.par r m with
    | false=>rfl
    | true=>exact absurd ⟨rg,hp⟩ hn
   ·exact h r (lt r hr e) rg
 | some d =>
   obtain⟨⟨r,h1,h2⟩,h3⟩:=h;refine⟨⟨r,by lia,h2⟩,fun r hr rg hp=>?_⟩
   by_cases e:r=b
   ·subst e;exact absurd ⟨rg,hp⟩ hn
   ·exact h3 r (lt r hr e) rg hp
theorem oK.put{N:RM.Net}{L:Nat->Int}{m b:Nat}{o:Option Int}(h:oK N L m b o)(rg:N.Ring b)(hp:N.par b m=true):oK N L m (b+1) (some (RM.lst o (RM.lsum L (fun k=>b.testBit k) N.n))):=by
 have lt:∀ r,r<b+1->r≠b->r<b:=fun r h1 h2=>by lia
 cases o with
 | none =>
   refine⟨⟨b,by lia,rg,hp,rfl⟩,fun r hr rg hp=>?_⟩
   by_cases e:r=b
   ·subst e;exact Int.le_refl _
   ·have:=h r (lt r hr e) rg;rw[hp]at this;cases this
 | some d =>
   obtain⟨⟨r0,h1,h2,h3,h4⟩,h5⟩:=h;have l1:=RM.HZ (some d) (RM.lsum L (fun k=>b.testBit k) N.n)
   rcases RM.Ia (some d) (RM.lsum L (fun k=>b.testBit k) N.n) with e0|e0
   ·refine⟨⟨b,by lia,rg,hp,e0.symm⟩,fun r hr rg hp=>?_⟩
    by_cases e:r=b
    ·subst e;exact l1.1
    ·have:=h5 r (lt r hr e) rg hp;have:=l1.2 d rfl
     lia
   ·refine⟨⟨r0,by lia,h2,h3,h4.trans (Option.some.inj e0)⟩,fun r hr rg hp=>?_⟩
    by_cases e:r=b
    ·subst e;exact l1.1
    ·have:=h5 r (lt r hr e) rg hp;have:=l1.2 d rfl
     lia
def xM:Sp:=fun vs H Q _=>∃ w p ts,∃ g:aL p ts,∃(m:Nat),vs=[.ref w,.int (m:Int)]/\bU H w p ts/\∀ o H',aq H H'->oK g.N (lF ts) m (2^ts.length) o->Q (oV o) H'
theorem zQ(n:Nat):∀ e,RM.cy (fun j=>n.testBit j) (e+1)=(decide (n%2=1)^^RM.cy (fun j=>(n/2).testBit j) e)
 | 0=>by
   show(false^^n.testBit 0)=(decide (n%2=1)^^false);rw[Nat.testBit_zero,Bool.false_xor,Bool.xor_false]
 | e+1=>by
   have ih:=zQ n e;show(RM.cy (fun j=>n.testBit j) (e+1)^^n.testBit (e+1))=(decide (n%2=1)^^(RM.cy (fun j=>(n/2).testBit j) e^^(n/2).testBit e))
   rw[ih,Nat.testBit_succ,Bool.xor_assoc]
section
variable {P:Program}{w:World}{K:bI}{mg:iI}{base:Heap}{a:tH}
theorem cT(T:Txt K mg a):aP P w K mg base cF 1 a.eE a.fK ["web","some"] vp:=by
 refine T.sA.ok yr (fun vs H Q E h=>?_) (fun cdv A outer s H vs Q E hr h=>?_)
 ·obtain⟨w,p,ts,g,S,m,rfl,_⟩:=h;rfl
 ·obtain⟨wb,p,ts,g,S,m,rfl,rfl,hw,hm,q⟩:=h;refine⟨_,(au (aE (aF (sumK K rfl) (by rfl) T.IG PyProof.Rows.boot_sum (aa (dB (own:=["k"]) (fq:=["web","some"]) (js:=[0,1]) (aN (ah ek) ["web","some"]) rfl (aV (by rfl) T.bq (aa (aF (fS K) (by rfl) T.cW PySem.boot_len (aa (ay (bT K) (pv 0) ae (fun _ _=>rfl)) af)) af)) (fun _ _ _ _=>(aA (i:=0) (show(["k","web","some"]:List Str).Nodup by decide +kernel) rfl (Or.inl rfl))) (fun _ _ _ _=>(di (aD cz (az kP (az qh (pv 2) (pv 0)) ae) ae (aC _)))) (fun _ _ _ _=>(ay (bT K) (ay (bT K) (ay (bT K) (pv 1) ae (fun _ _=>rfl)) (pv 0) (fun _ _=>rfl)) ae (fun _ _=>rfl)))) af)))),?_⟩
  obtain⟨bt,xs,h1,h2,h3⟩:=id hw.ex;have qJ:=h3.length;have wl:=g.len;refine(ao rfl (bM (aT.of h1) (ai (j:=1) rfl) (m6 rfl (.inr (aT.of h2)) (ao rfl ⟨(by lia),(by lia),fun D hD=>bY (lo:=0) (m:=xs.length) (fun i acc H2=>aq H H2/\H2 D=some (.lst acc)/\acc=(((List.range i).filter (fun k=>m.testBit k)).map fun k=>(bO ts k).2.2).map V.int) ⟨aq.new hD,aj,rfl⟩ (fun i acc H2 _ z=>⟨z.2.1,by rw[z.2.2,List.length_map,List.length_map];exact Nat.le_trans (List.length_filter_le _ _) (by rw[List.length_range];exact Nat.le_refl _)⟩) (dD (by lia)) ?_ ?_⟩))))
  ·rintro i acc H2 hi ⟨s2,yH,rfl⟩;rw[Int.zero_add];obtain⟨c,hxc,hct⟩:=nO (g:=g) h3 (show i<ts.length by lia)
   refine⟨rfl,ao rfl (ao rfl (bu ⟨(by lia),bu ⟨rfl,ao rfl (?_)⟩⟩))⟩
   rw[Int.toNat_natCast,CZ,jk];cases hb:m.testBit i with
   | true =>
     refine(ao rfl (bM (aT.of (s2 _ _ h1)) (ai (j:=1) rfl) (ao rfl (bM (aT.of (s2 _ _ h2)) (ai (j:=i) hxc) (bM (aT.of (s2 _ _ hct)) (ai (j:=2) rfl) ⟨yH,s2.put hD,aj,?_⟩)))));rw[bG,if_pos hb,List.map_append,List.map_append];rfl
   | false =>
     refine⟨s2,yH,?_⟩;rw[bG,if_neg (by rw[hb];decide),List.append_nil]
  ·rintro acc H2 ⟨s2,yH,rfl⟩;refine⟨D,_,rfl,aZ.of yH,?_⟩;have e:lenOf ts m=(((List.range xs.length).filter (fun k=>m.testBit k)).map fun k=>(bO ts k).2.2).sum:=by
    unfold lenOf;rw[gK hm,qJ]
   rw[<-e];exact q H2 s2
theorem fN(T:Txt K mg a):aP P w K mg base cF 1 a.iE a.jN ["number"] vq:=by
 refine T.zD.ok mD (fun vs H Q E h=>?_) (fun cdv A outer s H vs Q E hr h=>?_)
 ·obtain⟨S,m,rfl,_⟩:=h;rfl
 ·obtain⟨S,m,rfl,rfl,q⟩:=h;refine⟨_,(ak (aG (i:=1) mD.nd rfl (Or.inl rfl) gE)
   (ak (Bg PassesOwn.never (aD Eb (pv 0) ae (aC _)) (ak (aG (i:=1) mD.nd rfl (Or.inl rfl) (bN qL (pv 1) (bN cz (az bz (pv 0) ae) ae (aC _)) (aC _)))
   (au (aG (i:=0) mD.nd rfl (Or.inl rfl) (az cR (pv 0) ae)))))
   (au (aE (pv 1))))),?_⟩
  refine DH ?_;intro cj cM eY gD;refine⟨fun k σ H2=>∃(n:Nat) (c:Bool),σ=[some (.int ((n:Nat):Int)),some (.bl c)]/\H2=H/\(∀ d,m<2^d->∃ e,n<2^e/\RM.cy (fun j=>m.testBit j) d=(c^^RM.cy (fun j=>n.testBit j) e))/\n=k,⟨m,m,false,rfl,rfl,fun d hd=>⟨d,hd,by rw[Bool.false_xor]⟩,rfl⟩,?_⟩
  rintro k σ H2 ⟨n,c,rfl,rfl,hc,rfl⟩;refine(ao rfl (bu (ao rfl (jj (fun hpos=>?_) (fun hpos=>?_)))))
  ·have hpos:(0:Int)<((n:Nat):Int):=mX hpos;refine⟨fun σ H3=>∃(n' : Nat) (c:Bool),σ=[some (.int ((n' : Nat):Int)),some (.bl c)]/\H3=H2/\(∀ d,m<2^d->∃ e,n'<2^e/\RM.cy (fun j=>m.testBit j) d=(c^^RM.cy (fun j=>n'.testBit j) e))/\n'<n,fun σ H3 ⟨n',c,z1,z2,z3,z4⟩=>⟨n',z4,n',c,z1,z2,z3,rfl⟩,?_⟩
   refine(ao rfl (ao rfl (bu ⟨(jW rfl),rfl,rfl,ao rfl (bu ⟨⟨by decide,by decide⟩,n/2,c^^decide (n%2=1),?_,rfl,fun d hd=>?_,by lia⟩)⟩)))
   ·show[some (V.int (((n:Nat):Int)/2)),some (V.bl (!decide (V.bl c=V.bl (decide (V.int (((n:Nat):Int)%2)=V.int 1)))))]=_;rw[EI,HN];have:(!decide (c=decide (n%2=1)))=(c^^decide (n%2=1)):=by
     cases c<;>cases decide (n%2=1)<;>rfl
    rw[this];rfl
   ·obtain⟨e,he,hce⟩:=hc d hd;cases e with
    | zero=>exact absurd he (by lia)
    | succ e =>
      rw[zQ]at hce;exact⟨e,by rw[Nat.pow_succ]at he;lia,by rw[hce,Bool.xor_assoc]⟩
  ·have hz:n=0:=by
    have : ¬(0:Int)<((n:Nat):Int):=fun z=>hpos (e7 z)
    lia
   subst hz;refine(ao rfl (q c fun d hd=>?_))
   obtain⟨e,he,hce⟩:=hc d hd;rw[hce,RM.jx fun k _=>Nat.zero_testBit k,Bool.xor_false]
theorem lq(T:Txt K mg a):aP P w K mg base cF 2 a.fZ a.iP ["web","marks"] xM:=by
 have fN:aP P w K mg base cF 1 a.iE a.jN ["number"] vq:=fN T;have eF:aP P w K mg base cF 1 a.gp a.iD ["web","some"] kL:=eF T;have cT:aP P w K mg base cF 1 a.eE a.fK ["web","some"] vp:=cT T;have gC:aP P w K mg base cF 1 a.gB a.iX ["one","more"] uo:=gC T;refine T.pX.ok gP (fun vs H Q E h=>?_) (fun cdv A outer s H vs Q E hr h=>?_)
 ·obtain⟨w,p,ts,g,m,rfl,_⟩:=h;rfl
 ·obtain⟨wb,p,ts,g,m,rfl,hw,q⟩:=h;refine⟨_,(ak (aG (i:=2) gP.nd rfl (Or.inl rfl) cu)
   (ak (dj PassesOwn.never rfl (yK (by rfl) T.bq (aa ae (aa (az je ae (aF (fS K) (by rfl) T.cW PySem.boot_len (aa (ay (bT K) (pv 0) ae (fun _ _=>rfl)) af))) af))) (aA (i:=3) gP.nd rfl (Or.inl rfl))
   (au (bx (PW.pt (zV (gk (aB fN (hr.mono (by decide)) (by rfl) T.tU T.uc T.tV .nil aX (aa (az kP (pv 3) (pv 1)) af))) (ve (aD lZ (aB eF (hr.mono (by decide)) (by rfl) T.qA T.qD T.qB .nil aX (aa (pv 0) (aa (pv 3) af))) cu (aC _))))) (au (aG (i:=2) gP.nd rfl (Or.inl rfl) (aB gC (hr.mono (by decide)) (by rfl) T.uN T.uW T.uO .nil aX (aa (pv 2) (aa (aB cT (hr.mono (by decide)) (by rfl) T.mK T.mP T.mL .nil aX (aa (pv 0) (aa (pv 3) af))) af))))) aR)))
   (au (aE (pv 2))))),?_⟩
  refine wV ?_;intro cj cM eY gD;obtain⟨bt,xs,h1,h2,h3⟩:=id hw.ex;have qJ:=h3.length;have wl:=g.len;have Js:(1:Int)*2^((xs.length:Nat):Int).toNat=((2^ts.length:Nat):Int):=by rw[oW,qJ]
  have pos:=Nat.two_pow_pos ts.length;have big:(2:Nat)^ts.length<=2^24:=Nat.pow_le_pow_right (by decide) wl
  refine(ao rfl (bM (aT.of h1) (ai (j:=1) rfl) (m6 rfl (.inr (aT.of h2)) (bu ⟨⟨by lia,by lia,by decide⟩,1,((2^ts.length:Nat):Int),congrArg (fun z=>[V.int 1,V.int z]) Js,⟨by decide,by decide,by lia,by lia⟩,?_⟩))))
  refine cP (lo:=1) (n:=(((2^ts.length:Nat):Int)-1).toNat) (fun i σ H2=>∃ o v3,σ=[some (.ref wb),some (.int (m:Int)),some (oV o),v3]/\aq H H2/\oK g.N (lF ts) m (i+1) o) ⟨none,none,rfl,aq.refl _,fun r hr rg=>absurd (show r=0 by lia) rg.1⟩ ?_ ?_
  ·rintro i D' σ H2 hi ⟨o,v3,rfl,s2,lb⟩;obtain⟨r,Lv⟩:∃ r,r=i+1:=⟨_,rfl⟩;have e1:(1:Int)+(i:Int)=(r:Int):=by lia
   rw[e1];have hlt:r<2^ts.length:=by lia
   rw[<-Lv]at lb;have eb:Builtin.bitAnd ((r:Nat):Int) (m:Int)=((r&&&m:Nat):Int):=and_int r m;refine(ao rfl (ao rfl (bu ⟨_,r&&&m,rfl,eb,fun v hv=>(ao rfl (?_))⟩)))
   have hv2:v=g.N.par r m:=by
    rw[hv ts.length (Nat.lt_of_le_of_lt Nat.and_le_left hlt)];exact RM.bS fun k _=>Nat.testBit_and ..
   cases Lw:v with
   | false=>exact dS ⟨o,_,rfl,s2,by rw[<-Lv];exact lb.skip (fun z=>by rw[<-hv2,Lw]at z;cases z.2)⟩
   | true =>
     refine dm (ao rfl (ao rfl ⟨wb,p,ts,g,_,r,rfl,rfl,hw.same s2,hlt,fun rg D H3 t0 acc v0 _ s3 _ _ _ _=>?_,fun nr H3 s3=>?_⟩))
     ·refine⟨rfl,ao rfl (nh (fun z=>nomatch z) ?_)⟩
      refine(ao rfl (ao rfl (ao rfl ⟨wb,p,ts,g,_,r,rfl,rfl,hw.same (s2.trans s3),hlt,fun H4 s4=>?_⟩)))
      refine⟨o,_,rfl,some (RM.lst o (lenOf ts r)),ao rfl ⟨(s2.trans s3).trans s4,?_⟩⟩;rw[wm hlt,<-Lv];exact lb.put rg (by rw[<-hv2,Lw])
     ·exact⟨rfl,ao rfl (m3 rfl ⟨o,_,rfl,s2.trans s3,by rw[<-Lv];exact lb.skip fun z=>nr z.1⟩)⟩
  ·rintro σ H2 ⟨o,v3,rfl,s2,lb⟩;rw[show(((2^ts.length:Nat):Int)-1).toNat+1=2^ts.length by lia]at lb
   exact(ao rfl (q o H2 s2 lb))
theorem fO(T:Txt K mg a):aP P w K mg base cF 1 a.iF a.jO ["web","side"] vt:=by
 refine T.zE.ok mE (fun vs H Q E h=>?_) (fun cdv A outer s H vs Q E hr h=>?_)
 ·obtain⟨w,p,ts,g,l,xs,rfl,_⟩:=h;rfl
 ·obtain⟨wb,p,ts,g,l,zs,rfl,hw,hl,q⟩:=h;refine⟨_,(ak (aG (i:=2) mE.nd rfl (Or.inl rfl) ae)
   (ak (dj PassesOwn.never rfl (aV (by rfl) T.bq (aa (aF (fS K) (by rfl) T.cW PySem.boot_len (aa (ay (bT K) (pv 0) ae (fun _ _=>rfl)) af)) af)) (aA (i:=3) mE.nd rfl (Or.inl rfl))
   (au (bx (aD qL (bN (QT K) (ay (bT K) (ay (bT K) (ay (bT K) (pv 0) ae (fun _ _=>rfl)) (pv 3) (fun _ _=>rfl)) ae (fun _ _=>rfl)) (pv 1) (by with_unfolding_all rfl)) (bN (QT K) (ay (bT K) (ay (bT K) (ay (bT K) (pv 0) ae (fun _ _=>rfl)) (pv 3) (fun _ _=>rfl)) ae (fun _ _=>rfl)) (pv 1) (by with_unfolding_all rfl)) (aC _)) (au (aG (i:=2) mE.nd rfl (Or.inl rfl) (az cG (pv 2) (az je ae (pv 3))))) aR)))
   (au (aE (pv 2))))),?_⟩
  refine DI ?_;intro cj cM eY gD;obtain⟨bt,xs,h1,h2,h3⟩:=id hw.ex;have qJ:=h3.length;have wl:=g.len;refine(ao rfl (bM (aT.of h1) (ai (j:=1) rfl) (m6 rfl (.inr (aT.of h2)) (ao rfl ⟨(by lia),(by lia),?_⟩))))
  refine cP (lo:=0) (n:=(xs.length:Int).toNat) (fun j σ H2=>∃ v3,σ=[some (.ref wb),some (.ref l),some (.int ((maskOf (fun k=>decide (g.N.a k∈zs)^^decide (g.N.b k∈zs)) j:Nat):Int)),v3]/\H2=H) ⟨none,rfl,rfl⟩ ?_ ?_
  ·rintro j D' σ H2 hj ⟨v3,rfl,rfl⟩;rw[Int.toNat_natCast,qJ]at hj;rw[Int.zero_add];obtain⟨c,hxc,hct⟩:=nO (g:=g) h3 hj;refine(ao rfl (bM (aT.of h1) (ai (j:=1) rfl) (ao rfl (bM (aT.of h2) (ai (j:=j) hxc) (bM (aT.of hct) (ai (j:=0) rfl) (ao rfl (m6 rfl (.inl (aZ.of hl)) ⟨rfl,oX _,?_⟩)))))));refine(ao rfl (bM (aT.of h1) (ai (j:=1) rfl) (ao rfl (bM (aT.of h2) (ai (j:=j) hxc) (bM (aT.of hct) (ai (j:=1) rfl) (ao rfl (m6 rfl (.inl (aZ.of hl)) ⟨rfl,oX _,rfl,ao rfl (?_)⟩)))))));rw[nM,nM];have hms:maskOf (fun k=>decide (g.N.a k∈zs)^^decide (g.N.b k∈zs)) (j+1)=maskOf (fun k=>decide (g.N.a k∈zs)^^decide (g.N.b k∈zs)) j+(if(decide (g.N.a j∈zs)^^decide (g.N.b j∈zs))=true then 2^j else 0):=Nat.add_comm _ _
   have yes:(decide (g.N.a j∈zs)^^decide (g.N.b j∈zs))=true->((maskOf (fun k=>decide (g.N.a k∈zs)^^decide (g.N.b k∈zs)) j:Nat):Int)+1*2^((j:Nat):Int).toNat=((maskOf (fun k=>decide (g.N.a k∈zs)^^decide (g.N.b k∈zs)) (j+1):Nat):Int):=fun z=>by
    rw[hms,if_pos z,oW]
    lia
   have no:(decide (g.N.a j∈zs)^^decide (g.N.b j∈zs))=false->maskOf (fun k=>decide (g.N.a k∈zs)^^decide (g.N.b k∈zs)) (j+1)=maskOf (fun k=>decide (g.N.a k∈zs)^^decide (g.N.b k∈zs)) j:=fun z=>by
    rw[hms,if_neg (by rw[z];decide),Nat.add_zero]
   cases e1:decide (g.N.a j∈zs)<;>cases e2:decide (g.N.b j∈zs)
   ·exact dS ⟨_,by rw[no (by rw[e1,e2];rfl)];rfl,rfl⟩
   ·exact dm (ao rfl (ao rfl (bu ⟨⟨by lia,by lia,by decide⟩,bu ⟨_,by rw[<-yes (by rw[e1,e2];rfl)];rfl,rfl⟩⟩)))
   ·exact dm (ao rfl (ao rfl (bu ⟨⟨by lia,by lia,by decide⟩,bu ⟨_,by rw[<-yes (by rw[e1,e2];rfl)];rfl,rfl⟩⟩)))
   ·exact dS ⟨_,by rw[no (by rw[e1,e2];rfl)];rfl,rfl⟩
  ·rintro σ H2 ⟨v3,rfl,rfl⟩;rw[Int.toNat_natCast,qJ];exact(ao rfl (q))
end
def ic(p:Nat)(ts:List dU)(g:aL p ts)(m:Nat):List Nat:=(List.range p).filter fun x=>g.N.par (g.N.trail ts.length x) m
theorem Jc{p:Nat}{ts:List dU}{g:aL p ts}{m:Nat}:g.N.cut (fun x=>decide (x∈ic p ts g m))=g.N.cut fun x=>g.N.par (g.N.trail g.N.n x) m:=RM.Fx fun x hx=>by
 unfold ic;rw[Bool.eq_iff_iff,decide_eq_true_eq,List.mem_filter,List.mem_range];exact⟨fun z=>z.2,fun z=>⟨hx,z⟩⟩
def Cu:Sp:=fun vs H Q _=>∃ w p ts,∃ g:aL p ts,∃ m:Nat,vs=[.ref w,.int (m:Int)]/\bU H w p ts/\m<2^ts.length/\
 (((∀ C,g.N.cut C≠m)/\∀ H',aq H H'->Q .eS H')\/(m=g.N.cut (fun x=>decide (x∈ic p ts g m))/\∀ l H',H l=none->aq H H'->H' l=some (.lst (bf (ic p ts g m)))->Q (.ref l) H'))
structure xN(p:Nat)(ts:List dU)(g:aL p ts)(m:Nat)(H0:Hp)(D:Addr)(A:RM.Ap)(H:Hp):Prop where
 same:aq H0 H
 new:H0 D=none
 lst:H D=some (.lst (FG A p))
 snd:m=g.N.cut (fun x=>decide (x∈ic p ts g m))->∀ x b,A x=some b->x<p->b=decide (x∈ic p ts g m)
section
variable {p:Nat}{ts:List dU}{g:aL p ts}{m:Nat}{H0 H H' : Hp}{D:Addr}{A:RM.Ap}
theorem xN.go(h:xN p ts g m H0 D A H)(s:aq H H'):xN p ts g m H0 D A H':=⟨h.same.trans s,h.new,s _ _ h.lst,h.snd⟩
theorem xN.put(h:xN p ts g m H0 D A H){x:Nat}{b:Bool}(hb:m=g.N.cut (fun x=>decide (x∈ic p ts g m))->x<p->b=decide (x∈ic p ts g m)):xN p ts g m H0 D (RM.wo A x b) (upd H D (.lst ((FG A p).set x (.int (b.toNat:Int))))):=by
 refine⟨h.same.put h.new,h.new,by rw[aj,KC],fun hc y c hy yp=>?_⟩
 by_cases e:y=x
 ·subst e;rw[RM.rG]at hy;rw[<-Option.some.inj hy];exact hb hc yp
 ·rw[RM.rH e]at hy;exact h.snd hc y c hy yp
end
theorem KR(n:Nat)(v:V):(List.replicate n [v]).flatten=List.replicate n v:=by
 induction n with
 | zero=>rfl
 | succ n ih=>rw[List.replicate_succ,List.flatten_cons,ih];rfl
section
variable {P:Program}{w:World}{K:bI}{mg:iI}{base:Heap}{a:tH}
theorem qH(T:Txt K mg a):aP P w K mg base cF 2 a.ko a.mG ["web","marks"] Cu:=by
 have fO:aP P w K mg base cF 1 a.iF a.jO ["web","side"] vt:=fO T;refine T.xu.ok cI (fun vs H Q E h=>?_) (fun cdv A outer s H vs Q E hr h=>?_)
 ·obtain⟨w,p,ts,g,m,rfl,_⟩:=h;rfl
 ·obtain⟨wb,p,ts,g,m,rfl,hw,hm,q⟩:=h;refine⟨_,(ak (aG (i:=2) cI.nd rfl (Or.inr rfl) (az GU (bQ (aa cu af)) (ay (bT K) (pv 0) ae (fun _ _=>rfl))))
   (ak (dj PassesOwn.never rfl (aV (by rfl) T.bq (aa (ay (bT K) (pv 0) ae (fun _ _=>rfl)) af)) (aA (i:=3) cI.nd rfl (Or.inl rfl))
   (au (bx (aD jf (ay (m5 K) (pv 2) (pv 3) (fun _ _=>rfl)) cu (aC _)) (ak (jd ae (sQ (pv 2) (pv 3) set_list))
   (au (dj PassesOwn.never rfl (aV (by rfl) T.bq (aa (ay (bT K) (pv 0) ae (fun _ _=>rfl)) af)) (aA (i:=4) cI.nd rfl (Or.inl rfl))
   (au (dj PassesOwn.never rfl (aV (by rfl) T.bq (aa (aF (fS K) (by rfl) T.cW PySem.boot_len (aa (ay (bT K) (pv 0) ae (fun _ _=>rfl)) af)) af)) (aA (i:=5) cI.nd rfl (Or.inl rfl))
   (ak (jd (gF (CY) (ay (bT K) (ay (bT K) (pv 0) ae (fun _ _=>rfl)) (pv 5) (fun _ _=>rfl)) kA (iK ae)) (Gy K (n:=2) rfl (bh (aA (i:=6) cI.nd rfl (Or.inl rfl)) (bh (aA (i:=7) cI.nd rfl (Or.inl rfl)) gf))))
   (ak (aG (i:=8) cI.nd rfl (Or.inl rfl) (az kP (az qh (pv 1) (pv 5)) ae))
   (au (dj PassesOwn.never rfl (yb K (bQ (aa (cZ (aa (pv 6) (aa (pv 7) af))) (aa (cZ (aa (pv 7) (aa (pv 6) af))) af)))) (Gy K (n:=2) rfl (bh (aA (i:=9) cI.nd rfl (Or.inl rfl)) (bh (aA (i:=10) cI.nd rfl (Or.inl rfl)) gf)))
   (au (bx (PW.pt (zV (aD lZ (ay (m5 K) (pv 2) (pv 9) (fun _ _=>rfl)) cu (aC _)) (ve (aD jf (ay (m5 K) (pv 2) (pv 10) (fun _ _=>rfl)) cu (aC _))))) (au (jd (az vE (ay (m5 K) (pv 2) (pv 9) (fun _ _=>rfl)) (pv 8)) (sQ (pv 2) (pv 10) set_list))) aR))))))))))) aR)))
   (ak (gJ (i:=11) cI.nd rfl rfl (own:=["point"]) (fq:=["apart"]) (js:=[2]) (aN (ah gn) ["web","marks","apart","least","turn","k","one","other","bit","a","b","side"]) rfl (aV (by rfl) T.bq (aa (ay (bT K) (pv 0) ae (fun _ _=>rfl)) af)) (fun _ _ _ _=>(aA (i:=0) (show(["point","apart"]:List Str).Nodup by decide +kernel) rfl (Or.inl rfl))) (fun _ _ _ _=>(di (aD cz (ay (m5 K) (pv 1) (pv 0) (fun _ _=>rfl)) ae (aC _)))) (fun _ _ _ _=>(pv 0)))
   (ak (bx (aD cz (aB fO (hr.mono (by decide)) (by rfl) T.tW T.ud T.tX .nil aX (aa (pv 0) (aa (pv 11) af))) (pv 1) (aC _)) (au (aE (pv 11))) aR)
   (au (aE cu)))))),?_⟩
  refine B3 ?_;intro cj cM eY gD lu nR nS uI wQ wR lK nU rR rS;obtain⟨bt,xs,h1,h2,h3⟩:=id hw.ex;have qJ:=h3.length;have wp:=g.p2;have wl:=g.len;have big:(24:Nat)<sizeLine:=by decide
  refine⟨dl rfl,fun l0 CO=>(ao rfl (bM (aT.of (aq.new CO _ _ h1)) (ai (j:=0) rfl) ⟨l0,_,_,rfl,rfl,aj,(by lia),(by lia),?_,fun D hD=>?_⟩))⟩
  ·rw[List.length_singleton]
   lia
  have s0:aq H (upd H l0 (.lst [.eS])):=aq.new CO;have hD0:H D=none:=s0.free hD;have e0:(List.replicate (p:Int).toNat [V.eS]).flatten=FG (fun _=>none) p:=by
   rw[Ig,Int.toNat_natCast];exact KR p .eS
  have Uk:xN p ts g m H D (fun _=>none) (upd (upd H l0 (.lst [.eS])) D (.lst (List.replicate (p:Int).toNat [V.eS]).flatten)):=⟨s0.trans (aq.new hD),hD0,by rw[aj,e0],fun _ x b z=>nomatch z⟩
  generalize upd (upd H l0 (.lst [.eS])) D (.lst (List.replicate (p:Int).toNat [V.eS]).flatten)=H2 at Uk;refine(ao rfl (bM (aT.of (Uk.same _ _ h1)) (ai (j:=0) rfl) (ao rfl ⟨(by lia),(by lia),?_⟩)))
  refine cP (lo:=0) (n:=(p:Int).toNat) (fun i σ H4=>∃ v3 v4 v5 v6 v7 v8 v9 v10,σ=[some (.ref wb),some (.int (m:Int)),some (.ref D),v3,v4,v5,v6,v7,v8,v9,v10,none]/\∃ A,xN p ts g m H D A H4/\RM.MM g.N A/\∀ y,y<i->(A y).isSome=true) ⟨none,none,none,none,none,none,none,none,rfl,_,Uk,fun _ _=>rfl,fun y hy=>by lia⟩ ?_ ?_
  ·rintro i D' σ H4 hi ⟨v3,v4,v5,v6,v7,v8,v9,v10,rfl,A,Jv,Ul,DV⟩;rw[Int.toNat_natCast]at hi;rw[Int.zero_add];refine(ao rfl (ao rfl (nq (aZ.of Jv.lst) (ai (j:=i) (nP hi)) ⟨rfl,ao rfl (?_)⟩)));cases hA:A i with
   | some b =>
     refine nj (fun z=>nomatch z) ⟨_,_,_,_,_,_,_,_,rfl,A,Jv,Ul,fun y hy=>?_⟩
     by_cases e:y=i
     ·rw[e,hA];rfl
     ·exact DV y (by lia)
   | none =>
     refine sU rfl ?_;have Um:((FG A p).set i (.int 0))=(FG A p).set i (.int ((false:Bool).toNat:Int)):=rfl;refine(ao rfl (ao rfl ⟨D,_,_,i,rfl,rfl,Jv.lst,(by rw[oZ];exact kB hi),?_⟩))
     rw[Um];have Ri:=Jv.put (x:=i) (b:=false) (fun hc _=>by
      have hr:=RM.Dj (RM.Kz Ul DV hA);have:i∉ic p ts g m:=fun z=>by
       unfold ic at z;have:=(List.mem_filter.mp z).2;have hr:g.N.trail ts.length i=0:=hr;rw[hr,RM.BG]at this;cases this
      exact(h8 this).symm)
     have tn0:RM.Tn g.N 0 (RM.wo A i false):=RM.Tn.start (show i<g.N.p from hi) hA
     have Pw:∀ y,y<i+1->(RM.wo A i false y).isSome=true:=fun y hy=>by
      by_cases e:y=i
      ·rw[e,RM.rG];rfl
      ·rw[RM.rH e];exact DV y (by lia)
     generalize upd H4 D (.lst ((FG A p).set i (.int ((false:Bool).toNat:Int))))=H5 at Ri;generalize RM.wo A i false=A5 at Ri tn0 Pw;refine(ao rfl (bM (aT.of (Ri.same _ _ h1)) (ai (j:=0) rfl) (ao rfl ⟨(by lia),(by lia),?_⟩)))
     refine cP (lo:=0) (n:=(p:Int).toNat) (fun t σ H6=>∃ v4 v5 v6 v7 v8 v9 v10,σ=[some (.ref wb),some (.int (m:Int)),some (.ref D),some (.int (i:Int)),v4,v5,v6,v7,v8,v9,v10,none]/\∃ A,xN p ts g m H D A H6/\RM.Tn g.N t A/\∀ y,y<i+1->(A y).isSome=true) ⟨_,_,_,_,_,_,_,rfl,_,Ri,tn0,Pw⟩ ?_ ?_
     ·rintro t D2 σ H6 ht ⟨v4,v5,v6,v7,v8,v9,v10,rfl,A6,Px,Rj,Nb⟩;refine(ao rfl (bM (aT.of (Px.same _ _ h1)) (ai (j:=1) rfl) (m6 rfl (.inr (aT.of (Px.same _ _ h2))) (ao rfl ⟨(by lia),(by lia),?_⟩))))
      refine cP (lo:=0) (n:=(xs.length:Int).toNat) (fun k σ H7=>∃ v4 v5 v6 v7 v8 v9 v10,σ=[some (.ref wb),some (.int (m:Int)),some (.ref D),some (.int (i:Int)),v4,v5,v6,v7,v8,v9,v10,none]/\∃ A,xN p ts g m H D A H7/\RM.Ps g.N A6 A (2*k)) ⟨_,_,_,_,_,_,_,rfl,_,Px,RM.Ps.start⟩ ?_ ?_
      ·rintro k D3 σ H7 hk ⟨v4,v5,v6,v7,v8,v9,v10,rfl,A7,Nu,Py⟩;rw[Int.toNat_natCast]at hk;rw[Int.zero_add];have nH:k<ts.length:=by lia
       obtain⟨ct,ex,hct⟩:=nO (g:=g) h3 nH;have ha:g.N.a k<p:=g.N.al k nH;have hb:g.N.b k<p:=g.N.bl k nH;refine(ao rfl (bM (aT.of (Nu.same _ _ h1)) (ai (j:=1) rfl) (ao rfl (bM (aT.of (Nu.same _ _ h2)) (ai (j:=k) ex) (?_)))));refine(ao rfl ⟨ct,_,rfl,Nu.same _ _ hct,fun c2 H8 s8 hc2=>?_⟩)
       rw[EM]at hc2;refine⟨c2,_,rfl,aT.of hc2,rfl,_,_,rfl,_,_,rfl,rfl,?_⟩;refine(ao rfl (ao rfl (bu ⟨(by lia),bu (?_)⟩)))
       have ap8:=Nu.go s8;generalize Rc:g.N.a k=ua at ha;generalize Rf:g.N.b k=ub at hb;refine(ao rfl (ao rfl ⟨dl rfl,fun t1 Po=>(ao rfl (ao rfl ⟨dl rfl,fun t2 Na=>⟨dl rfl,fun L hL=>⟨L,rfl,⟨_,aZ.of aj⟩,?_⟩⟩⟩))⟩))
       have hf:aq H8 (upd (upd (upd H8 t1 (.tup [.int (ua:Int),.int (ub:Int)])) t2 (.tup [.int (ub:Int),.int (ua:Int)])) L (.lst [.ref t1,.ref t2])):=((aq.new Po).trans (aq.new Na)).trans (aq.new hL);have hLD:L≠D:=fun z=>by
        have:=((aq.new Po).trans (aq.new Na)).free hL;rw[z,ap8.lst]at this;cases this
       have hL9:upd (upd (upd H8 t1 (.tup [.int (ua:Int),.int (ub:Int)])) t2 (.tup [.int (ub:Int),.int (ua:Int)])) L (.lst [.ref t1,.ref t2]) L=some (.lst [.ref t1,.ref t2]):=aj;have Pz:upd (upd (upd H8 t1 (.tup [.int (ua:Int),.int (ub:Int)])) t2 (.tup [.int (ub:Int),.int (ua:Int)])) L (.lst [.ref t1,.ref t2]) t1=some (.tup [.int (ua:Int),.int (ub:Int)]):=aq.new hL _ _ (aq.new Na _ _ aj);have PB:upd (upd (upd H8 t1 (.tup [.int (ua:Int),.int (ub:Int)])) t2 (.tup [.int (ub:Int),.int (ua:Int)])) L (.lst [.ref t1,.ref t2]) t2=some (.tup [.int (ub:Int),.int (ua:Int)]):=aq.new hL _ _ aj;have ap9:=ap8.go hf;generalize upd (upd (upd H8 t1 (.tup [.int (ua:Int),.int (ub:Int)])) t2 (.tup [.int (ub:Int),.int (ua:Int)])) L (.lst [.ref t1,.ref t2])=H9 at ap9 hL9 Pz PB;refine ir (K:=K) (a:=L) (xs:=[.ref t1,.ref t2]) (fun j σ Nv=>∃ v4 v9 v10,σ=[some (.ref wb),some (.int (m:Int)),some (.ref D),some (.int (i:Int)),v4,some (.int (k:Int)),some (.int (ua:Int)),some (.int (ub:Int)),some (.int (Builtin.bitAnd ((m:Int)/2^(k:Int).toNat) 1)),v9,v10,none]/\(∃ A,xN p ts g m H D A Nv/\RM.Ps g.N A6 A (2*k+j))/\Nv L=some (.lst [.ref t1,.ref t2])/\iU H9 Nv)
        ⟨_,_,_,rfl,⟨A7,ap9,Py⟩,hL9,(aq.refl _).tups⟩ (fun j σ H7 _ ⟨_,_,_,_,_,z,_⟩=>aZ.of z) ?_ ?_
       ·rintro j y D4 σ Nv hj ⟨v4,v9,v10,rfl,⟨Nx,xO,Jd⟩,Nc,Je⟩;have O7:j<2:=(xZ.mp hj).1;have q1:(2*k+j)/2=k:=by lia
        obtain⟨cc,x1,x2,rfl,hcc,e1,e2,y1,y3,HV⟩:∃(cc:Addr) (x1 x2:Nat),y = .ref cc/\Nv cc=some (.tup [.int (x1:Int),.int (x2:Int)])/\RM.eA g.N (2*k+j)=x1/\RM.oA g.N (2*k+j)=x2/\x1<p/\x2<p/\∀ C:Nat->Bool,(C x1^^(C (g.N.a k)^^C (g.N.b k)))=C x2:=by
         unfold RM.eA RM.oA;rw[q1,Rc,Rf]
         match j,hj with
         | 0,hj =>
           refine⟨t1,ua,ub,(Option.some.inj hj).symm,Je _ _ Pz,if_pos (by lia),if_pos (by lia),ha,hb,fun C=>?_⟩
           cases C ua<;>cases C ub<;>rfl
         | 1,hj =>
           refine⟨t2,ub,ua,(Option.some.inj hj).symm,Je _ _ PB,if_neg (by lia),if_neg (by lia),hb,ha,fun C=>?_⟩
           cases C ua<;>cases C ub<;>rfl
        refine⟨cc,_,rfl,aT.of hcc,rfl,_,_,rfl,_,_,rfl,rfl,?_⟩;refine(ao rfl (ao rfl (nq (aZ.of xO.lst) (ai (j:=x1) (nP y1)) ⟨rfl,ao rfl (?_)⟩)));cases Rk:Nx x1 with
        | none=>exact m3 rfl ⟨_,_,_,rfl,⟨Nx,xO,Jd.skip (fun z=>by rw[e1,Rk]at z;cases z)⟩,Nc,Je⟩
        | some b1 =>
          refine nh (fun z=>nomatch z) (ao rfl (ao rfl (nq (aZ.of xO.lst) (ai (j:=x2) (nP y3)) ⟨rfl,ao rfl (?_)⟩)))
          cases Lx:Nx x2 with
          | some b2=>exact nj (fun z=>nomatch z) ⟨_,_,_,rfl,⟨Nx,xO,Jd.skip (fun _=>by rw[e2,Lx];rfl)⟩,Nc,Je⟩
          | none =>
            refine sU rfl (ao rfl (ao rfl (nq (aZ.of xO.lst) (ai (j:=x1) (by rw[nP y1,Rk];rfl)) (ao rfl (bu (ao rfl (ao rfl ⟨D,_,_,x2,rfl,rfl,xO.lst,(by rw[oZ];exact kB y3),?_⟩)))))))
            dsimp only;rw[sx];refine⟨_,_,_,rfl,⟨_,xO.put fun hc _=>?_,?_⟩,?_,Je.trans (iU.put xO.lst)⟩
            ·have hk1:=congrArg (fun z=>z.testBit k) hc
             rw[RM.rC,e7 (show k<g.N.n from nH),Bool.true_and]at hk1
             rw[hk1,xO.snd hc x1 b1 Rk y1];exact HV fun x=>decide (x∈ic p ts g m)
            ·rw[<-e2];exact Jd.put (show(2*k+j)/2<g.N.n by rw[q1];exact nH) (by rw[e1,Rk];rfl) (by rw[e2];exact Lx) (by rw[e2];exact y3)
            ·rw[aQ hLD];exact Nc
       ·rintro σ Nv ⟨v4,v9,v10,rfl,⟨Nx,xO,Jd⟩,_,_⟩;exact⟨_,_,_,_,_,_,_,rfl,Nx,xO,Jd⟩
      ·rintro σ H7 ⟨v4,v5,v6,v7,v8,v9,v10,rfl,A7,Nu,Py⟩;rw[Int.toNat_natCast,qJ]at Py;exact⟨_,_,_,_,_,_,_,rfl,A7,Nu,Rj.next Py,fun y hy=>Py.low y (Nb y hy)⟩
     ·rintro σ H6 ⟨v4,v5,v6,v7,v8,v9,v10,rfl,A6,Px,Rj,Nb⟩;rw[Int.toNat_natCast]at Rj;exact⟨_,_,_,_,_,_,_,_,rfl,A6,Px,Rj.fin,Nb⟩
  ·rintro σ H4 ⟨v3,v4,v5,v6,v7,v8,v9,v10,rfl,A,Jv,Ul,DV⟩;rw[Int.toNat_natCast]at DV;refine(ao rfl (bM (aT.of (Jv.same _ _ h1)) (ai (j:=0) rfl) (ao rfl ⟨(by lia),(by lia),fun C hC=>bY (lo:=0) (m:=(p:Int).toNat) (lC (fun x=>decide (A x=some true)) H4 C) (.start hC) (fun i acc H2 _ pk=>pk.len) (dD (by lia)) ?_ ?_⟩)))
   ·intro i acc H5 hi pk;rw[Int.toNat_natCast]at hi;rw[Int.zero_add];refine⟨rfl,ao rfl (ao rfl (nq (aZ.of (pk.1 _ _ Jv.lst)) (ai (j:=i) (nP hi)) (?_)))⟩;have hs:=DV i hi;cases hA:A i with
    | none=>rw[hA]at hs;cases hs
    | some b =>
      refine⟨rfl,ao rfl (?_)⟩;cases b with
      | true=>exact(ao rfl (pk.yes hC (aq.refl _) (e7 hA)))
      | false=>exact pk.no (aq.refl _) (h8 (fun z=>by rw[hA]at z;cases z))
   intro acc H5 pk;have Uo:H5 C=some (.lst (bf ((List.range p).filter fun x=>decide (A x=some true)))):=by rw[pk.2.1,pk.2.2,Int.toNat_natCast]
   have s5:=Jv.same.trans pk.1;refine(ao rfl (ao rfl ⟨wb,p,ts,g,C,_,rfl,hw.same s5,Uo,?_⟩));refine(ao rfl ⟨rfl,ao rfl (?_)⟩);have dn:∀ u v:Nat,decide (V.int ((u:Nat):Int)=V.int ((v:Nat):Int))=decide (u=v):=fun u v=>decide_eq_decide.mpr ⟨fun z=>by have:=V.int.inj z;lia,fun z=>by rw[z]⟩
   rw[dn];rcases q with⟨hno,q⟩|⟨hc,q⟩
   ·rw[h8 (hno _)];exact dS (q H5 s5)
   ·have e:(List.range p).filter (fun x=>decide (A x=some true))=ic p ts g m:=by
     unfold ic;refine List.filter_congr fun x hx=>?_
     have hx:=List.mem_range.mp hx;have hs:=DV x hx;cases hA:A x with
     | none=>rw[hA]at hs;cases hs
     | some b =>
       have hb:=Jv.snd hc x b hA hx;have h2:decide (x∈ic p ts g m)=g.N.par (g.N.trail ts.length x) m:=by
        unfold ic;rw[Bool.eq_iff_iff,decide_eq_true_eq,List.mem_filter,List.mem_range];exact⟨fun z=>z.2,fun z=>⟨hx,z⟩⟩
       rw[<-h2,<-hb];cases b<;>rfl
    rw[e]at Uo ⊢;rw[e7 hc.symm];exact dm (ao rfl (q C H5 (Jv.same.free hC) s5 Uo))
end
def zR:Sp:=fun vs H Q _=>∃(w b:Addr) (p:Nat) (ts:List dU) (W:List (List Pr)) (m:Nat),vs=[.ref w,.int (m:Int),.ref b]/\bU H w p ts/\Hw p ts/\ff H b W/\Kp p W/\
 (tF p ts m W->Q (.bl true) H)/\(¬ tF p ts m W->Q (.bl false) H)
def Jf:Sp:=fun vs H Q _=>∃(b:Addr) (ys:List V) (R:List Pr) (k:Nat) (u:Bool) (x:Option Int),vs=[.ref b,.int (k:Int),.int (u.toNat:Int),oV x]/\H b=some (.tup ys)/\Paired (fb H) ys R/\k<R.length/\R.length<=10/\∀ b' ys' R' H',aq H H'->H' b' = some (.tup ys')->Paired (fb H') ys' R'->R'.length=R.length->Q (.ref b') H'
def Cv:Sp:=fun vs H Q _=>∃(x:Option Int) (k:Nat) (l:Int),vs=[oV x,.int (k:Int),.int l]/\k<5/\∀ y H',aq H H'->Q (oV y) H'
section
variable {P:Program}{w:World}{K:bI}{mg:iI}{base:Heap}{a:tH}
theorem oM(T:Txt K mg a):aP P w K mg base cF 1 a.iY a.kE ["value","way","length"] Cv:=by
 refine T.uP.ok AF (fun vs H Q E h=>?_) (fun cdv A outer s H vs Q E hr h=>?_)
 ·obtain⟨x,k,l,rfl,_⟩:=h;rfl
 ·obtain⟨x,k,l,rfl,hk,q⟩:=h;refine⟨_,(ak (bx (aD jf (pv 0) cu (aC _)) (au (aE (pv 1))) aR)
   (au (aE (ay (m5 K) (bQ (aa (az cG (pv 0) ae) (aa (az jS (pv 0) ae) (aa (az cG (pv 0) (pv 2)) (aa (az jS (pv 0) (pv 2)) (aa cu af)))))) (pv 1) (fun _ _=>rfl))))),?_⟩
  refine AG ?_;intro cj cM;cases x with
  | none=>exact(ao rfl ⟨rfl,ao rfl (sU rfl (ao rfl (q (some (k:Int)) H (aq.refl _))))⟩)
  | some x =>
    refine(ao rfl ⟨rfl,ao rfl (nj (fun z=>nomatch z) (ao rfl (bu (ao rfl (bu (ao rfl (ao rfl (bu (ao rfl (ao rfl (bu ⟨dl rfl,fun m hm=>?_⟩)))))))))))⟩)
    have fin:∃ y,([V.int (x+1),.int (x-1),.int (x+l),.int (x-l),.eS]:List V)[k]?=some (oV y):=by
     match k,hk with
     | 0,_=>exact⟨some _,rfl⟩
     | 1,_=>exact⟨some _,rfl⟩
     | 2,_=>exact⟨some _,rfl⟩
     | 3,_=>exact⟨some _,rfl⟩
     | 4,_=>exact⟨none,rfl⟩
    obtain⟨y,hy⟩:=fin;exact(ao rfl (nq (aZ.of aj) (ai hy) (q y _ (aq.new hm))))
theorem pC(T:Txt K mg a):aP P w K mg base cF 1 a.lS a.pA ["row","at","s","value"] Jf:=by
 refine T.zF.ok wW (fun vs H Q E h=>?_) (fun cdv A outer s H vs Q E hr h=>?_)
 ·obtain⟨b,ys,R,k,u,x,rfl,_⟩:=h;rfl
 ·obtain⟨b,ys,R,k,u,x,rfl,hb,pr,hk,hR,q⟩:=h;refine⟨_,(ak (aG (i:=4) wW.nd rfl (Or.inl rfl) (cD (K8 K) (by rfl) T.xw PyProof.Rows.boot_list (aa (ay (bT K) (pv 0) (pv 1) (fun _ _=>rfl)) af)))
   (ak (jd (pv 3) (sQ (pv 4) (pv 2) set_list))
   (au (aE (az Ez (az Ez (gF (CY) (pv 0) kA (iK (pv 1))) (cZ (aa (cD (yS K) (by rfl) T.pB PyProof.Rows.boot_tuple (aa (pv 4) af)) af))) (gF (CY) (pv 0) (iK (az cG (pv 1) ae)) kA)))))),?_⟩
  refine DJ ?_;intro cj cM;have MZ:=pr.length;obtain⟨c,ec,hc⟩:=RowW.at pr hk;refine(ao rfl (ao rfl (bM (aT.of hb) (ai ec) (m6 rfl (.inr (aT.of hc)) (fun l hl=>?_)))))
  have hu:u.toNat<2:=by cases u<;>decide
  refine(ao rfl (ao rfl (ao rfl ⟨l,_,_,u.toNat,rfl,rfl,aj,kB hu,?_⟩)));obtain⟨q',hq'⟩:∃ q' : Pr,([oV (cg R k).1,oV (cg R k).2]:List V).set u.toNat (oV x)=[oV q'.1,oV q'.2]:=by
   cases u with
   | false=>exact⟨(x,(cg R k).2),rfl⟩
   | true=>exact⟨((cg R k).1,x),rfl⟩
  rw[hq'];have s1:aq H (upd (upd H l (.lst [oV (cg R k).1,oV (cg R k).2])) l (.lst [oV q'.1,oV q'.2])):=(aq.new hl).put hl;have h1:upd (upd H l (.lst [oV (cg R k).1,oV (cg R k).2])) l (.lst [oV q'.1,oV q'.2]) l=some (.lst [oV q'.1,oV q'.2]):=aj;generalize upd (upd H l (.lst [oV (cg R k).1,oV (cg R k).2])) l (.lst [oV q'.1,oV q'.2])=H1 at s1 h1;refine(ao rfl (ao rfl (ao rfl ⟨b,_,rfl,s1 _ _ hb,fun c1 G1 t1 hc1=>?_⟩)))
  rw[OF]at hc1;refine(ao rfl ⟨l,_,rfl,.inl ⟨aZ.of (t1 _ _ h1),fun l2 hl2=>⟨dl rfl,fun c3 hc3=>?_⟩⟩⟩)
  have t2:aq G1 (upd (upd G1 l2 (.tup [oV q'.1,oV q'.2])) c3 (.tup [.ref l2])):=(aq.new hl2).trans (aq.new hc3);have h2:upd (upd G1 l2 (.tup [oV q'.1,oV q'.2])) c3 (.tup [.ref l2]) l2=some (.tup [oV q'.1,oV q'.2]):=aq.new hc3 _ _ aj;have h3:upd (upd G1 l2 (.tup [oV q'.1,oV q'.2])) c3 (.tup [.ref l2]) c3=some (.tup [.ref l2]):=aj;generalize upd (upd G1 l2 (.tup [oV q'.1,oV q'.2])) c3 (.tup [.ref l2])=G2 at t2 h2 h3;refine⟨c1,c3,_,_,rfl,rfl,t2 _ _ hc1,h3,dl (Nat.ble_eq.mpr (by rw[List.length_take];show _+1<=_;lia)),fun c4 G4 t4 hc4=>?_⟩
  have PC:=(t1.trans t2).trans t4;refine(ao rfl (ao rfl (bu (ao rfl ⟨b,_,rfl,PC _ _ (s1 _ _ hb),fun c5 G5 t5 hc5=>?_⟩))))
  rw[show((k:Int)+1)=((k+1:Nat):Int) from by lia,cutD]at hc5
  refine⟨c4,c5,_,_,rfl,rfl,t5 _ _ hc4,hc5,dl (Nat.ble_eq.mpr (by rw[List.length_append,List.length_take,List.length_drop];show _+1+_<=_;lia)),fun c6 G6 t6 hc6=>?_⟩
  have s06:=((s1.trans PC).trans t5).trans t6;have PD:Paired (fb G6) ys R:=Paired.imp' (fun _ _ z=>z.same s06) pr
  refine q c6 _ (R.take k++[q']++R.drop (k+1)) G6 s06 hc6 (wd (wd (Ao k PD) (.cons ⟨l2,rfl,((t4.trans t5).trans t6) _ _ h2⟩ .nil)) (Aq (k+1) PD)) ?_;rw[List.length_append,List.length_append,List.length_take,List.length_drop];show _+1+_=_
  lia
theorem Cw(R:List Pr)(t:dU)(u:Bool):Ar R t u=true↔∀ sb:Bool,rD (sel (cg R t.1.toNat) sb) (sel (cg R t.2.1.toNat) (sb^^u)) t.2.2=true:=by
 unfold Ar;rw[Bool.and_eq_true]
 constructor
 ·rintro⟨h1,h2⟩ sb;cases sb with
  | false=>rw[Bool.false_xor];exact h1
  | true=>rw[Bool.true_xor];exact h2
 ·intro h;have h1:=h false;have h2:=h true;rw[Bool.false_xor]at h1;rw[Bool.true_xor]at h2;exact⟨h1,h2⟩
theorem mW(T:Txt K mg a):aP P w K mg base cF 1 a.g7 a.ju ["web","marks","worths"] zR:=by
 refine T.sC.ok bW (fun vs H Q E h=>?_) (fun cdv A outer s H vs Q E hr h=>?_)
 ·obtain⟨w,b,p,ts,W,m,rfl,_⟩:=h;rfl
 ·obtain⟨wb,b,p,ts,W,m,rfl,hw,Wb,hW,sq,q1,q2⟩:=h;refine⟨_,(ak (dj PassesOwn.never rfl (aV (by rfl) T.bq (aa (ay (bT K) (pv 0) ae (fun _ _=>rfl)) af)) (aA (i:=3) bW.nd rfl (Or.inl rfl))
   (ak (aG (i:=4) bW.nd rfl (Or.inl rfl) (ay (bT K) (pv 2) (pv 3) (fun _ _=>rfl)))
   (ak (bx (aD qL (ay (bT K) (ay (bT K) (pv 4) (pv 3) (fun _ _=>rfl)) ae (fun _ _=>rfl)) ae (aC _)) (au (aE gE)) aR)
   (au (dj PassesOwn.never rfl (aV (by rfl) T.bq (aa (aF (fS K) (by rfl) T.cW PySem.boot_len (aa (ay (bT K) (pv 0) ae (fun _ _=>rfl)) af)) af)) (aA (i:=5) bW.nd rfl (Or.inl rfl))
   (ak (jd (ay (bT K) (ay (bT K) (pv 0) ae (fun _ _=>rfl)) (pv 5) (fun _ _=>rfl)) (Gy K (n:=3) rfl (bh (aA (i:=6) bW.nd rfl (Or.inl rfl)) (bh (aA (i:=7) bW.nd rfl (Or.inl rfl)) (bh (aA (i:=8) bW.nd rfl (Or.inl rfl)) gf)))))
   (au (dj PassesOwn.never rfl (aV (by rfl) T.bq (aa ae af)) (aA (i:=9) bW.nd rfl (Or.inl rfl))
   (ak (aG (i:=10) bW.nd rfl (Or.inl rfl) (ay (bT K) (ay (bT K) (pv 4) (pv 6) (fun _ _=>rfl)) (pv 9) (fun _ _=>rfl)))
   (ak (aG (i:=11) bW.nd rfl (Or.inl rfl) (ay (bT K) (ay (bT K) (pv 4) (pv 7) (fun _ _=>rfl)) (az vE (pv 9) (az kP (az qh (pv 1) (pv 5)) ae)) (fun _ _=>rfl)))
   (au (bx (PW.pt (mY (aD qL (bN jf (pv 10) cu (aC _)) (bN jf (pv 11) cu (aC _)) (aC _)) (jc (PW.pt (zV (aD lZ (pv 10) cu (aC _)) (ve (aD Eb (aF Bj (by rfl) T.Ln PyProof.Rows.boot_abs (aa (az jS (pv 10) (pv 11)) af)) (pv 8) (aC _)))))))) (au (aE gE)) aR))))))))))))
   (au (aE gE))),?_⟩
  refine yt ?_;intro cj cM eY gD lu nR nS uI wQ wR lK;obtain⟨bt,xs,h1,h2,h3⟩:=id hw.ex;obtain⟨ws,hws,Gr⟩:=id hW;have qJ:=h3.length;have wp:=Wb.Q0;have wl:=Wb.len;refine(ao rfl (bM (aT.of h1) (ai (j:=0) rfl) (ao rfl ⟨(by lia),(by lia),?_⟩)))
  refine ly (lo:=0) (n:=(p:Int).toNat) (fun i σ H2=>∃ v3 v4 v5 v6 v7 v8 v9 v10 v11,σ=[some (.ref wb),some (.int (m:Int)),some (.ref b),v3,v4,v5,v6,v7,v8,v9,v10,v11]/\H2=H/\∀ j,j<i->HR ts m j (W.getD j [])) ⟨none,none,none,none,none,none,none,none,none,rfl,rfl,fun j hj=>by lia⟩ ?_ ?_
  ·rintro i σ H2 hi ⟨v3,v4,v5,v6,v7,v8,v9,v10,v11,rfl,rfl,ok⟩;rw[Int.toNat_natCast]at hi;rw[Int.zero_add];obtain⟨x,hx,bR,ys,rfl,Gs,CC⟩:=jB Gr (i:=i) (by rw[sq.1];exact hi) []
   have rl:=sq.row hi;obtain⟨bP,eP,M1⟩:=RowW.at CC (i:=i) (by lia)
   refine(ao rfl (ao rfl (bM (aT.of hws) (ai (j:=i) hx) (?_))));refine(ao rfl (ao rfl (bM (aT.of Gs) (ai (j:=i) eP) (bM (aT.of M1) (ai (j:=0) rfl) ⟨EK _,_,rfl,?_⟩))))
   by_cases h0:(cg (W.getD i []) i).1=some 0
   case neg =>
    refine nh (fun z=>h0 ?_) (q2 (fun z=>h0 (z i hi).1))
    have e:=EA (cg (W.getD i []) i).1;rw[e7 z]at e;exact mX e.symm
   refine m3 (by rw[h0];rfl) ?_
   refine(ao rfl (bM (aT.of h1) (ai (j:=1) rfl) (m6 rfl (.inr (aT.of h2)) (ao rfl ⟨(by lia),(by lia),?_⟩))))
   refine ly (lo:=0) (n:=(xs.length:Int).toNat) (fun k σ H3=>∃ v5 v6 v7 v8 v9 v10 v11,σ=[some (.ref wb),some (.int (m:Int)),some (.ref b),some (.int (i:Int)),some (.ref bR),v5,v6,v7,v8,v9,v10,v11]/\H3=H2/\∀ j,j<k->Ar (W.getD i []) (bO ts j) (m.testBit j)=true) ⟨v5,v6,v7,v8,v9,v10,v11,rfl,rfl,fun j hj=>by lia⟩ ?_ ?_
   ·rintro k σ H3 hk ⟨v5,v6,v7,v8,v9,v10,v11,rfl,rfl,Jt⟩;rw[Int.toNat_natCast]at hk;rw[Int.zero_add];obtain⟨t,ht,ct,ect,hct⟩:=Paired.vL h3 (i:=k) (x:=xs[k]) (by simp[hk])
    have ex:xs[k]?=some (.ref ct):=by rw[<-ect];simp[hk]
    have Dp:bO ts k=t:=by
     unfold bO;rw[List.getD_eq_getElem?_getD,ht];rfl
    obtain⟨g0,g1,g2,g3⟩:=Wb.QZ.ends t (nB ht);obtain⟨c1,e1,f1⟩:=RowW.at CC (i:=t.1.toNat) (by lia)
    obtain⟨c2,e2,f2⟩:=RowW.at CC (i:=t.2.1.toNat) (by lia)
    have i1:z7 ys t.1=some (.ref c1):=by
     have:=ai e1
     rwa [Int.toNat_of_nonneg g0]at this
    have i2:z7 ys t.2.1=some (.ref c2):=by
     have:=ai e2
     rwa [Int.toNat_of_nonneg g2]at this
    refine(ao rfl (bM (aT.of h1) (ai (j:=1) rfl) (ao rfl (bM (aT.of h2) (ai (j:=k) ex) ⟨ct,_,rfl,aT.of hct,rfl,_,_,rfl,_,_,rfl,_,_,rfl,rfl,?_⟩))));refine(ao rfl ⟨(by decide),(by decide),?_⟩)
    refine ly (lo:=0) (n:=(2:Int).toNat) (fun n σ H4=>∃ v9 v10 v11,σ=[some (.ref wb),some (.int (m:Int)),some (.ref b),some (.int (i:Int)),some (.ref bR),some (.int (k:Int)),some (.int t.1),some (.int t.2.1),some (.int t.2.2),v9,v10,v11]/\H4=H3/\∀ sb:Bool,sb.toNat<n->rD (sel (cg (W.getD i []) t.1.toNat) sb) (sel (cg (W.getD i []) t.2.1.toNat) (sb^^m.testBit k)) t.2.2=true) ⟨v9,v10,v11,rfl,rfl,fun sb hs=>by lia⟩ ?_ ?_
    ·rintro n σ H4 hn ⟨v9,v10,v11,rfl,rfl,Uq⟩;rw[Int.zero_add];obtain⟨sb,Pu⟩:∃ sb:Bool,n=sb.toNat:=by
      have:n=0\/n=1:=by
       have hn:n<2:=hn
       lia
      rcases this with rfl|rfl
      ·exact⟨false,rfl⟩
      ·exact⟨true,rfl⟩
     subst Pu;refine(ao rfl (ao rfl (bM (aT.of Gs) (i1) (ao rfl (bM (aT.of f1) (ai (we _ sb)) (?_))))));refine(ao rfl (ao rfl (bM (aT.of Gs) (i2) (ao rfl (ao rfl (ao rfl (bu ⟨(by lia),bu (bu (bM (aT.of f2) ((by rw[sx];exact ai (we _ _))) (?_)))⟩)))))))
     have Ls:rD (sel (cg (W.getD i []) t.1.toNat) sb) (sel (cg (W.getD i []) t.2.1.toNat) (sb^^m.testBit k)) t.2.2=true->∀ sb' : Bool,sb'.toNat<sb.toNat+1->rD (sel (cg (W.getD i []) t.1.toNat) sb') (sel (cg (W.getD i []) t.2.1.toNat) (sb'^^m.testBit k)) t.2.2=true:=fun hN sb' hs=>by
      by_cases e:sb' = sb
      ·rw[e];exact hN
      ·exact Uq sb' (by cases sb<;>cases sb'<;>simp_all)
     have bad:rD (sel (cg (W.getD i []) t.1.toNat) sb) (sel (cg (W.getD i []) t.2.1.toNat) (sb^^m.testBit k)) t.2.2=false->¬ tF p ts m W:=fun hN z=>by
      have z1:=(z i hi).2 k (by lia)
      rw[Dp,Cw]at z1;rw[z1 sb]at hN;cases hN
     generalize sel (cg (W.getD i []) t.1.toNat) sb=X at Ls bad;generalize sel (cg (W.getD i []) t.2.1.toNat) (sb^^m.testBit k)=Y at Ls bad;cases X with
     | none =>
       cases Y with
       | none=>exact(ao rfl ⟨rfl,ao rfl ⟨rfl,rfl,ao rfl (m3 rfl (ao rfl ⟨rfl,ao rfl (m3 rfl (dS ⟨_,_,_,rfl,rfl,Ls rfl⟩))⟩))⟩⟩)
       | some y=>exact(ao rfl ⟨rfl,ao rfl ⟨rfl,rfl,ao rfl (nh (fun z=>by
        have:=V.bl.inj z;rw[vo,vo]at this;cases this) (dm (q2 (bad rfl))))⟩⟩)
     | some x =>
       cases Y with
       | none=>exact(ao rfl ⟨rfl,ao rfl ⟨rfl,rfl,ao rfl (nh (fun z=>by
        have:=V.bl.inj z;rw[vo,vo]at this;cases this) (dm (q2 (bad rfl))))⟩⟩)
       | some y =>
         refine(ao rfl ⟨rfl,ao rfl ⟨rfl,rfl,ao rfl (m3 (by rw[h8 (fun z=>nomatch z),h8 (fun z=>nomatch z)]) (ao rfl ⟨rfl,ao rfl (nh (fun z=>nomatch z) (ao rfl (ao rfl (bu (ao rfl (ao rfl (bu (ao rfl (jj (fun hgt=>?_) (fun hle=>?_))))))))))⟩))⟩⟩)
         ·exact q2 (bad (h8 (by have:=mX hgt;lia)))
         ·exact⟨_,_,_,rfl,rfl,Ls (e7 (by
           have : ¬(t.2.2<(if x-y<0 then -(x-y) else x-y)):=fun z=>hle (e7 z)
           lia))⟩
    ·rintro σ H4 ⟨v9,v10,v11,rfl,rfl,Uq⟩;refine⟨_,_,_,_,_,_,_,rfl,rfl,fun j hj=>?_⟩
     by_cases e:j=k
     ·rw[e,Dp,Cw];exact fun sb=>Uq sb (by cases sb<;>decide)
     ·exact Jt j (by lia)
   ·rintro σ H3 ⟨v5,v6,v7,v8,v9,v10,v11,rfl,rfl,Jt⟩;rw[Int.toNat_natCast,qJ]at Jt;refine⟨_,_,_,_,_,_,_,_,_,rfl,rfl,fun j hj=>?_⟩
    by_cases e:j=i
    ·rw[e];exact⟨h0,Jt⟩
    ·exact ok j (by lia)
  ·rintro σ H2 ⟨v3,v4,v5,v6,v7,v8,v9,v10,v11,rfl,rfl,ok⟩;rw[Int.toNat_natCast]at ok;exact q1 ok
end
theorem pD{K:bI}{H:Hp}:∀ l:List Int,DatVs K H (l.map V.int) (l.map PyData.int)
 | []=>.nil
 | x::r=>.cons (.int x) (pD r)
theorem lay_ints:∀ l:List Int,PyData.canLayAll0 (l.map PyData.int)=true
 | []=>rfl
 | x::r=>by
   have ih:=lay_ints r;have e:(PyData.int x).canLay0=true:=by simp[PyData.canLay0]
   simp only[List.map_cons,PyData.canLayAll0,ih,Bool.and_true,e]
theorem zS:∀ l:List Int,PyData.depthAll (l.map PyData.int)=0
 | []=>rfl
 | x::r=>by
   show max (PyData.depth (PyData.int x)) (PyData.depthAll (r.map PyData.int))=0;rw[zS r];rfl
theorem shaped_ints(l:List Int):SeqAt.shaped (.list (l.map PyData.int))=true:=by
 unfold SeqAt.shaped;have e:(PyData.list (l.map PyData.int)).canLay0=PyData.canLayAll0 (l.map PyData.int):=by simp[PyData.canLay0]
 rw[e,lay_ints,Bool.true_and];refine e7 ?_;have e2:PyData.depth (PyData.list (l.map PyData.int))=PyData.depthAll (l.map PyData.int)+1:=by simp[PyData.depth]
 rw[e2,zS]
 lia
theorem Cy:∀ l l' : List Int,PyData.eqvAll (l.map PyData.int) (l'.map PyData.int)=decide (l=l')
 | [],[]=>rfl
 | [],_::_=>rfl
 | _::_,[]=>rfl
 | x::l,y::l'=>by
   show((x==y)&&PyData.eqvAll (l.map PyData.int) (l'.map PyData.int))=decide (x::l=y::l');rw[Cy l l',Bool.eq_iff_iff];simp
theorem Jg(l l' : List Int):PyData.eqv (.list (l.map PyData.int)) (.list (l'.map PyData.int))=decide (l=l'):=Cy l l'
def oN:Sp:=fun vs H Q _=>∃ w p ts,∃ g:aL p ts,∃(l:Addr) (zs:List Int) (m:Nat),vs=[.ref w,.int (m:Int),.ref l]/\bU H w p ts/\H l=some (.lst (zs.map V.int))/\(∀ z∈zs,SS.Vz z)/\zs.length<=18/\∀ H' (d:Bool),aq H H'->(d=true↔Right p ts g m (.inl zs))->Q (.bl d) H'
theorem KS{l r:List Int}(hl:l.Pairwise (· < ·))(hr:r.Pairwise (· < ·))(h:∀ z,z∈l↔z∈r):l=r:=by
 induction l generalizing r with
 | nil =>
   cases r with
   | nil=>rfl
   | cons y r=>exact absurd ((h y).mpr List.mem_cons_self) (fun z=>nomatch z)
 | cons x l ih =>
   cases r with
   | nil=>exact absurd ((h x).mp List.mem_cons_self) (fun z=>nomatch z)
   | cons y r =>
     obtain⟨hx,hl2⟩:=List.pairwise_cons.mp hl;obtain⟨hy,OP⟩:=List.pairwise_cons.mp hr;have e:x=y:=by
      rcases List.mem_cons.mp ((h x).mp List.mem_cons_self) with e|e
      ·exact e
      ·rcases List.mem_cons.mp ((h y).mpr List.mem_cons_self) with e' | e'
       ·exact e'.symm
       ·have:=hy x e;have:=hx y e'
        lia
     subst e
     congr 1
     refine ih hl2 OP fun z=>⟨fun hz=>?_,fun hz=>?_⟩
     ·rcases List.mem_cons.mp ((h z).mp (CB _ hz)) with e|e
      ·have:=hx z hz
       lia
      ·exact e
     ·rcases List.mem_cons.mp ((h z).mpr (CB _ hz)) with e|e
      ·have:=hy z hz
       lia
      ·exact e
theorem DW{p:Nat}{ts:List dU}{g:aL p ts}{m:Nat}{zs ms:List Int}(hv:∀ z∈zs,SS.Vz z)(hup:ms.Pairwise (· < ·))(hms:∀ z∈ms,SS.Vz z)(hm:∀ z,SS.Vz z->(z∈ms↔z∈zs)):Right p ts g m (.inl zs)↔(ms=zs/\zs.filter (fun z=>decide (z<0\/(p:Int)<=z))=[]/\∃ xs:List Nat,zs=xs.map (fun x=>((x:Nat):Int))/\g.N.cut (fun x=>decide (x∈xs))=m):=by
 constructor
 ·rintro⟨xs,e,sd,hc⟩;refine⟨KS hup ?_ fun z=>⟨fun h=>(hm z (hms z h)).mp h,fun h=>(hm z (hv z h)).mpr h⟩,?_,xs,e,hc⟩
  ·rw[e];exact List.pairwise_map.mpr (sd.up.imp fun h=>by lia)
  ·rw[List.filter_eq_nil_iff];intro z hz;rw[e]at hz;obtain⟨x,hx,rfl⟩:=List.mem_map.mp hz;have:=sd.lt x hx;rw[decide_eq_true_eq]
   lia
 ·rintro⟨e1,e2,xs,e,hc⟩;refine⟨xs,e,⟨?_,fun x hx=>?_⟩,hc⟩
  ·rw[e1,e]at hup;exact(List.pairwise_map.mp hup).imp fun h=>by lia
  ·have:=List.filter_eq_nil_iff.mp e2 ((x:Nat):Int) (by rw[e];exact List.mem_map.mpr ⟨x,hx,rfl⟩)
   rw[decide_eq_true_eq]at this
   lia
theorem pF(xs:List Nat):(xs.map fun x=>((x:Nat):Int)).map V.int=bf xs:=by
 unfold bf;rw[List.map_map];rfl
section
variable {P:Program}{w:World}{K:bI}{mg:iI}{base:Heap}{a:tH}
theorem g9(T:Txt K mg a):aP P w K mg base cF 2 a.bB a.eW ["web","marks","side"] oN:=by
 have fO:aP P w K mg base cF 1 a.iF a.jO ["web","side"] vt:=fO T;refine T.kI.ok kg (fun vs H Q E h=>?_) (fun cdv A outer s H vs Q E hr h=>?_)
 ·obtain⟨w,p,ts,g,l,zs,m,rfl,_⟩:=h;rfl
 ·obtain⟨wb,p,ts,g,l,zs,m,rfl,hw,hl,hv,hn,q⟩:=h;refine⟨_,(ak (gJ (i:=3) kg.nd rfl rfl (own:=["point"]) (fq:=["web"]) (js:=[0]) (aN (ah bg) ["web","marks","side","out"]) rfl (yb K (pv 2)) (fun _ _ _ _=>(aA (i:=0) (show(["point","web"]:List Str).Nodup by decide +kernel) rfl (Or.inl rfl))) (fun _ _ _ _=>(di (PW.pt (mY (aD vF (pv 0) ae (aC _)) (jc (aD vG (pv 0) (ay (bT K) (pv 1) ae (fun _ _=>rfl)) (aC _))))))) (fun _ _ _ _=>(pv 0)))
   (ak (bx (PW.pt (mY (aD (Hf K hr.units) (aF (sortedS rfl) (by rfl) T.Ck PyProof.Rows.boot_sorted (aa (cD (OS K rfl) (by rfl) T.Lp PyProof.Rows.boot_set (aa (pv 2) af)) af)) (pv 2) (aC _)) (jc (aD (Hf K hr.units) (pv 3) (bQ af) (aC _))))) (au (aE gE)) aR)
   (au (aE (bN cz (aB fO (hr.mono (by decide)) (by rfl) T.tW T.ud T.tX .nil aX (aa (pv 0) (aa (pv 2) af))) (pv 1) (aC _)))))),?_⟩
  refine qv ?_;intro cj cM eY;obtain⟨bt,xs,h1,h2,h3⟩:=id hw.ex;refine(ao rfl ⟨l,rfl,⟨_,aZ.of hl⟩,fun O hO=>dw (xs:=zs.map V.int) (fun i ac H2=>aq H H2/\H2 O=some (.lst ac)/\ac=((zs.take i).filter (fun z=>decide (z<0\/(p:Int)<=z))).map V.int) ⟨aq.new hO,aj,by rw[List.take_zero];rfl⟩ (fun i ac H2 _ ⟨f1,f2,e⟩=>⟨aZ.of (f1 _ _ hl),f2,by rw[e,List.length_map];exact Nat.le_trans (List.length_filter_le _ _) (List.length_take_le _ _)⟩) (dD (by rw[List.length_map];lia)) ?_ ?_⟩)
  ·rintro i y ac H2 hy ⟨f1,f2,rfl⟩;rw[List.getElem?_map]at hy;obtain⟨z,hz,rfl⟩:=CD.mp hy;have yes:(z<0\/(p:Int)<=z)->aq H (upd H2 O (.lst (((zs.take i).filter (fun z=>decide (z<0\/(p:Int)<=z))).map V.int++[.int z])))/\upd H2 O (.lst (((zs.take i).filter (fun z=>decide (z<0\/(p:Int)<=z))).map V.int++[.int z])) O=some (.lst (((zs.take i).filter (fun z=>decide (z<0\/(p:Int)<=z))).map V.int++[.int z]))/\((zs.take i).filter (fun z=>decide (z<0\/(p:Int)<=z))).map V.int++[.int z]=((zs.take (i+1)).filter (fun z=>decide (z<0\/(p:Int)<=z))).map V.int:=fun h=>by
    refine⟨f1.put hO,aj,?_⟩;rw[List.take_add_one,hz,List.filter_append];show _=List.map V.int (_++List.filter _ [z]);rw[List.filter_cons,if_pos (e7 h),List.filter_nil,List.map_append];rfl
   refine⟨rfl,ao rfl (bu (ao rfl (jj (fun h=>?_) (fun h=>?_))))⟩
   ·have h:z<0:=mX h;exact dm (ao rfl ⟨f2,yes (.inl h)⟩)
   ·have h0 : ¬ z<0:=fun x=>h (e7 x)
    refine(ao rfl (ao rfl (bM (aT.of (f1 _ _ h1)) (ai (j:=0) rfl) (bu (ao rfl (jj (fun h=>?_) (fun h=>?_)))))))
    ·have h:(p:Int)<=z:=mX h;exact(ao rfl ⟨f2,yes (.inr h)⟩)
    ·have J2 : ¬(p:Int)<=z:=fun x=>h (e7 x)
     refine⟨f1,f2,?_⟩;rw[List.take_add_one,hz,List.filter_append];show _=List.map V.int (_++List.filter _ [z]);rw[List.filter_cons,if_neg (by rw[decide_eq_true_eq];lia),List.filter_nil,List.append_nil]
  rintro ac H2 ⟨f1,hO2,rfl⟩;rw[List.length_map,List.take_length]at hO2;refine(ao rfl ⟨l,zs,rfl,aZ.of (f1 _ _ hl),hv,hn,fun S hS=>⟨S,zs,rfl,aj,fun L ms hL hup hms hm=>?_⟩⟩)
  have s3:aq H (upd (upd H2 S (Ax (qM cF P w K mg base ["web","marks","side","out"] (Str.ofString "_law_side_stands") (ah bg) a.bB cdv A outer s H E).w S zs)) L (.lst (ms.map V.int))):=(f1.trans (aq.new hS)).trans (aq.new hL);have M5:upd (upd H2 S (Ax (qM cF P w K mg base ["web","marks","side","out"] (Str.ofString "_law_side_stands") (ah bg) a.bB cdv A outer s H E).w S zs)) L (.lst (ms.map V.int)) L=some (.lst (ms.map V.int)):=aj;have hO3:upd (upd H2 S (Ax (qM cF P w K mg base ["web","marks","side","out"] (Str.ofString "_law_side_stands") (ah bg) a.bB cdv A outer s H E).w S zs)) L (.lst (ms.map V.int)) O=some (.lst ((zs.filter (fun z=>decide (z<0\/(p:Int)<=z))).map V.int)):=((aq.new hS).trans (aq.new hL)) _ _ hO2
  generalize upd (upd H2 S (Ax (qM cF P w K mg base ["web","marks","side","out"] (Str.ofString "_law_side_stands") (ah bg) a.bB cdv A outer s H E).w S zs)) L (.lst (ms.map V.int))=H3 at s3 M5 hO3;have Nd:=s3 _ _ hl;have rs:=DW (p:=p) (ts:=ts) (g:=g) (m:=m) hv hup hms hm;refine(ao rfl ⟨_,_,.lst (aZ.of M5) (pD ms),.lst (aZ.of Nd) (pD zs),shaped_ints ms,shaped_ints zs,_,rfl,?_⟩);rw[Jg]
  by_cases e:ms=zs
  case neg =>
   rw[h8 e];exact dm (dm (q H3 false s3 ⟨(fun z=>nomatch z),fun z=>absurd (rs.mp z).1 e⟩))
  rw[e7 e];refine dS (ao rfl ⟨dl rfl,fun N hN=>⟨_,_,.lst (aZ.of (aq.new hN _ _ hO3)) (pD _),.lst (aZ.of aj) .nil,shaped_ints _,rfl,ao rfl (?_)⟩⟩)
  have s4:=s3.trans (aq.new (o:=.lst []) hN);generalize upd H3 N (.lst [])=H4 at s4;rw[show PyData.eqv (.list ((zs.filter (fun z=>decide (z<0\/(p:Int)<=z))).map PyData.int)) (.list [])=decide (zs.filter (fun z=>decide (z<0\/(p:Int)<=z))=[]) from Jg _ []]
  by_cases e2:zs.filter (fun z=>decide (z<0\/(p:Int)<=z))=[]
  case neg =>
   rw[h8 e2];exact dm (q H4 false s4 ⟨(fun z=>nomatch z),fun z=>absurd (rs.mp z).2.1 e2⟩)
  rw[e7 e2];obtain⟨xs,ex⟩:∃ xs:List Nat,zs=xs.map (fun x=>((x:Nat):Int)):=by
   refine⟨zs.map Int.toNat,?_⟩;rw[List.map_map];refine((List.map_congr_left fun z hz=>?_).trans (List.map_id _)).symm
   have:=List.filter_eq_nil_iff.mp e2 z hz;rw[decide_eq_true_eq]at this;show((z.toNat:Nat):Int)=z
   lia
  refine dS (ao rfl (ao rfl ⟨wb,p,ts,g,l,xs,rfl,hw.same s4,?_,_,rfl,rfl,?_⟩))
  ·rw[s4 _ _ hl,ex,pF]
  ·refine q H4 _ s4 ?_;rw[rs,decide_eq_true_eq]
   constructor
   ·intro z;exact⟨e,e2,xs,ex,by have:=V.int.inj z;lia⟩
   ·rintro⟨_,_,xs',ex',hc⟩;have:xs' = xs:=by
     rw[ex]at ex';have:=congrArg (List.map Int.toNat) ex';rw[List.map_map,List.map_map]at this;have f:(Int.toNat∘fun x:Nat=>((x:Nat):Int))=id:=funext fun x=>by show((x:Nat):Int).toNat=x;lia
     rw[f,List.map_id,List.map_id]at this;exact this.symm
    subst this;rw[hc]
end
def u3:Sp:=fun vs H Q _=>∃(w b:Addr) (p:Nat) (ts:List dU),∃ g:aL p ts,∃(W:List (List Pr)) (m:Nat) (z:Int),vs=[.ref w,.int (m:Int),.int z,.ref b]/\bU H w p ts/\ff H b W/\Kp p W/\m<2^ts.length/\
 ∀ H' (d:Bool),aq H H'->(d=true↔xJ p ts g m (.inr (z,W)))->Q (.bl d) H'
def Jh(W:List (List Pr))(l:Int)(j:Nat):Prop:=∀ i,i<j->∀ d,(cg (W.getD i []) i).2=some d->l<=d
section
variable {P:Program}{w:World}{K:bI}{mg:iI}{base:Heap}{a:tH}
theorem hU(T:Txt K mg a):aP P w K mg base cF 2 a.dG a.eX ["web","marks","ring","worths"] u3:=by
 have fN:aP P w K mg base cF 1 a.iE a.jN ["number"] vq:=fN T;have eF:aP P w K mg base cF 1 a.gp a.iD ["web","some"] kL:=eF T;have cT:aP P w K mg base cF 1 a.eE a.fK ["web","some"] vp:=cT T;have mW:aP P w K mg base cF 1 a.g7 a.ju ["web","marks","worths"] zR:=mW T;refine T.kJ.ok kh (fun vs H Q E h=>?_) (fun cdv A outer s H vs Q E hr h=>?_)
 ·obtain⟨w,b,p,ts,g,W,m,z,rfl,_⟩:=h;rfl
 ·obtain⟨wb,b,p,ts,g,W,m,z,rfl,hw,hW,sq,hm,q⟩:=h;refine⟨_,(ak (bx (PW.pt (mY (aD vF (pv 2) ae (aC _)) (jc (aD vG (pv 2) (az je ae (aF (fS K) (by rfl) T.cW PySem.boot_len (aa (ay (bT K) (pv 0) ae (fun _ _=>rfl)) af))) (aC _))))) (au (aE gE)) aR)
   (ak (bx (PW.pt (mY (kN (gk (aB fN (hr.mono (by decide)) (by rfl) T.tU T.uc T.tV .nil aX (aa (az kP (pv 2) (pv 1)) af)))) (jc (aD jf (aB eF (hr.mono (by decide)) (by rfl) T.qA T.qD T.qB .nil aX (aa (pv 0) (aa (pv 2) af))) cu (aC _))))) (au (aE gE)) aR)
   (ak (bx (kN (gk (aB mW (hr.mono (by decide)) (by rfl) T.AU T.A3 T.AV .nil aX (aa (pv 0) (aa (pv 1) (aa (pv 3) af)))))) (au (aE gE)) aR)
   (ak (gJ (i:=4) kh.nd rfl rfl (own:=["point"]) (fq:=["worths"]) (js:=[3]) (aN (ah bH) ["web","marks","ring","worths","back"]) rfl (aV (by rfl) T.bq (aa (ay (bT K) (pv 0) ae (fun _ _=>rfl)) af)) (fun _ _ _ _=>(aA (i:=0) (show(["point","worths"]:List Str).Nodup by decide +kernel) rfl (Or.inl rfl))) (fun _ _ _ _=>gI) (fun _ _ _ _=>(ay (bT K) (ay (bT K) (ay (bT K) (pv 1) (pv 0) (fun _ _=>rfl)) (pv 0) (fun _ _=>rfl)) ae (fun _ _=>rfl))))
   (au (aE (bN cz (aF (fS K) (by rfl) T.cW PySem.boot_len (aa (dB (own:=["far"]) (fq:=["web","ring"]) (js:=[0,2]) (aN (ah bH) ["web","marks","ring","worths","back"]) rfl (yb K (pv 4)) (fun _ _ _ _=>(aA (i:=0) (show(["far","web","ring"]:List Str).Nodup by decide +kernel) rfl (Or.inl rfl))) (fun _ _ _ _=>(di (PW.pt (zV (aD lZ (pv 0) cu (aC _)) (ve (aD vF (pv 0) (aB cT (hr.mono (by decide)) (by rfl) T.mK T.mP T.mL .nil aX (aa (pv 1) (aa (pv 2) af))) (aC _))))))) (fun _ _ _ _=>(pv 0))) af)) ae (aC _)))))))),?_⟩
  refine qw ?_;intro cj cM eY gD lu nR nS;obtain⟨bt,xs,h1,h2,h3⟩:=id hw.ex;have qJ:=h3.length;have wl:=g.len;have p10:=g.p2;have Js:(1:Int)*2^((xs.length:Nat):Int).toNat=((2^ts.length:Nat):Int):=by rw[oW,qJ]
  have no:∀ H',aq H H'->¬ xJ p ts g m (.inr (z,W))->Q (.bl false) H':=fun H' s' h=>q H' false s' ⟨(fun y=>nomatch y),fun y=>absurd y h⟩
  refine(ao rfl (bu (ao rfl (jj (fun h=>?_) (fun h=>?_)))))
  ·have h:z<0:=mX h;exact dm (no H (aq.refl _) fun⟨r,e,_⟩=>by lia)
  have z0 : ¬ z<0:=fun x=>h (e7 x)
  refine(ao rfl (ao rfl (bM (aT.of h1) (ai (j:=1) rfl) (m6 rfl (.inr (aT.of h2)) (bu ⟨⟨by lia,by lia,by decide⟩,bu (ao rfl (jj (fun h=>?_) (fun h=>?_)))⟩)))))
  ·have h:=mX h;rw[Js]at h;exact no H (aq.refl _) fun⟨r,e,hr,_⟩=>by lia
  have z1 : ¬((2^ts.length:Nat):Int)<=z:=fun x=>h (e7 (by rw[Js];exact x))
  obtain⟨r,rfl⟩:=Int.eq_ofNat_of_zero_le (show 0<=z by lia)
  have hlt:r<2^ts.length:=by lia
  have eb:Builtin.bitAnd ((r:Nat):Int) (m:Int)=((r&&&m:Nat):Int):=and_int r m;have back:∀ r',((r:Nat):Int)=((r' : Nat):Int)->r' = r:=fun r' h=>by lia
  refine(ao rfl (ao rfl (bu ⟨_,r&&&m,rfl,eb,fun v hv=>(ao rfl (?_))⟩)))
  have hv2:v=g.N.par r m:=by
   rw[hv ts.length (Nat.lt_of_le_of_lt Nat.and_le_left hlt)];exact RM.bS fun k _=>Nat.testBit_and ..
  have PF:=Kx (g:=g) (r:=r) hm;cases Lw:v with
  | false =>
    refine dm (dm (no H (aq.refl _) fun⟨r',e,_,_,ho,_⟩=>?_))
    rw[back r' e]at ho;have:=PF.mp ho;rw[<-hv2,Lw]at this;cases this
  | true =>
    have ho:=PF.mpr (by rw[<-hv2,Lw])
    refine dS (ao rfl (ao rfl ⟨wb,p,ts,g,_,r,rfl,rfl,hw,hlt,fun rg D H3 t0 acc v0 _ s3 _ _ _ _=>?_,fun nr H3 s3=>?_⟩))
    case refine_2 =>
     refine⟨rfl,ao rfl (sU rfl (no H3 s3 fun⟨r',e,_,rg,_⟩=>?_))⟩
     rw[back r' e]at rg;exact nr rg
    refine⟨rfl,ao rfl (nj (fun z=>nomatch z) ?_)⟩
    refine(ao rfl (ao rfl (ao rfl ⟨wb,b,p,ts,W,m,rfl,hw.same s3,g.Ka,hW.same s3,sq,fun st=>(ao rfl (dS ?_)),fun T7=>(ao rfl (dm (no H3 s3 fun⟨r',e,_,_,_,st,_⟩=>T7 st)))⟩)))
    obtain⟨ws,hws,Gr⟩:=id (hW.same s3);have T6:ws.length=p:=by rw[Gr.length,sq.1]
    refine(ao rfl (bM (aT.of (s3 _ _ h1)) (ai (j:=0) rfl) (ao rfl ⟨by lia,by lia,fun D hD=>bY (lo:=0) (m:=((p:Nat):Int).toNat) (fun i acc H2=>aq H3 H2/\H2 D=some (.lst acc)/\acc=oG W i) ⟨aq.new hD,aj,rfl⟩ (fun i acc H2 _ z=>⟨z.2.1,by rw[z.2.2];unfold oG;rw[List.length_map,List.length_range];exact Nat.le_refl _⟩) (dD (by lia)) ?_ ?_⟩)))
    ·rintro i acc H4 hi ⟨s4,Gq,e4⟩;rw[Int.zero_add];rw[Int.toNat_natCast]at hi;obtain⟨x,hx,bR,ys,rfl,Gs,CC⟩:=jB Gr (i:=i) (by rw[sq.1];exact hi) []
     have rl:=sq.row hi;obtain⟨bP,eP,M1⟩:=RowW.at CC (i:=i) (by lia)
     refine⟨rfl,ao rfl (ao rfl (bM (aT.of (s4 _ _ hws)) (ai (j:=i) hx) (ao rfl (bM (aT.of (s4 _ _ Gs)) (ai (j:=i) eP) (bM (aT.of (s4 _ _ M1)) (ai (j:=1) rfl) ⟨Gq,s4.put hD,aj,?_⟩)))))⟩;rw[zP,e4]
    rintro acc H4 ⟨s4,Gq,rfl⟩;rw[Int.toNat_natCast]at Gq;have hw4:=hw.same (s3.trans s4);refine(ao rfl ⟨D,rfl,⟨_,aZ.of Gq⟩,fun D2 yH=>dw (xs:=oG W p) (fun j ac H5=>aq H4 H5/\H5 D2=some (.lst ac)/\ac.length<=j/\(ac=[]↔Jh W (lenOf ts r) j)) ⟨aq.new yH,aj,Nat.le_refl _,⟨fun _ i hi=>by lia,fun _=>rfl⟩⟩ (fun j ac H5 _ ⟨f1,f2,f3,_⟩=>⟨aZ.of (f1 _ _ Gq),f2,f3⟩) (dD (by unfold oG;rw[List.length_map,List.length_range];lia)) ?_ ?_⟩)
    ·rintro j y ac H5 hy ⟨s5,xC,al,ih⟩;unfold oG at hy;rw[List.getElem?_map]at hy;obtain⟨j',hj,rfl⟩:=CD.mp hy;have ej:j' = j:=by
      obtain⟨h1,h2⟩:=xZ.mp hj;rw[List.getElem_range]at h2;exact h2.symm
     subst ej;have nx:(∀ d,(cg (W.getD j' []) j').2=some d->lenOf ts r<=d)->(ac=[]↔Jh W (lenOf ts r) (j'+1)):=fun h=>by
      rw[ih];exact⟨fun z i hi=>by
       by_cases e:i=j'
       ·subst e;exact h
       ·exact z i (by lia),fun z i hi=>z i (by lia)⟩
     cases ho:(cg (W.getD j' []) j').2 with
     | none=>exact⟨rfl,ao rfl ⟨rfl,ao rfl (m3 rfl (dS ⟨s5,xC,by lia,nx (fun d hd=>by rw[ho]at hd;cases hd)⟩))⟩⟩
     | some d =>
       refine⟨rfl,ao rfl ⟨rfl,ao rfl (nh (fun z=>nomatch z) (ao rfl (ao rfl (ao rfl ⟨wb,p,ts,g,_,r,rfl,rfl,hw4.same s5,hlt,fun H6 s6=>(bu (ao rfl (jj (fun h=>?_) (fun h=>?_))))⟩))))⟩⟩
       ·have h:d<lenOf ts r:=mX h;refine(ao rfl ⟨s6 _ _ xC,(s5.trans s6).put yH,aj,by rw[List.length_append];show _+1<=_;lia,?_⟩)
        refine⟨fun z=>absurd z (by simp),fun z=>?_⟩
        have:=z j' (by lia) d ho
        lia
       ·have h : ¬ d<lenOf ts r:=fun x=>h (e7 x)
        exact⟨s5.trans s6,s6 _ _ xC,by lia,nx (fun d' hd=>by rw[ho]at hd;cases hd;lia)⟩
    rintro ac H5 ⟨s5,xC,_,ih⟩;have ol:(oG W p).length=p:=by unfold oG;rw[List.length_map,List.length_range]
    rw[ol]at ih;refine(m6 rfl (.inl (aZ.of xC)) ⟨rfl,?_⟩);refine q H5 _ ((s3.trans s4).trans s5) ?_;rw[decide_eq_true_eq]
    constructor
    ·intro z;have e:ac=[]:=List.length_eq_zero_iff.mp (by have:=V.int.inj z;lia)
     exact⟨r,rfl,hlt,rg,ho,st,ih.mp e⟩
    ·rintro⟨r',e,_,_,_,_,hN⟩;rw[back r' e]at hN;rw[ih.mpr hN];rfl
end
def Sm(n:Nat):List Int ⊕ (Int×List (List Pr))->Prop
 | .inl zs=>(∀ z∈zs,SS.Vz z)/\zs.length<=n
 | .inr _=>True
def Cz:Sp:=fun vs H Q _=>∃(w b:Addr) (p:Nat) (ts:List dU),∃ g:aL p ts,∃(m:Nat) (x:List Int ⊕ (Int×List (List Pr))),vs=[.ref w,.int (m:Int),.ref b]/\bU H w p ts/\nA p H b x/\Sm 18 x/\m<2^ts.length/\
 ∀ H' (d:Bool),aq H H'->(d=true↔xJ p ts g m x)->Q (.bl d) H'
def xP:Sp:=fun vs H Q _=>∃(w b:Addr) (p:Nat) (ts:List dU),∃ _:aL p ts,∃(m:Nat) (x:List Int ⊕ (Int×List (List Pr))),vs=[.ref w,.int (m:Int),.ref b]/\bU H w p ts/\nA p H b x/\Sm 18 x/\m<2^ts.length/\∀ H',aq H H'->Q (.bl true) H'
def sN:Sp:=fun vs H Q _=>∃(w b:Addr) (p:Nat) (ts:List dU),∃ _:aL p ts,∃(S:Int) (x:List Int ⊕ (Int×List (List Pr))),vs=[.ref w,.int S,.ref b]/\bU H w p ts/\nA p H b x/\(S<0\/2^ts.length<=S)/\∀ H',aq H H'->Q (.bl true) H'
section
variable {P:Program}{w:World}{K:bI}{mg:iI}{base:Heap}{a:tH}
theorem fQ(T:Txt K mg a):aP P w K mg base cF 3 a.cQ a.dW ["web","marks","answer"] Cz:=by
 have g9:aP P w K mg base cF 2 a.bB a.eW ["web","marks","side"] oN:=g9 T;have hU:aP P w K mg base cF 2 a.dG a.eX ["web","marks","ring","worths"] u3:=hU T;refine T.ji.ok nV (fun vs H Q E h=>?_) (fun cdv A outer s H vs Q E hr h=>?_)
 ·obtain⟨w,b,p,ts,g,m,x,rfl,_⟩:=h;rfl
 ·obtain⟨wb,b,p,ts,g,m,x,rfl,hw,hx,sm,hm,q⟩:=h;refine⟨_,(ak (bx (aD cz (ay (bT K) (pv 2) ae (fun _ _=>rfl)) ie (aC _)) (au (aE (aB g9 (hr.mono (by decide)) (by rfl) T.sD T.sI T.sE .nil aX (aa (pv 0) (aa (pv 1) (aa (ay (bT K) (pv 2) ae (fun _ _=>rfl)) af)))))) aR)
   (au (aE (aB hU (hr.mono (by decide)) (by rfl) T.sF T.sJ T.sG .nil aX (aa (pv 0) (aa (pv 1) (aa (ay (bT K) (pv 2) ae (fun _ _=>rfl)) (aa (ay (bT K) (pv 2) ae (fun _ _=>rfl)) af)))))))),?_⟩
  refine nW ?_;intro cj cM
  match x,hx,sm,q with
  | .inl zs,⟨l,hb,hl,_⟩,sm,q =>
    refine(ao rfl (bM (aT.of hb) (ai (j:=0) rfl) ⟨rfl,ao rfl (sU rfl ?_)⟩));exact(ao rfl (ao rfl (ao rfl (bM (aT.of hb) (ai (j:=1) rfl) ⟨wb,p,ts,g,l,zs,m,rfl,hw,hl,sm.1,sm.2,q⟩))))
  | .inr (z,W),⟨c,hb,hc,sq⟩,_,q =>
    refine(ao rfl (bM (aT.of hb) (ai (j:=0) rfl) ⟨rfl,ao rfl (nj (fun z=>by cases z) ?_)⟩))
    exact(ao rfl (ao rfl (ao rfl (bM (aT.of hb) (ai (j:=1) rfl) (ao rfl (bM (aT.of hb) (ai (j:=2) rfl) ⟨wb,c,p,ts,g,W,m,z,rfl,hw,hc,sq,hm,q⟩))))))
theorem kM(T:Txt K mg a):aP P w K mg base cF 11 a.i3 a.kH ["web","marks","answer"] xP:=by
 have fM:aP P w K mg base (nC P w) 10 a.fJ a.gZ ["web","marks","answer"] (lg a.aJ):=fM T;have fQ:aP P w K mg base cF 3 a.cQ a.dW ["web","marks","answer"] Cz:=fQ T;refine T.uS.ok rT (fun vs H Q E h=>?_) (fun cdv A outer s H vs Q E hr h=>?_)
 ·obtain⟨w,b,p,ts,g,m,x,rfl,_⟩:=h;rfl
 ·obtain⟨wb,b,p,ts,g,m,x,rfl,hw,hx,sm,hm,q⟩:=h;refine⟨_,(ak (aG (i:=3) rT.nd rfl (Or.inl rfl) (aB fM (hr.mono (by decide)) (by rfl) T.sr T.sH T.su .nil Eo (aa (pv 0) (aa (pv 1) (aa (pv 2) af)))))
   (au (aE (lY (aF (S8 K) (by rfl) T.bC PyProof.Rows.boot_isinstance (aa (pv 3) (aa (K9 (by rfl) T.MY PyProof.Rows.boot_bool) af))) (kO (bN cz (pv 3) (aB fQ (hr.mono (by decide)) (by rfl) T.pJ T.pL T.pK .nil aX (aa (pv 0) (aa (pv 1) (aa (pv 2) af)))) (aC _))))))),?_⟩
  refine AJ ?_;intro cj;refine(ao rfl (ao rfl (ao rfl ⟨wb,p,ts,g,_,b,x,rfl,hw,hx,.inl ⟨m,rfl,hm,fun H1 d s1 hd=>?_⟩⟩)))
  refine(ao rfl ⟨_,_,_,_,_,rfl,rfl,.bl _,Mh K,_,rfl,dm (ao rfl (ao rfl (ao rfl (ao rfl ⟨wb,b,p,ts,g,m,x,rfl,hw.same s1,hx.same s1,sm,hm,fun H2 d2 s2 hd2=>⟨rfl,?_⟩⟩))))⟩)
  have e:d=d2:=by rw[Bool.eq_iff_iff,hd,hd2]
  subst e;rw[e7 rfl];exact q H2 (s1.trans s2)
theorem iT(T:Txt K mg a):aP P w K mg base cF 11 a.gc a.iQ ["web","marks","answer"] sN:=by
 have oJ:=fun ea=>oJ (P:=P) (w:=w) (base:=base) T ea
 have fM:aP P w K mg base (nC P w) 10 a.fJ a.gZ ["web","marks","answer"] (lg a.aJ):=fM T;refine T.pY.ok gR (fun vs H Q E h=>?_) (fun cdv A outer s H vs Q E hr h=>?_)
 ·obtain⟨w,b,p,ts,g,S,x,rfl,_⟩:=h;rfl
 ·obtain⟨wb,b,p,ts,g,S,x,rfl,hw,hx,hS,q⟩:=h;refine⟨_,(ak (aG (i:=3) gR.nd rfl (Or.inl rfl) (bQ af))
   (ak (Mr (i:=4) K rfl rfl rfl gR.nd rfl rfl (by rfl) T.Cm (fun E pn xe hp=>(au (iJ (aB fM (hr.mono (by decide)) (by rfl) T.sr T.sH T.su .nil hp (aa (pv 0) (aa (pv 1) (aa (pv 2) af))))))) (fun ea pn=>(au (aG (i:=3) gR.nd rfl (Or.inl rfl) (Hr (oJ ea) ((hr.mono (by decide)).mark ea) (by rfl) T.Cf T.Cq T.Cg .nil (aa (pv 4) af))))))
   (au (aE (bN (CQ K hr.units) (pv 3) (bQ (aa ae (aa ae af))) (aC _)))))),?_⟩
  refine wX ?_;intro cj cM;refine⟨dl rfl,fun l0 CO=>?_⟩
  have s0:aq H (upd H l0 (.lst [])):=aq.new CO;generalize upd H l0 (.lst [])=H0 at s0;refine⟨fun cls od H'=>cls = .ref a.aJ/\aq H0 H',?_,?_⟩
  ·exact(ao rfl (ao rfl (ao rfl ⟨wb,p,ts,g,S,b,x,rfl,hw.same s0,hx.same s0,.inr ⟨hS,fun H' s'=>⟨rfl,s'⟩⟩⟩)))
  ·rintro cls od H' ⟨rfl,s1⟩;refine⟨T.IU,fun ea hea=>?_⟩
   have s2:=s1.trans (aq.new (o:=vM ea (.ref a.aJ)) hea);refine(ao rfl ⟨rfl,a.aJ,1,aj,Ba T,fun D H3 hD s3 Ek=>?_⟩)
   refine(ao rfl ⟨dl rfl,fun l hl=>⟨_,_,.lst (aZ.of (aq.new hl _ _ Ek)) (nJ [1,1]),.lst (aZ.of aj) (nJ [1,1]),kC _,kC _,?_⟩⟩)
   rw[HJ];exact q _ (((s0.trans s2).trans s3).trans (aq.new hl))
end
def xQ:Sp:=fun vs H Q _=>∃(w b:Addr) (p:Nat) (ts:List dU) (V0:V) (z:Int) (W:List (List Pr)) (f:Int),vs=[.ref w,V0,.ref b,.int f]/\bU H w p ts/\aL p ts/\nA p H b (.inr (z,W))/\∀ b' z' W' H',aq H H'->nA p H' b' (.inr (z',W'))->Q (.ref b') H'
section
variable {P:Program}{w:World}{K:bI}{mg:iI}{base:Heap}{a:tH}
theorem dM(T:Txt K mg a):aP P w K mg base cF 2 a.cJ a.dH ["web","marks","answer","left"] xQ:=by
 have pC:aP P w K mg base cF 1 a.lS a.pA ["row","at","s","value"] Jf:=pC T;have oM:aP P w K mg base cF 1 a.iY a.kE ["value","way","length"] Cv:=oM T;refine T.i4.ok aO (fun vs H Q E h=>?_) (fun cdv A outer s H vs Q E hr h=>?_)
 ·obtain⟨w,b,p,ts,V0,z,W,f,rfl,_⟩:=h;rfl
 ·obtain⟨wb,b,p,ts,V0,z,W,f,rfl,hw,g,⟨c,hb,hW,sq⟩,q⟩:=h;refine⟨_,(ak (jd (gF (CY) (pv 2) (iK ae) kA) (Gy K (n:=2) rfl (bh (aA (i:=4) aO.nd rfl (Or.inl rfl)) (bh (aA (i:=5) aO.nd rfl (Or.inl rfl)) gf))))
   (ak (aG (i:=6) aO.nd rfl (Or.inl rfl) (az bz (pv 3) ae))
   (ak (aG (i:=7) aO.nd rfl (Or.inl rfl) (az cR (pv 3) ae))
   (ak (aG (i:=8) aO.nd rfl (Or.inl rfl) (az bz (az cR (pv 7) ae) (ay (bT K) (pv 0) ae (fun _ _=>rfl))))
   (ak (aG (i:=9) aO.nd rfl (Or.inl rfl) (az bz (az cR (pv 7) ae) (ay (bT K) (pv 0) ae (fun _ _=>rfl))))
   (ak (bx (aD cz (pv 6) ae (aC _)) (au (aE (cZ (aa ie (aa (az vE (pv 4) (az je ae (az bz (pv 7) (az cG (aF (fS K) (by rfl) T.cW PySem.boot_len (aa (ay (bT K) (pv 0) ae (fun _ _=>rfl)) af)) ae)))) (aa (pv 5) af)))))) aR)
   (ak (bx (aD cz (pv 6) ae (aC _)) (au (aE (cZ (aa ie (aa (az bz (pv 7) (az je ae (aF (fS K) (by rfl) T.cW PySem.boot_len (aa (ay (bT K) (pv 0) ae (fun _ _=>rfl)) af)))) (aa (pv 5) af)))))) aR)
   (ak (bx (aD cz (pv 6) ae (aC _)) (ak (aG (i:=10) aO.nd rfl (Or.inl rfl) (az je ae (aF (fS K) (by rfl) T.cW PySem.boot_len (aa (ay (bT K) (pv 0) ae (fun _ _=>rfl)) af))))
   (au (aE (cZ (aa ie (aa (ay (m5 K) (bQ (aa (az jS (uw nE ae) (az bz (pv 7) ae)) (aa (pv 10) (aa ae (aa (az cG (pv 4) (pv 10)) af))))) (az bz (pv 7) ae) (fun _ _=>rfl)) (aa (pv 5) af))))))) aR)
   (ak (aG (i:=11) aO.nd rfl (Or.inl rfl) (ay (bT K) (pv 5) (pv 8) (fun _ _=>rfl)))
   (ak (bx (aD vF (pv 6) ae (aC _)) (ak (aG (i:=12) aO.nd rfl (Or.inl rfl) (az bz (az cR (pv 7) ae) ae))
   (au (aG (i:=11) aO.nd rfl (Or.inl rfl) (aB pC (hr.mono (by decide)) (by rfl) T.zG T.zK T.zH .nil aX (aa (pv 11) (aa (pv 9) (aa (pv 12) (aa (aB oM (hr.mono (by decide)) (by rfl) T.Cd T.Cp T.Ce .nil aX (aa (ay (bT K) (ay (bT K) (pv 11) (pv 9) (fun _ _=>rfl)) (pv 12) (fun _ _=>rfl)) (aa (az bz (az cR (pv 7) ae) ae) (aa ae af)))) af)))))))) (au (bx (aD cz (pv 6) ae (aC _)) (au (aG (i:=11) aO.nd rfl (Or.inl rfl) (aB pC (hr.mono (by decide)) (by rfl) T.zG T.zK T.zH .nil aX (aa (pv 11) (aa (pv 8) (aa ae (aa (az bz (az cR (pv 7) ae) ae) af))))))) (au (aG (i:=11) aO.nd rfl (Or.inl rfl) (cD (yS K) (by rfl) T.pB PyProof.Rows.boot_tuple (aa (dB (own:=["pair"]) (fq:=[]) (js:=[]) (aN (ah bE) ["web","marks","answer","left","ring","worths","way","rest","point","at","most","row","s"]) rfl (piT K (pv 11)) (fun _ _ _ _=>(aA (i:=0) (show(["pair"]:List Str).Nodup by decide +kernel) rfl (Or.inl rfl))) (fun _ _ _ _=>gI) (fun _ _ _ _=>(cZ (aa (ay (bT K) (pv 0) ae (fun _ _=>rfl)) (aa cu af))))) af)))))))
   (au (aE (cZ (aa ie (aa (pv 4) (aa (az Ez (az Ez (gF (CY) (pv 5) kA (iK (pv 8))) (cZ (aa (pv 11) af))) (gF (CY) (pv 5) (iK (az cG (pv 8) ae)) kA)) af)))))))))))))))),?_⟩
  refine nu ?_;intro cj cM eY gD lu nR nS uI wQ wR lK nU rR rS u9 wU BZ B0 O0;obtain⟨bt,xs,h1,h2,h3⟩:=id hw.ex;obtain⟨ws,hws,Gr⟩:=id hW;have qJ:=h3.length;have p1:=g.p1;have p10:=g.p2;have wl:=g.len;have T6:ws.length=p:=by rw[Gr.length,sq.1]
  have Js:(1:Int)*2^((xs.length:Nat):Int).toNat=((2^ts.length:Nat):Int):=by rw[oW,qJ]
  have pos:=Nat.two_pow_pos ts.length;have fin:∀(z' : Int) (H' : Hp),aq H H'->∀ b',H' b' = none->Q (.ref b') (upd H' b' (.tup [.str (Str.ofString "ring"),.int z',.ref c])):=fun z' H' s' b' hb'=>q b' z' W _ (s'.trans (aq.new hb')) ⟨c,aj,hW.same (s'.trans (aq.new hb')),sq⟩
  refine(ao rfl (ao rfl ⟨b,_,rfl,hb,fun tp H1 s1 htp=>?_⟩))
  have htp:H1 tp=some (.tup [.int z,.ref c]):=htp;refine⟨tp,_,rfl,aT.of htp,rfl,_,_,rfl,_,_,rfl,rfl,?_⟩;refine(ao rfl (bu ⟨(jW rfl),?_⟩));refine(ao rfl (bu ⟨⟨by decide,by decide⟩,?_⟩))
  dsimp only;generalize f%8=way;generalize f/8=rest;obtain⟨i,hi,Ur⟩:∃ i:Nat,rest/4%(p:Int)=(i:Int)/\i<p:=by
   obtain⟨h1,h2⟩:=d8 (rest/4) (p:Int) (by lia)
   exact⟨(rest/4%(p:Int)).toNat,by lia,by lia⟩
  obtain⟨j,hj,hjp⟩:∃ i:Nat,rest/32%(p:Int)=(i:Int)/\i<p:=by
   obtain⟨h1,h2⟩:=d8 (rest/32) (p:Int) (by lia)
   exact⟨(rest/32%(p:Int)).toNat,by lia,by lia⟩
  refine(ao rfl (bu ⟨⟨by decide,by decide⟩,ao rfl (bM (aT.of (s1 _ _ h1)) (ai (j:=0) rfl) (bu ⟨(by lia),?_⟩))⟩))
  dsimp only;rw[hi];refine(ao rfl (bu ⟨⟨by decide,by decide⟩,ao rfl (bM (aT.of (s1 _ _ h1)) (ai (j:=0) rfl) (bu ⟨(by lia),?_⟩))⟩))
  dsimp only;rw[hj];refine(ao rfl ⟨rfl,ao rfl (jj (fun _=>?_) (fun _=>(ao rfl ⟨rfl,ao rfl (jj (fun _=>?_) (fun _=>(ao rfl ⟨rfl,ao rfl (jj (fun _=>?_) (fun _=>?_))⟩)))⟩)))⟩)
  ·obtain⟨m0,m1⟩:=d8 rest ((xs.length:Int)+1) (by lia)
   exact(ao rfl (ao rfl (ao rfl (bM (aT.of (s1 _ _ h1)) (ai (j:=1) rfl) (m6 rfl (.inr (aT.of (s1 _ _ h2))) (bu (bu ⟨(by lia),bu ⟨⟨m0,by lia,by decide⟩,bu (ao rfl ⟨dl rfl,fun b' hb'=>fin _ H1 s1 b' hb'⟩)⟩⟩)))))))
  ·exact(ao rfl (ao rfl (bM (aT.of (s1 _ _ h1)) (ai (j:=1) rfl) (m6 rfl (.inr (aT.of (s1 _ _ h2))) (bu ⟨⟨by lia,by lia,by decide⟩,bu ⟨(by rw[Js];lia),ao rfl ⟨dl rfl,fun b' hb'=>fin _ H1 s1 b' hb'⟩⟩⟩)))))
  ·refine(ao rfl (bM (aT.of (s1 _ _ h1)) (ai (j:=1) rfl) (m6 rfl (.inr (aT.of (s1 _ _ h2))) (bu ⟨⟨by lia,by lia,by decide⟩,?_⟩))))
   dsimp only;generalize (1:Int)*2^((xs.length:Nat):Int).toNat=most;obtain⟨m0,m1⟩:=d8 rest 4 (by decide)
   have ix:∃ v:Int,z7 [V.int (-1-rest%9),.int most,.int 0,.int (z+most)] (rest%4)=some (.int v):=by
    have h:rest%4=0\/rest%4=1\/rest%4=2\/rest%4=3:=by lia
    rcases h with h|h|h|h<;>rw[h]
    ·exact⟨_,ai (j:=0) rfl⟩
    ·exact⟨_,ai (j:=1) rfl⟩
    ·exact⟨_,ai (j:=2) rfl⟩
    ·exact⟨_,ai (j:=3) rfl⟩
   obtain⟨v,ev⟩:=ix;refine(ao rfl (ao rfl (bu ⟨(jW rfl),bu (ao rfl (ao rfl (ao rfl (bu ⟨dl rfl,fun L hL=>?_⟩))))⟩)))
   exact(ao rfl (bu ⟨(jW rfl),nq (aZ.of aj) (ev) (ao rfl ⟨dl rfl,fun b' hb'=>fin _ _ (s1.trans (aq.new hL)) b' hb'⟩)⟩))
  obtain⟨x,hx,bR,ys,rfl,Gs,CC⟩:=jB Gr (i:=i) (by rw[sq.1];exact Ur) []
  have rl:=sq.row Ur;generalize hRr:W.getD i []=R at CC rl;obtain⟨bj,ej,hbj⟩:=RowW.at CC (i:=j) (by lia)
  have MZ:ys.length=p:=by rw[CC.length,rl]
  have Us:=s1 _ _ hws;have Ji:=s1 _ _ Gs;have Nf:Paired (fb H1) ys R:=Paired.imp' (fun _ _ z=>z.same s1) CC
  refine(ao rfl (ao rfl (bM (aT.of Us) (ai (j:=i) hx) (?_))));have tail:∀(σ:St) (bX:Addr) (Rm:List V) (RX:List Pr) (H' : Hp),σ[4]?=some (some (.int z))->σ[5]?=some (some (.ref c))->σ[8]?=some (some (.int (i:Int)))->σ[11]?=some (some (.ref bX))->aq H H'->H' bX=some (.tup Rm)->Paired (fb H') Rm RX->RX.length=p->
   NG (LU (Bk (tC (V.str (Str.ofString "ring"))) (Bk (Be 4) (Bk (LM Dk (LM Dk (SM Ht (Be 5) zY (GP (Be 8))) (LU (Bk (Be 11) LS))) (SM Ht (Be 5) (GP (LM (EU fun i j=>V.int (i+j)) (Be 8) (tC (V.int 1)))) zY)) LS)))) { nx:=fun _ H'=>Q V.eS H',rt:=Q} σ H':=by
   intro σ bX Rm RX H' e4 e5 e8 e11 s1 hbX prX rlX;refine⟨_,e4,_,e5,_,e8,_,rfl,c,_,rfl,s1 _ _ hws,fun c1 G1 t1 hc1=>?_⟩
   rw[OF]at hc1;refine⟨_,e11,dl rfl,fun c3 hc3=>?_⟩
   have t2:aq G1 (upd G1 c3 (.tup [.ref bX])):=aq.new hc3;have h3:upd G1 c3 (.tup [.ref bX]) c3=some (.tup [.ref bX]):=aj;generalize upd G1 c3 (.tup [.ref bX])=G2 at t2 h3;refine⟨c1,c3,_,_,rfl,rfl,t2 _ _ hc1,h3,dl (Nat.ble_eq.mpr (by rw[List.length_take];show _+1<=_;lia)),fun c4 G4 t4 hc4=>?_⟩
   have PC:=(t1.trans t2).trans t4;refine⟨_,e5,_,e8,_,_,rfl,rfl,ao rfl ⟨c,_,rfl,PC _ _ (s1 _ _ hws),fun c5 G5 t5 hc5=>?_⟩⟩
   rw[show((i:Int)+1)=((i+1:Nat):Int) from by lia,cutD]at hc5
   refine⟨c4,c5,_,_,rfl,rfl,t5 _ _ hc4,hc5,dl (Nat.ble_eq.mpr (by rw[List.length_append,List.length_take,List.length_drop];show _+1+_<=_;lia)),fun c6 G6 t6 hc6=>⟨dl rfl,fun b' hb'=>?_⟩⟩
   have Rn:=(PC.trans t5).trans t6;have PD:Paired (RowW G6) ws W:=Paired.imp' (fun _ _ z=>z.same (s1.trans Rn)) Gr
   have hWn:ff G6 c6 (W.take i++[RX]++W.drop (i+1)):=⟨_,hc6,wd (wd (Ao i PD) (.cons ⟨bX,Rm,rfl,Rn _ _ hbX,Paired.imp' (fun _ _ z=>z.same Rn) prX⟩ .nil)) (Aq (i+1) PD)⟩
   refine q b' z (W.take i++[RX]++W.drop (i+1)) _ ((s1.trans Rn).trans (aq.new hb')) ⟨c6,aj,hWn.same (aq.new hb'),?_,fun r hr=>?_⟩
   ·have:=sq.1;rw[List.length_append,List.length_append,List.length_take,List.length_drop];show _+1+_=_
    lia
   ·rcases List.mem_append.mp hr with hr|hr
    ·rcases List.mem_append.mp hr with hr|hr
     ·exact sq.2 r (List.mem_of_mem_take hr)
     ·have e:r=RX:=by simpa using hr
      rw[e,rlX]
    ·exact sq.2 r (List.mem_of_mem_drop hr)
  refine(ao rfl (bu (ao rfl (jj (fun _=>?_) (fun _=>(ao rfl ⟨rfl,ao rfl (jj (fun _=>?_) (fun _=>?_))⟩))))))
  ·obtain⟨u,hu⟩:∃ u:Bool,rest/256%2=(u.toNat:Int):=by
    obtain⟨h1,h2⟩:=d8 (rest/256) 2 (by decide)
    by_cases h:rest/256%2=0
    ·exact⟨false,h⟩
    ·exact⟨true,by show rest/256%2=1;lia⟩
   obtain⟨kw,hkw,k5⟩:∃ k:Nat,rest/512%5=(k:Int)/\k<5:=by
    obtain⟨h1,h2⟩:=d8 (rest/512) 5 (by decide)
    exact⟨(rest/512%5).toNat,by lia,by lia⟩
   refine(ao rfl (bu ⟨⟨by decide,by decide⟩,bu ⟨(jW rfl),?_⟩⟩))
   dsimp only;rw[hu];refine(ao rfl (ao rfl (ao rfl (ao rfl (ao rfl (bM (aT.of Ji) (ai (j:=j) ej) (ao rfl (bM (aT.of (s1 _ _ hbj)) (ai (we _ u)) (ao rfl (bu ⟨⟨by decide,by decide⟩,bu ⟨(jW rfl),sel (cg R j) u,kw,2,(show[oV (sel (cg R j) u),V.int (rest/512%5),V.int 2]=[oV (sel (cg R j) u),V.int (kw:Int),V.int 2] from by rw[hkw]),k5,fun y H2 s2=>?_⟩⟩))))))))))
   exact⟨bR,ys,R,j,u,y,rfl,s2 _ _ Ji,Paired.imp' (fun _ _ z=>z.same s2) Nf,by lia,by lia,fun b' ys' R2 H3 s4 hb' Ut rl'=>tail _ b' ys' R2 H3 rfl rfl rfl rfl ((s1.trans s2).trans s4) hb' Ut (by lia)⟩
  ·refine(ao rfl (ao rfl (ao rfl (bu ⟨⟨by decide,by decide⟩,bu ⟨(jW rfl),bR,ys,R,i,true,some (rest/256%40),rfl,Ji,Nf,by lia,by lia,fun b' ys' R2 H3 s4 hb' Ut rl'=>?_⟩⟩))))
   exact tail _ b' ys' R2 H3 rfl rfl rfl rfl (s1.trans s4) hb' Ut (by lia)
  ·refine(ao rfl ⟨bR,rfl,⟨_,aT.of Ji⟩,fun D hD=>G7 (xs:=ys) (fun n acc H2=>aq H1 H2/\H2 D=some (.lst acc)/\∃ R',Paired (fb H2) acc R'/\R'.length=n) ⟨aq.new hD,aj,[],.nil,rfl⟩ ?_ (dl (Nat.ble_eq.mpr (by lia))) ?_ ?_⟩)
   ·rintro n acc H2 hn ⟨s2,yH,R',PJ,Ro⟩;exact⟨aT.of (s2 _ _ Ji),yH,by rw[PJ.length,Ro];exact Nat.le_refl _⟩
   ·rintro n x acc H2 Jq ⟨s2,yH,R',PJ,Ro⟩;obtain⟨qq,hqq,cc,rfl,hcc⟩:=Paired.vL Nf Jq;have Uu:=s2 _ _ hcc;refine⟨rfl,ao rfl (bM (aT.of Uu) (ai (j:=0) rfl) ⟨dl rfl,fun l hl=>?_⟩)⟩
    have s3:aq H2 (upd H2 l (.tup [oV qq.1,.eS])):=aq.new hl;have Ek:=s3 _ _ yH;exact⟨Ek,(s2.trans s3).put hD,aj,R'++[(qq.1,none)],Paired.snoc (Paired.imp' (fun _ _ z=>z.tups (s3.tups.trans (iU.put Ek))) PJ) ⟨l,rfl,iU.put Ek _ _ aj⟩,by rw[List.length_append,List.length_singleton,Ro]⟩
   ·rintro acc H2 ⟨s2,yH,R',PJ,Ro⟩;refine⟨D,acc,rfl,.inl ⟨aZ.of yH,fun l hl=>?_⟩⟩
    have s3:aq H2 (upd H2 l (.tup acc)):=aq.new hl;exact tail _ l acc R' _ rfl rfl rfl rfl ((s1.trans s2).trans s3) aj (Paired.imp' (fun _ _ z=>z.same s3) PJ) (by lia)
end
def xR:Sp:=fun vs H Q _=>∃(w l:Addr) (p:Nat) (ts:List dU) (zs:List Int) (n:Nat) (f:Int),vs=[.ref w,.ref l,.int f]/\bU H w p ts/\aL p ts/\p<=6/\H l=some (.lst (zs.map V.int))/\(∀ z∈zs,SS.Vz z)/\zs.length<=n/\6<=n/\n<=16/\
 ∀(l' : Addr) (zs' : List Int) (H' : Hp),aq H H'->H' l' = some (.lst (zs'.map V.int))->(∀ z∈zs',SS.Vz z)->zs'.length<=n+1->Q (.ref l') H'
theorem DX{l r:List Int}(hl:l.Pairwise (· < ·))(h:∀ z∈l,z∈r):l.length<=r.length:=by
 have nd:l.Nodup:=hl.imp fun h e=>by lia
 exact nd.length_le_of_subset h
theorem Jj(zs:List Int):pG (zs.map V.int) (some (-1)) none=(zs.drop (zs.length-1)).map V.int:=by
 unfold pG;rw[HT.vI];have e:HT.eU (zs.map V.int).length 0 (some (-1))=zs.length-1:=by
  rw[List.length_map];unfold HT.eU;simp
  lia
 rw[e,List.map_drop,List.take_of_length_le (by rw[List.length_drop];exact Nat.le_refl _)]
section
variable {P:Program}{w:World}{K:bI}{mg:iI}{base:Heap}{a:tH}
theorem dN(T:Txt K mg a):aP P w K mg base cF 1 a.cK a.dI ["web","side","left"] xR:=by
 refine T.i7.ok eT (fun vs H Q E h=>?_) (fun cdv A outer s H vs Q E hr h=>?_)
 ·obtain⟨w,l,p,ts,zs,n,f,rfl,_⟩:=h;rfl
 ·obtain⟨wb,l,p,ts,zs,n,f,rfl,hw,g,p6,hl,hv,hn,n6,n16,q⟩:=h;refine⟨_,(ak (aG (i:=3) eT.nd rfl (Or.inl rfl) (az bz (pv 2) ae))
   (ak (aG (i:=4) eT.nd rfl (Or.inr rfl) (az bz (az cR (pv 2) ae) (ay (bT K) (pv 0) ae (fun _ _=>rfl))))
   (ak (bx (aD cz (pv 3) ae (aC _)) (au (aE (aF (sortedS rfl) (by rfl) T.Ck PyProof.Rows.boot_sorted (aa (cD (OS K rfl) (by rfl) T.Lp PyProof.Rows.boot_set (aa (az (CU K) (pv 1) (bQ (aa (pv 4) af))) af)) af)))) aR)
   (ak (bx (aD cz (pv 3) ae (aC _)) (au (aE (dB (own:=["other"]) (fq:=["point"]) (js:=[4]) (aN (ah br) ["web","side","left","way","point"]) rfl (yb K (pv 1)) (fun _ _ _ _=>(aA (i:=0) (show(["other","point"]:List Str).Nodup by decide +kernel) rfl (Or.inl rfl))) (fun _ _ _ _=>(di (aD qL (pv 0) (pv 1) (aC _)))) (fun _ _ _ _=>(pv 0))))) aR)
   (ak (bx (aD cz (pv 3) ae (aC _)) (au (aE (Dz K rfl (by rfl) T.xw (by rfl) T.DO (pv 1)))) aR)
   (ak (bx (aD cz (pv 3) ae (aC _)) (au (aE (az (CU K) (pv 1) (gF (slL K) (pv 1) (iK (uw nE ae)) kA)))) aR)
   (ak (bx (aD cz (pv 3) ae (aC _)) (au (aE (ay (m5 K) (bQ (aa (az (CU K) (bQ (aa (uw nE ae) af)) (pv 1)) (aa (az (CU K) (pv 1) (bQ (aa (az cG (ay (bT K) (pv 0) ae (fun _ _=>rfl)) (pv 4)) af))) af))) (az bz (az cR (pv 2) ae) ae) (fun _ _=>rfl)))) aR)
   (ak (bx (aD cz (pv 3) ae (aC _)) (au (aE (dB (own:=["other"]) (fq:=["side"]) (js:=[1]) (aN (ah br) ["web","side","left","way","point"]) rfl (aV (by rfl) T.bq (aa (ay (bT K) (pv 0) ae (fun _ _=>rfl)) af)) (fun _ _ _ _=>(aA (i:=0) (show(["other","side"]:List Str).Nodup by decide +kernel) rfl (Or.inl rfl))) (fun _ _ _ _=>(di (aD (Hg K) (pv 0) (pv 1) (by with_unfolding_all rfl)))) (fun _ _ _ _=>(pv 0))))) aR)
   (ak (bx (aD cz (pv 3) ae (aC _)) (au (aE (cD (Ld rfl) (by rfl) T.xw PyProof.Rows.boot_list (aa (cD Bu (by rfl) T.bq PyProof.Rows.boot_range (aa (ay (bT K) (pv 0) ae (fun _ _=>rfl)) af)) af)))) aR)
   (au (aE (bQ af)))))))))))),?_⟩
  refine ny ?_;intro cj cM eY gD lu nR nS uI wQ wR lK nU rR rS u9 wU;obtain⟨bt,xs,h1,h2,h3⟩:=id hw.ex;have p1:=g.p1;refine(ao rfl (bu ⟨(jW rfl),?_⟩));refine(ao rfl (bu ⟨⟨by decide,by decide⟩,ao rfl (bM (aT.of h1) (ai (j:=0) rfl) (bu ⟨(by lia),?_⟩))⟩))
  obtain⟨i,hi,Ur⟩:∃ i:Nat,f/8%(p:Int)=(i:Int)/\i<p:=by
   obtain⟨h1,h2⟩:=d8 (f/8) (p:Int) (by lia)
   exact⟨(f/8%(p:Int)).toNat,by lia,by lia⟩
  dsimp only;rw[hi];generalize f%8=way;refine(ao rfl ⟨rfl,ao rfl (jj (fun _=>?_) (fun _=>(ao rfl ⟨rfl,ao rfl (jj (fun _=>?_) (fun _=>(ao rfl ⟨rfl,ao rfl (jj (fun _=>?_) (fun _=>(ao rfl ⟨rfl,ao rfl (jj (fun _=>?_) (fun _=>(ao rfl ⟨rfl,ao rfl (jj (fun _=>?_) (fun _=>(ao rfl ⟨rfl,ao rfl (jj (fun _=>?_) (fun _=>(ao rfl ⟨rfl,ao rfl (jj (fun _=>?_) (fun _=>?_))⟩)))⟩)))⟩)))⟩)))⟩)))⟩)))⟩)
  ·refine(ao rfl (ao rfl ⟨dl rfl,fun l1 hl1=>⟨l,l1,_,_,rfl,rfl,aZ.of (aq.new hl1 _ _ hl),aZ.of aj,Nat.le_of_lt (mw (by rw[List.length_map];show _+1<=_;lia)),fun A hA=>?_⟩⟩))
   rw[show zs.map V.int++[.int (i:Int)]=(zs++[(i:Int)]).map V.int from by rw[List.map_append];rfl]
   have s2:aq H (upd (upd H l1 (.lst [.int (i:Int)])) A (.lst ((zs++[(i:Int)]).map V.int))):=(aq.new hl1).trans (aq.new hA);have Lx:upd (upd H l1 (.lst [.int (i:Int)])) A (.lst ((zs++[(i:Int)]).map V.int)) A=some (.lst ((zs++[(i:Int)]).map V.int)):=aj;generalize upd (upd H l1 (.lst [.int (i:Int)])) A (.lst ((zs++[(i:Int)]).map V.int))=H2 at s2 Lx;have hl2:(zs++[(i:Int)]).length=zs.length+1:=by rw[List.length_append];rfl
   refine⟨A,zs++[(i:Int)],rfl,aZ.of Lx,fun z hz=>?_,by lia,fun S hS=>⟨S,zs++[(i:Int)],rfl,aj,fun L ms hL hup hms hm=>?_⟩⟩
   ·rcases List.mem_append.mp hz with hz|hz
    ·exact hv z hz
    ·rw[List.mem_singleton.mp hz];exact⟨by lia,by lia⟩
   ·refine q L ms _ ((s2.trans (aq.new hS)).trans (aq.new hL)) aj hms ?_;have:=DX hup fun z hz=>(hm z (hms z hz)).mp hz
    lia
  ·refine(ao rfl ⟨l,rfl,⟨_,aZ.of hl⟩,fun C hC=>dw (xs:=zs.map V.int) (fun j ac H2=>aq H H2/\H2 C=some (.lst ac)/\ac=((zs.take j).filter (fun z=>!decide (z=(i:Int)))).map V.int) ⟨aq.new hC,aj,by rw[List.take_zero];rfl⟩ (fun j ac H2 _ ⟨f1,f2,e⟩=>⟨aZ.of (f1 _ _ hl),f2,by rw[e,List.length_map];exact Nat.le_trans (List.length_filter_le _ _) (List.length_take_le _ _)⟩) (dD (by rw[List.length_map];lia)) ?_ ?_⟩)
   ·rintro j y ac H2 hy ⟨f1,f2,rfl⟩;rw[List.getElem?_map]at hy;obtain⟨z,hz,rfl⟩:=CD.mp hy;refine⟨rfl,ao rfl (ao rfl ⟨rfl,ao rfl (?_)⟩)⟩;rw[List.take_add_one,hz,List.filter_append]
    by_cases e:z=(i:Int)
    ·refine m3 (congrArg V.int e) ⟨f1,f2,?_⟩;show _=List.map V.int (_++List.filter _ [z]);rw[List.filter_cons,if_neg (by rw[e7 e];decide),List.filter_nil,List.append_nil]
    ·refine nh (fun x=>e (V.int.inj x)) (ao rfl ⟨f2,f1.put hC,aj,?_⟩)
     show _=List.map V.int (_++List.filter _ [z]);rw[List.filter_cons,if_pos (by rw[h8 e];rfl),List.filter_nil,List.map_append]
     rfl
   ·rintro ac H2 ⟨f1,f2,rfl⟩;rw[List.length_map,List.take_length]at f2;exact q C _ H2 f1 f2 (fun z hz=>hv z (List.mem_filter.mp hz).1) (Nat.le_trans (List.length_filter_le _ _) (by lia))
  ·refine(ao rfl ⟨l,_,rfl,aZ.of hl,by rw[List.length_map];lia,fun Rv hRv=>?_⟩)
   rw[show(zs.map V.int).reverse=zs.reverse.map V.int from by rw[List.map_reverse]]
   exact q Rv zs.reverse _ (aq.new hRv) aj (fun z hz=>hv z (List.mem_reverse.mp hz)) (by rw[List.length_reverse];lia)
  ·refine(ao rfl (ao rfl (ao rfl (ao rfl ⟨l,_,rfl,aZ.of hl,fun B hB=>?_⟩))))
   rw[Jj];refine⟨l,B,_,_,rfl,rfl,aZ.of (aq.new hB _ _ hl),aZ.of aj,Nat.le_of_lt (mw (by rw[List.length_map,List.length_map,List.length_drop];lia)),fun A hA=>?_⟩
   rw[<-List.map_append];refine q A (zs++zs.drop (zs.length-1)) _ ((aq.new hB).trans (aq.new hA)) aj (fun z hz=>?_) (by rw[List.length_append,List.length_drop];lia)
   rcases List.mem_append.mp hz with hz|hz
   ·exact hv z hz
   ·exact hv z (List.mem_of_mem_drop hz)
  ·obtain⟨m0,m1⟩:=d8 (f/64) 2 (by decide)
   refine(ao rfl ⟨dl rfl,fun l1 hl1=>(ao rfl ⟨l1,l,_,_,rfl,rfl,aZ.of aj,aZ.of (aq.new hl1 _ _ hl),Nat.le_of_lt (mw (by rw[List.length_map];show 1+_<=_;lia)),fun A hA=>?_⟩)⟩)
   rw[show([.int (-1)]:List V)++zs.map V.int=((-1:Int)::zs).map V.int from rfl]
   have s2:aq H (upd (upd H l1 (.lst [.int (-1)])) A (.lst (((-1:Int)::zs).map V.int))):=(aq.new hl1).trans (aq.new hA);have Lx:upd (upd H l1 (.lst [.int (-1)])) A (.lst (((-1:Int)::zs).map V.int)) A=some (.lst (((-1:Int)::zs).map V.int)):=aj;generalize upd (upd H l1 (.lst [.int (-1)])) A (.lst (((-1:Int)::zs).map V.int))=H2 at s2 Lx;refine(ao rfl (ao rfl (bM (aT.of (s2 _ _ h1)) (ai (j:=0) rfl) (ao rfl (bu ⟨dl rfl,fun l3 Nd=>⟨l,l3,_,_,rfl,rfl,aZ.of (aq.new Nd _ _ (s2 _ _ hl)),aZ.of aj,Nat.le_of_lt (mw (by rw[List.length_map];show _+1<=_;lia)),fun B hB=>?_⟩⟩)))))
   dsimp only at Nd hB ⊢;rw[show zs.map V.int++[.int ((p:Int)+(i:Int))]=(zs++[(p:Int)+(i:Int)]).map V.int from by rw[List.map_append];rfl]
   have s4:aq H2 (upd (upd H2 l3 (.lst [.int ((p:Int)+(i:Int))])) B (.lst ((zs++[(p:Int)+(i:Int)]).map V.int))):=(aq.new Nd).trans (aq.new hB);have hB4:upd (upd H2 l3 (.lst [.int ((p:Int)+(i:Int))])) B (.lst ((zs++[(p:Int)+(i:Int)]).map V.int)) B=some (.lst ((zs++[(p:Int)+(i:Int)]).map V.int)):=aj;generalize upd (upd H2 l3 (.lst [.int ((p:Int)+(i:Int))])) B (.lst ((zs++[(p:Int)+(i:Int)]).map V.int))=H4 at s4 hB4;refine⟨dl rfl,fun L hL=>(ao rfl (bu ⟨⟨by decide,by decide⟩,bu ⟨(jW rfl),?_⟩⟩))⟩
   dsimp only;have s5:aq H4 (upd H4 L (.lst [.ref A,.ref B])):=aq.new hL;have h:f/64%2=0\/f/64%2=1:=by lia
   rcases h with h|h
   ·rw[h];exact(nq (aZ.of aj) (ai (j:=0) rfl) (q A ((-1:Int)::zs) _ ((s2.trans s4).trans s5) ((s4.trans s5) _ _ Lx) (fun z hz=>by
     rcases List.mem_cons.mp hz with hz|hz
     ·rw[hz];exact⟨by lia,by lia⟩
     ·exact hv z hz) (by rw[List.length_cons];lia)))
   ·rw[h];exact(nq (aZ.of aj) (ai (j:=1) rfl) (q B (zs++[(p:Int)+(i:Int)]) _ ((s2.trans s4).trans s5) (s5 _ _ hB4) (fun z hz=>by
     rcases List.mem_append.mp hz with hz|hz
     ·exact hv z hz
     ·rw[List.mem_singleton.mp hz];exact⟨by lia,by lia⟩) (by rw[List.length_append];show _+1<=_;lia)))
  ·refine(ao rfl (bM (aT.of h1) (ai (j:=0) rfl) (ao rfl ⟨by lia,by lia,fun C hC=>bY (lo:=0) (m:=((p:Nat):Int).toNat) (lC (fun k=>!JQ (.int (k:Int)) (zs.map V.int)) H C) (.start hC) (fun j ac H2 _ pk=>pk.len) (dD (by lia)) ?_ ?_⟩)))
   ·intro j ac H2 hj pk;rw[Int.zero_add];refine⟨rfl,ao rfl (ao rfl (m6 rfl (.inl (aZ.of (pk.1 _ _ hl))) ⟨rfl,(by rw[List.all_map];exact List.all_eq_true.mpr fun _ _=>rfl),ao rfl (?_)⟩))⟩
    cases hb:JQ (.int (j:Int)) (zs.map V.int) with
    | true=>exact dS (pk.no (aq.refl _) (by rw[hb];rfl))
    | false=>exact dm (ao rfl (pk.yes hC (aq.refl _) (by rw[hb];rfl)))
   ·intro ac H2 pk;have Rp:=pk.2.1;rw[pk.2.2]at Rp;refine q C (((List.range ((p:Nat):Int).toNat).filter (fun k:Nat=>!JQ (.int (k:Int)) (zs.map V.int))).map fun k=>((k:Nat):Int)) H2 pk.1 ?_ (fun z hz=>?_) ?_
    ·rw[pF];exact Rp
    ·obtain⟨k,hk,rfl⟩:=List.mem_map.mp hz;have:=List.mem_range.mp (List.mem_filter.mp hk).1;exact⟨by lia,by lia⟩
    ·rw[List.length_map];refine Nat.le_trans (List.length_filter_le _ _) ?_;rw[List.length_range]
     lia
  ·refine(ao rfl (bM (aT.of h1) (ai (j:=0) rfl) (ao rfl (fun r hr=>⟨r,p,rfl,aj,by lia,fun L hL=>?_⟩))))
   refine q L ((List.range p).map fun k=>((k:Nat):Int)) _ ((aq.new hr).trans (aq.new hL)) ?_ (fun z hz=>?_) (by rw[List.length_map,List.length_range];lia)
   ·rw[aj,pF];rfl
   ·obtain⟨k,hk,rfl⟩:=List.mem_map.mp hz;have:=List.mem_range.mp hk;exact⟨by lia,by lia⟩
  ·exact⟨dl rfl,fun L hL=>q L [] _ (aq.new hL) aj (fun z hz=>nomatch hz) (Nat.zero_le _)⟩
end
def xS:Sp:=fun vs H Q _=>∃(w:Addr) (p:Nat) (ts:List dU),∃ _:aL p ts,∃(m:Nat) (f:Int),vs=[.ref w,.int (m:Int),.int f]/\bU H w p ts/\m<2^ts.length/\ts.length<=9/\p<=6/\
 ∀(b:Addr) (x:List Int ⊕ (Int×List (List Pr))) (H' : Hp),aq H H'->nA p H' b x->Sm 6 x->Q (.ref b) H'
theorem CA{p:Nat}{ts:List dU}{g:aL p ts}{m:Nat}(hm:m<2^ts.length):m=g.N.cut (fun x=>decide (x∈ic p ts g m))\/((∀ C,g.N.cut C≠m)/\∃ r,r<2^ts.length/\g.N.Ring r/\g.N.par r m=true):=by
 by_cases h:∀ k,k<g.N.n->g.N.Ah k=false->g.N.par (g.N.ring k) m=false
 ·exact .inl ((RM.Dg (N:=g.N) hm h).trans Jc.symm)
 ·refine .inr ⟨fun C e=>h fun k hk _=>?_,?_⟩
  ·rw[<-e];exact RM.Km (RM.oR hk) C
  ·refine Classical.byContradiction fun hn=>h fun k hk hF=>?_
   cases hp:g.N.par (g.N.ring k) m with
   | false=>rfl
   | true=>exact absurd ⟨_,RM.Ai hk,RM.FE hk hF,hp⟩ hn
section
variable {P:Program}{w:World}{K:bI}{mg:iI}{base:Heap}{a:tH}
open Classical in
theorem oO(T:Txt K mg a):aP P w K mg base cF 3 a.iZ a.kG ["web","marks","left"] xS:=by
 have qH:aP P w K mg base cF 2 a.ko a.mG ["web","marks"] Cu:=qH T;have lq:aP P w K mg base cF 2 a.fZ a.iP ["web","marks"] xM:=lq T;have mV:aP P w K mg base cF 2 a.g6 a.jt ["web","marks","point"] xK:=mV T;have fN:aP P w K mg base cF 1 a.iE a.jN ["number"] vq:=fN T;have eF:aP P w K mg base cF 1 a.gp a.iD ["web","some"] kL:=eF T;have cT:aP P w K mg base cF 1 a.eE a.fK ["web","some"] vp:=cT T;refine T.uR.ok ez (fun vs H Q E h=>?_) (fun cdv A outer s H vs Q E hr h=>?_)
 ·obtain⟨w,p,ts,g,m,f,rfl,_⟩:=h;rfl
 ·obtain⟨wb,p,ts,g,m,f,rfl,hw,hm,t9,p6,q⟩:=h;refine⟨_,(ak (aG (i:=3) ez.nd rfl (Or.inl rfl) (aB qH (hr.mono (by decide)) (by rfl) T.DM T.DR T.DN .nil aX (aa (pv 0) (aa (pv 1) af))))
   (ak (bx (aD lZ (pv 3) cu (aC _)) (au (aE (cZ (aa ie (aa (pv 3) af))))) aR)
   (ak (aG (i:=4) ez.nd rfl (Or.inr rfl) (aB lq (hr.mono (by decide)) (by rfl) T.yz T.yF T.yC .nil aX (aa (pv 0) (aa (pv 1) af))))
   (ak (aG (i:=5) ez.nd rfl (Or.inl rfl) (cD (yS K) (by rfl) T.pB PyProof.Rows.boot_tuple (aa (dB (own:=["point"]) (fq:=["web","marks"]) (js:=[0,1]) (aN (ah cV) ["web","marks","left","side","least","worths","odd_ones","rings","near"]) rfl (aV (by rfl) T.bq (aa (ay (bT K) (pv 0) ae (fun _ _=>rfl)) af)) (fun _ _ _ _=>(aA (i:=0) (show(["point","web","marks"]:List Str).Nodup by decide +kernel) rfl (Or.inl rfl))) (fun _ _ _ _=>gI) (fun _ _ _ _=>(aB mV (hr.mono (by decide)) (by rfl) T.AR T.A2 T.AS .nil aX (aa (pv 1) (aa (pv 2) (aa (pv 0) af)))))) af)))
   (ak (gJ (i:=6) ez.nd rfl rfl (own:=["some"]) (fq:=["marks"]) (js:=[1]) (aN (ah cV) ["web","marks","left","side","least","worths","odd_ones","rings","near"]) rfl (aV (by rfl) T.bq (aa (az je ae (aF (fS K) (by rfl) T.cW PySem.boot_len (aa (ay (bT K) (pv 0) ae (fun _ _=>rfl)) af))) af)) (fun _ _ _ _=>(aA (i:=0) (show(["some","marks"]:List Str).Nodup by decide +kernel) rfl (Or.inl rfl))) (fun _ _ _ _=>(di (gk (aB fN (hr.mono (by decide)) (by rfl) T.tU T.uc T.tV .nil aX (aa (az kP (pv 0) (pv 1)) af))))) (fun _ _ _ _=>(pv 0)))
   (ak (gJ (i:=7) ez.nd rfl rfl (own:=["some"]) (fq:=["web"]) (js:=[0]) (aN (ah cV) ["web","marks","left","side","least","worths","odd_ones","rings","near"]) rfl (yb K (pv 6)) (fun _ _ _ _=>(aA (i:=0) (show(["some","web"]:List Str).Nodup by decide +kernel) rfl (Or.inl rfl))) (fun _ _ _ _=>(di (aD lZ (aB eF (hr.mono (by decide)) (by rfl) T.qA T.qD T.qB .nil aX (aa (pv 1) (aa (pv 0) af))) cu (aC _)))) (fun _ _ _ _=>(pv 0)))
   (ak (gJ (i:=8) ez.nd rfl rfl (own:=["ring"]) (fq:=["web","least"]) (js:=[0,4]) (aN (ah cV) ["web","marks","left","side","least","worths","odd_ones","rings","near"]) rfl (yb K (pv 7)) (fun _ _ _ _=>(aA (i:=0) (show(["ring","web","least"]:List Str).Nodup by decide +kernel) rfl (Or.inl rfl))) (fun _ _ _ _=>(di (aD cz (aB cT (hr.mono (by decide)) (by rfl) T.mK T.mP T.mL .nil aX (aa (pv 1) (aa (pv 0) af))) (pv 2) (aC _)))) (fun _ _ _ _=>(pv 0)))
   (au (aE (cZ (aa ie (aa (ay (m5 K) (ay (m5 K) (bQ (aa (pv 8) (aa (pv 8) (aa (pv 7) af)))) (az bz (pv 2) ae) (fun _ _=>rfl)) (az bz (az cR (pv 2) ae) (aF (fS K) (by rfl) T.cW PySem.boot_len (aa (pv 8) af))) (fun _ _=>rfl)) (aa (pv 5) af))))))))))))),?_⟩
  refine AI ?_;intro cj cM eY gD lu nR nS uI;obtain⟨bt,xs,h1,h2,h3⟩:=id hw.ex;have qJ:=h3.length;have p1:=g.p1;have pos:=Nat.two_pow_pos ts.length;have Uv:2^ts.length<=512:=Nat.le_trans (Nat.pow_le_pow_right (n:=2) (by decide) t9) (by decide)
  have Js:(1:Int)*2^((xs.length:Nat):Int).toNat=((2^ts.length:Nat):Int):=by rw[oW,qJ]
  refine(ao rfl (ao rfl ⟨wb,p,ts,g,m,rfl,hw,hm,?_⟩));rcases CA (g:=g) hm with e|⟨hno,r0,hr0,rg0,po0⟩
  ·refine .inr ⟨e,fun l H1 hl s1 hl1=>(ao rfl ⟨rfl,ao rfl (nh (fun z=>nomatch z) (ao rfl ⟨dl rfl,fun b hb=>?_⟩))⟩)⟩
   have sl:(ic p ts g m).length<=p:=Nat.le_trans (List.length_filter_le _ _) (by rw[List.length_range];exact Nat.le_refl _)
   refine q b (.inl ((ic p ts g m).map fun x=>((x:Nat):Int))) _ (s1.trans (aq.new hb)) ⟨l,aj,by rw[pF];exact aq.new hb _ _ hl1,by rw[List.length_map];lia⟩ ⟨fun z hz=>?_,by rw[List.length_map];lia⟩
   obtain⟨x,hx,rfl⟩:=List.mem_map.mp hz;have:=List.mem_range.mp (List.mem_filter.mp hx).1;exact⟨by lia,by lia⟩
  refine .inl ⟨hno,fun H1 s1=>(ao rfl ⟨rfl,ao rfl (m3 rfl ?_)⟩)⟩
  refine(ao rfl (ao rfl ⟨wb,p,ts,g,m,rfl,hw.same s1,fun o H2 s2 lb=>?_⟩))
  obtain⟨d,rfl,r1,Lv,rg1,po1,ed⟩:∃ d,o=some d/\∃ r,r<2^ts.length/\g.N.Ring r/\g.N.par r m=true/\lenOf ts r=d:=by
   cases o with
   | none =>
     have:=lb r0 hr0 rg0;rw[po0]at this;cases this
   | some d =>
     obtain⟨⟨r,hr,rg,po,e⟩,_⟩:=lb;exact⟨d,rfl,r,hr,rg,po,by rw[wm hr];exact e⟩
  have s12:=s1.trans s2;refine(ao rfl (bM (aT.of (s12 _ _ h1)) (ai (j:=0) rfl) (ao rfl ⟨by lia,by lia,fun D hD=>bY (lo:=0) (m:=((p:Nat):Int).toNat) (fun i acc H3=>aq H2 H3/\H3 D=some (.lst acc)/\∃ W,Paired (RowW H3) acc W/\W.length=i/\∀ R∈W,R.length=p) ⟨aq.new hD,aj,[],.nil,rfl,(fun _ h=>nomatch h)⟩ (fun i acc H3 _ ⟨_,f2,W,f3,f4,_⟩=>⟨f2,by rw[f3.length,f4];exact Nat.le_refl _⟩) (dD (by lia)) ?_ ?_⟩)))
  ·rintro i acc H3 hi ⟨s3,Ek,W,pr,wl,wr⟩;rw[Int.zero_add];rw[Int.toNat_natCast]at hi;refine⟨rfl,ao rfl (ao rfl (ao rfl ⟨wb,p,ts,g,m,i,rfl,hw.same (s12.trans s3),hi,fun b ys R H4 s4 hb prb rl _=>?_⟩))⟩
   have Gq:=s4 _ _ Ek;exact⟨Gq,(s3.trans s4).put hD,aj,W++[R],Paired.snoc (Paired.imp' (fun _ _ z=>z.tups (s4.tups.trans (iU.put Gq))) pr) (RowW.tups (iU.put Gq) ⟨b,ys,rfl,hb,prb⟩),by rw[List.length_append,wl];rfl,fun R' hR'=>by
    rcases List.mem_append.mp hR' with z|z
    ·exact wr R' z
    ·rw[List.mem_singleton.mp z];exact rl⟩
  rintro acc H3 ⟨s3,Ek,W,pr,wl,wr⟩;rw[Int.toNat_natCast]at wl;refine⟨D,acc,rfl,.inl ⟨aZ.of Ek,fun c hc=>?_⟩⟩
  have s4:aq H3 (upd H3 c (.tup acc)):=aq.new hc;have hW4:ff (upd H3 c (.tup acc)) c W:=⟨acc,aj,Paired.imp' (fun _ _ z=>z.same s4) pr⟩
  have sq:Kp p W:=⟨wl,wr⟩;have GB:=(s12.trans s3).trans s4;generalize upd H3 c (.tup acc)=H4 at GB hW4;refine(ao rfl (bM (aT.of (GB _ _ h1)) (ai (j:=1) rfl) (m6 rfl (.inr (aT.of (GB _ _ h2))) (bu ⟨⟨by lia,by lia,by decide⟩,((2^ts.length:Nat):Int),congrArg (fun z=>[V.int z]) Js,by lia,by lia,fun O hO=>bY (lo:=0) (m:=((2^ts.length:Nat):Int).toNat) (lC (fun k=>g.N.par k m) H4 O) (.start hO) (fun j ac H5 _ pk=>pk.len) (Nat.le_of_lt (gr (by lia))) ?_ ?_⟩))))
  ·intro k ac H5 hk pk;rw[Int.zero_add];rw[Int.toNat_natCast]at hk;have eb:Builtin.bitAnd ((k:Nat):Int) (m:Int)=((k&&&m:Nat):Int):=and_int k m;refine⟨rfl,ao rfl (ao rfl (bu ⟨_,k&&&m,rfl,eb,fun v hv=>(ao rfl (?_))⟩))⟩
   have hv2:v=g.N.par k m:=by
    rw[hv ts.length (Nat.lt_of_le_of_lt Nat.and_le_left hk)];exact RM.bS fun k _=>Nat.testBit_and ..
   cases Lw:v with
   | true=>exact dm (ao rfl (pk.yes hO (aq.refl _) (by rw[<-hv2,Lw])))
   | false=>exact dS (pk.no (aq.refl _) (by rw[<-hv2,Lw]))
  intro ac5 H5 Rq;obtain⟨oL,eo⟩:∃ oL,oL=(List.range (2^ts.length)).filter (fun k=>g.N.par k m):=⟨_,rfl⟩
  have hO5:H5 O=some (.lst (bf oL)):=by rw[Rq.2.1,Rq.2.2,Int.toNat_natCast,eo]
  have ol:oL.length<=512:=by
   rw[eo];refine Nat.le_trans (List.length_filter_le _ _) ?_;rw[List.length_range];exact Uv
  have om:∀ k,k∈oL↔k<2^ts.length/\g.N.par k m=true:=fun k=>by rw[eo,List.mem_filter,List.mem_range]
  have s45:=Rq.1;clear Rq;refine(ao rfl ⟨O,rfl,⟨_,aZ.of hO5⟩,fun C hC=>dw (xs:=bf oL) (rz (fun k=>decide (g.N.Ring k)) oL H5 C) (.start hC) (fun j ac H6 _ f=>⟨aZ.of (f.1 _ _ hO5),f.len⟩) (Nat.le_of_lt (gr (by rw[bw];lia))) ?_ ?_⟩)
  ·intro j y ac H6 hy f;obtain⟨k,hk,rfl⟩:=jw hy;have nH:=((om k).mp (nB hk)).1;refine⟨rfl,ao rfl (ao rfl ⟨wb,p,ts,g,_,k,rfl,rfl,hw.same ((GB.trans s45).trans f.1),nH,fun rg D' H7 t0 acc v0 _ s7 _ _ _ _=>?_,fun nr H7 s7=>?_⟩)⟩
   ·exact⟨rfl,ao rfl (nh (fun z=>nomatch z) (ao rfl (f.yes hC s7 hk (e7 rg))))⟩
   ·exact⟨rfl,ao rfl (m3 rfl (f.no s7 hk (h8 nr)))⟩
  intro ac6 H6 f6;rw[bw]at f6;have Rr:=f6.fin;obtain⟨rL,er⟩:∃ rL,rL=oL.filter (fun k=>decide (g.N.Ring k)):=⟨_,rfl⟩
  rw[<-er]at Rr;have rm:∀ k,k∈rL↔k∈oL/\g.N.Ring k:=fun k=>by rw[er,List.mem_filter,decide_eq_true_eq]
  have rll:rL.length<=512:=Nat.le_trans (by rw[er];exact List.length_filter_le _ _) ol
  have s46:=s45.trans f6.1;clear f6;refine(ao rfl ⟨C,rfl,⟨_,aZ.of Rr⟩,fun N hN=>dw (xs:=bf rL) (rz (fun k=>decide (lenOf ts k=d)) rL H6 N) (.start hN) (fun j ac H7 _ f=>⟨aZ.of (f.1 _ _ Rr),f.len⟩) (Nat.le_of_lt (gr (by rw[bw];lia))) ?_ ?_⟩)
  ·intro j y ac H7 hy f;obtain⟨k,hk,rfl⟩:=jw hy;have nH:=((om k).mp ((rm k).mp (nB hk)).1).1;refine⟨rfl,ao rfl (ao rfl ⟨wb,p,ts,g,_,k,rfl,rfl,hw.same ((GB.trans s46).trans f.1),nH,fun H8 s8=>(ao rfl ⟨rfl,ao rfl (?_)⟩)⟩)⟩
   by_cases hd:lenOf ts k=d
   ·exact sU (congrArg V.int hd) (ao rfl (f.yes hN s8 hk (e7 hd)))
   ·exact nj (fun z=>hd (V.int.inj z)) (f.no s8 hk (h8 hd))
  intro ac7 H7 f7;rw[bw]at f7;have Rt:=f7.fin;obtain⟨nL,en⟩:∃ nL,nL=rL.filter (fun k=>decide (lenOf ts k=d)):=⟨_,rfl⟩
  rw[<-en]at Rt;have nr:nL.length<=rL.length:=by rw[en];exact List.length_filter_le _ _
  have n0:0<nL.length:=List.length_pos_of_mem (a:=r1) (by
   rw[en,List.mem_filter,decide_eq_true_eq];exact⟨(rm r1).mpr ⟨(om r1).mpr ⟨Lv,po1⟩,rg1⟩,ed⟩)
  have hC7:=f7.1 _ _ Rr;have s47:=s46.trans f7.1;clear f7;obtain⟨i0,i1⟩:=d8 (f/3) (nL.length:Int) (by lia)
  obtain⟨i,hi,hin⟩:∃ i:Nat,f/3%(nL.length:Int)=(i:Int)/\i<nL.length:=⟨(f/3%(nL.length:Int)).toNat,by lia,by lia⟩
  have fin:∀(z' : Int) (H' : Hp),aq H7 H'->∀ b',H' b' = none->Q (.ref b') (upd H' b' (.tup [.str (Str.ofString "ring"),.int z',.ref c])):=fun z' H' s' b' hb'=>q b' (.inr (z',W)) _ (((GB.trans s47).trans s').trans (aq.new hb')) ⟨c,aj,hW4.same ((s47.trans s').trans (aq.new hb')),sq⟩ trivial
  refine(ao rfl (ao rfl (ao rfl ⟨dl rfl,fun L hL=>(ao rfl (bu ⟨(jW rfl),?_⟩))⟩)))
  dsimp only;have s8:aq H7 (upd H7 L (.lst [.ref N,.ref N,.ref C])):=aq.new hL;have KQ:upd H7 L (.lst [.ref N,.ref N,.ref C]) L=some (.lst [.ref N,.ref N,.ref C]):=aj;generalize upd H7 L (.lst [.ref N,.ref N,.ref C])=H8 at s8 KQ;have PK:∃(Z:Addr) (l:List Nat),z7 [V.ref N,.ref N,.ref C] (f%3)=some (.ref Z)/\H8 Z=some (.lst (bf l))/\i<l.length:=by
   obtain⟨m0,m1⟩:=d8 f 3 (by decide)
   have h:f%3=0\/f%3=1\/f%3=2:=by lia
   rcases h with h|h|h<;>rw[h]
   ·exact⟨N,nL,ai (j:=0) rfl,s8 _ _ Rt,hin⟩
   ·exact⟨N,nL,ai (j:=1) rfl,s8 _ _ Rt,hin⟩
   ·exact⟨C,rL,ai (j:=2) rfl,s8 _ _ hC7,by lia⟩
  obtain⟨Z,l,eZ,hZ,il⟩:=PK;have eg:(bf l)[i]?=some (.int ((l[i]:Nat):Int)):=Ak (List.getElem?_eq_getElem il);refine(nq (aZ.of KQ) (eZ) (ao rfl (bu ⟨⟨by decide,by decide⟩,ao rfl (m6 rfl (.inl (aZ.of (s8 _ _ Rt))) (bu ⟨(by rw[bw];lia),nq (aZ.of hZ) ((by rw[bw,hi];exact ai eg)) (ao rfl ⟨dl rfl,fun b' hb'=>fin _ H8 s8 b' hb'⟩)⟩))⟩)))
end
def Bb(K:bI):Sp:=fun vs H Q _=>∃(a:Addr) (ns:List Int),vs=[.ref a]/\aZ K H a (ns.map V.int)/\ns.length<=63/\∀ H',Q (.bl true) H'
theorem pow_pos(n:Nat):(0:Int)<2^n:=by
 have h:((2:Int)^n)=((2^n:Nat):Int):=by simp
 have:=Nat.two_pow_pos n
 lia
theorem KU(z:Int)(n:Nat):∃ k:Nat,z%2^n=(k:Int)/\k<2^n:=by
 obtain⟨h0,h1⟩:=d8 z (2^n) (pow_pos n);refine⟨(z%2^n).toNat,by lia,?_⟩
 have h:((2:Int)^n)=((2^n:Nat):Int):=by simp
 lia
theorem Sm.mono{n n' : Nat}(h:n<=n'):∀{x:List Int ⊕ (Int×List (List Pr))},Sm n x->Sm n' x
 | .inl _,s=>⟨s.1,Nat.le_trans s.2 h⟩
 | .inr _,_=>trivial
section
variable {P:Program}{w:World}{K:bI}{mg:iI}{base:Heap}{a:tH}
theorem PL(T:Txt K mg a):aP P w K mg base cF 12 a.Iu a.Iv ["script"] (Bb K):=by
 have um:aP P w K mg base cF 2 a.lR a.pe ["script","most_points","most_ties"] (Jb K):=um T;have dQ:aP P w K mg base cF 1 a.eR a.fY ["script","k"] (A4 K):=dQ T;have gq:aP P w K mg base cF 1 a.iC a.kj ["cell","k","way"] A8:=gq T;have fO:aP P w K mg base cF 1 a.iF a.jO ["web","side"] vt:=fO T;have oO:aP P w K mg base cF 3 a.iZ a.kG ["web","marks","left"] xS:=oO T;have kM:aP P w K mg base cF 11 a.i3 a.kH ["web","marks","answer"] xP:=kM T;have iT:aP P w K mg base cF 11 a.gc a.iQ ["web","marks","answer"] sN:=iT T;have dM:aP P w K mg base cF 2 a.cJ a.dH ["web","marks","answer","left"] xQ:=dM T;have dN:aP P w K mg base cF 1 a.cK a.dI ["web","side","left"] xR:=dN T;refine T.O1.ok gS (fun vs H Q E h=>?_) (fun cdv A outer s H vs Q E hr h=>?_)
 ·obtain⟨b,ns,rfl,_⟩:=h;rfl
 ·obtain⟨b,ns,rfl,hS,hn,fin⟩:=h;refine⟨_,(ak (jd (aB um (hr.mono (by decide)) (by rfl) T.Gd T.Gp T.Ge .nil aX (aa (pv 0) (aa ae (aa ae af)))) (Gy K (n:=2) rfl (bh (aA (i:=1) gS.nd rfl (Or.inl rfl)) (bh (aA (i:=2) gS.nd rfl (Or.inr rfl)) gf))))
   (ak (aG (i:=3) gS.nd rfl (Or.inl rfl) (az bz (pv 2) (az je ae (aF (fS K) (by rfl) T.cW PySem.boot_len (aa (ay (bT K) (pv 1) ae (fun _ _=>rfl)) af)))))
   (ak (bx (aD cz (az bz (az cR (pv 2) (az je ae (aF (fS K) (by rfl) T.cW PySem.boot_len (aa (ay (bT K) (pv 1) ae (fun _ _=>rfl)) af)))) ae) ae (aC _)) (au (aG (i:=3) gS.nd rfl (Or.inl rfl) (aB fO (hr.mono (by decide)) (by rfl) T.tW T.ud T.tX .nil aX (aa (pv 1) (aa (dB (own:=["point"]) (fq:=["left"]) (js:=[2]) (aN (ah pP) ["script","web","left","marks","first","last","k","change","tried","answer"]) rfl (aV (by rfl) T.bq (aa (ay (bT K) (pv 1) ae (fun _ _=>rfl)) af)) (fun _ _ _ _=>(aA (i:=0) (show(["point","left"]:List Str).Nodup by decide +kernel) rfl (Or.inl rfl))) (fun _ _ _ _=>(di (aD cz (az bz (az qh (pv 1) (pv 0)) ae) ae (aC _)))) (fun _ _ _ _=>(pv 0))) af))))) aR)
   (ak (aG (i:=4) gS.nd rfl (Or.inl rfl) (aB oO (hr.mono (by decide)) (by rfl) T.Ci T.Cr T.Cj .nil aX (aa (pv 1) (aa (pv 3) (aa (az cR (pv 2) ae) af)))))
   (ak (aG (i:=5) gS.nd rfl (Or.inl rfl) (pv 4))
   (ak (bx (kN (gk (aB kM (hr.mono (by decide)) (by rfl) T.uT T.uX T.uU .nil aX (aa (pv 1) (aa (pv 3) (aa (pv 4) af)))))) (au (aE gE)) aR)
   (ak (dj PassesOwn.never rfl (aV (by rfl) T.bq (aa ae af)) (aA (i:=6) gS.nd rfl (Or.inl rfl))
   (ak (aG (i:=7) gS.nd rfl (Or.inl rfl) (aB gq (hr.mono (by decide)) (by rfl) T.qy T.qC T.qz .nil aX (aa (aB dQ (hr.mono (by decide)) (by rfl) T.kW T.kY T.kX .nil aX (aa (pv 0) (aa (az cG ae (pv 6)) af))) (aa (az cG ae (pv 6)) (aa ae af)))))
   (ak (bx (aD cz (ay (bT K) (pv 4) ae (fun _ _=>rfl)) ie (aC _)) (ak (aG (i:=5) gS.nd rfl (Or.inl rfl) (cZ (aa ie (aa (aB dN (hr.mono (by decide)) (by rfl) T.i8 T.jb T.i9 .nil aX (aa (pv 1) (aa (ay (bT K) (pv 5) ae (fun _ _=>rfl)) (aa (pv 7) af)))) af))))
   (au (aG (i:=8) gS.nd rfl (Or.inl rfl) (bQ (aa (pv 5) (aa (cZ (aa ie (aa (aB dN (hr.mono (by decide)) (by rfl) T.i8 T.jb T.i9 .nil aX (aa (pv 1) (aa (ay (bT K) (pv 4) ae (fun _ _=>rfl)) (aa (az cR (pv 7) ae) af)))) af))) af)))))) (ak (aG (i:=5) gS.nd rfl (Or.inl rfl) (aB dM (hr.mono (by decide)) (by rfl) T.i5 T.ja T.i6 .nil aX (aa (pv 1) (aa (pv 3) (aa (pv 5) (aa (pv 7) af))))))
   (au (aG (i:=8) gS.nd rfl (Or.inl rfl) (bQ (aa (pv 5) (aa (aB dM (hr.mono (by decide)) (by rfl) T.i5 T.ja T.i6 .nil aX (aa (pv 1) (aa (pv 3) (aa (pv 4) (aa (az cR (pv 7) ae) af))))) (aa (cZ (aa ie (aa (bQ af) af))) af))))))))
   (au (dj PassesOwn.never rfl (yb K (pv 8)) (aA (i:=9) gS.nd rfl (Or.inl rfl))
   (au (bx (kN (gk (aB kM (hr.mono (by decide)) (by rfl) T.uT T.uX T.uU .nil aX (aa (pv 1) (aa (pv 3) (aa (pv 9) af)))))) (au (aE gE)) aR)))))))
   (au (aE (lY (aB iT (hr.mono (by decide)) (by rfl) T.pZ T.p8 T.p5 .nil aX (aa (pv 1) (aa (az jS (uw nE ae) (az bz (pv 2) ae)) (aa (pv 4) af)))) (kO (aB iT (hr.mono (by decide)) (by rfl) T.pZ T.p8 T.p5 .nil aX (aa (pv 1) (aa (az je (az cG ae (az bz (pv 2) ae)) (aF (fS K) (by rfl) T.cW PySem.boot_len (aa (ay (bT K) (pv 1) ae (fun _ _=>rfl)) af))) (aa (pv 4) af))))))))))))))),?_⟩
  refine MX ?_;intro cj cM eY gD lu nR nS uI wQ wR lK nU rR rS u9 wU BZ B0;refine(ao rfl ⟨b,ns,6,7,rfl,hS,hn,by decide,by decide,by decide,by decide,fun r wb p ts lf H1 s1 g p6 t9 hw Lv=>?_⟩)
  refine⟨r,_,rfl,aT.of Lv,rfl,_,_,rfl,_,_,rfl,rfl,?_⟩;obtain⟨bt,xs,h1,h2,h3⟩:=id hw.ex;have qJ:=h3.length;have p1:=g.p1;have pp:=pow_pos ts.length;have Uw:(1:Int)*2^((xs.length:Nat):Int).toNat=2^ts.length:=by rw[Int.toNat_natCast,qJ,Int.one_mul]
  have cont:∀(m:Nat) H2,m<2^ts.length->aq H1 H2->u9 { nx:=fun _ H'=>Q .eS H',rt:=Q} [some (.ref b),some (.ref wb),some (.int lf),some (.int (m:Int)),none,none,none,none,none,none] H2:=fun m H2 hm s2=>by
   have pos:=Nat.two_pow_pos ts.length;refine(ao rfl (ao rfl (ao rfl (bu ⟨⟨by decide,by decide⟩,wb,p,ts,g,m,_,rfl,hw.same s2,hm,(by lia),p6,fun f1 x H3 s3 hx sm=>?_⟩))))
   have Bc:=s2.trans s3;refine(ao rfl (?_));refine(ao rfl (ao rfl (ao rfl ⟨wb,f1,p,ts,g,m,x,rfl,hw.same Bc,hx,Sm.mono (by decide) sm,hm,fun H4 s4=>(ao rfl (dS ?_))⟩)))
   have GB:=Bc.trans s4;refine(ao rfl ⟨by decide,by decide,cP (lo:=0) (n:=(8:Int).toNat) (fun i σ H5=>∃ bl y v6 v7 v8 v9,σ=[some (.ref b),some (.ref wb),some (.int lf),some (.int (m:Int)),some (.ref f1),some (.ref bl),v6,v7,v8,v9]/\aq H4 H5/\nA p H5 bl y/\Sm (6+i) y/\y.isLeft=x.isLeft) ⟨f1,x,none,none,none,none,rfl,aq.refl _,hx.same s4,sm,rfl⟩ ?_ ?_⟩)
   ·rintro i D' σ H5 hi ⟨bl,y,v6,v7,v8,v9,rfl,s5,hy,PM,eyx⟩;have hi8:i<8:=hi;rw[Int.zero_add];have KW:=GB.trans s5;have Ru:=hx.same (s4.trans s5);refine(ao rfl (ao rfl (bu ⟨b,ns,_,rfl,(by lia),(s1.trans KW).seq hS,fun zc=>(ao rfl (bu ⟨_,_,_,rfl,fun ch=>?_⟩))⟩)))
    have loop:∀(tr:Addr) (ys:List V) (PN:Addr) (y2:List Int ⊕ (Int×List (List Pr))) (H6:Hp),aq H5 H6->H6 tr=some (.lst ys)->(∀ v∈ys,∃ b3 y3,v = .ref b3/\nA p H6 b3 y3/\Sm 18 y3)->nA p H6 PN y2->Sm (6+(i+1)) y2->y2.isLeft=x.isLeft->
     gD D' [some (.ref b),some (.ref wb),some (.int lf),some (.int (m:Int)),some (.ref f1),some (.ref PN),some (.int (i:Int)),some (.int ch),some (.ref tr),v9] H6:=fun tr ys PN y2 H6 s6 htr Ux hy2 sm2 e2=>by
     refine(ao rfl ⟨tr,rfl,⟨_,aZ.of htr⟩,ir (K:=K) (a:=tr) (xs:=ys) (fun j σ H7=>∃ v9,σ=[some (.ref b),some (.ref wb),some (.int lf),some (.int (m:Int)),some (.ref f1),some (.ref PN),some (.int (i:Int)),some (.int ch),some (.ref tr),v9]/\aq H6 H7) (ao rfl (aq.refl _)) (fun j σ H7 _ ⟨_,_,z⟩=>aZ.of (z _ _ htr)) ?_ ?_⟩)
     ·rintro j v D2 σ H7 hj ⟨v9,rfl,s7⟩;obtain⟨b3,y3,rfl,hy3,sm3⟩:=Ux v (nB hj);exact(ao rfl (ao rfl (ao rfl ⟨wb,b3,p,ts,g,m,y3,rfl,hw.same ((KW.trans s6).trans s7),hy3.same s7,sm3,hm,fun H8 s8=>(ao rfl (dS (ao rfl (s7.trans s8))))⟩)))
     ·rintro σ H7 ⟨v9,rfl,s7⟩;exact⟨PN,y2,_,_,_,_,rfl,(s5.trans s6).trans s7,hy2.same s7,sm2,e2⟩
    match x,sm,Ru,y,hy,PM,eyx,loop with
    | .inl zs,sm,⟨l,hb,hl,hz⟩,.inl zs2,⟨l2,Lr,hl2,hz2⟩,PM,_,loop =>
      refine(ao rfl (bM (aT.of hb) (ai (j:=0) rfl) ⟨rfl,ao rfl (sU rfl ?_)⟩));refine(ao rfl (ao rfl (bM (aT.of Lr) (ai (j:=1) rfl) (ao rfl ⟨wb,l2,p,ts,zs2,6+i,ch,rfl,hw.same KW,g,p6,hl2,PM.1,PM.2,(by lia),(by lia),fun l3 zs3 H6 s6 Nd v3 n3=>⟨dl rfl,fun c hc=>?_⟩⟩))))
      have s7:aq H6 (upd H6 c (.tup [.str "side",.ref l3])):=aq.new hc;have hc7:upd H6 c (.tup [.str "side",.ref l3]) c=some (.tup [.str "side",.ref l3]):=aj;generalize upd H6 c (.tup [.str "side",.ref l3])=H7 at s7 hc7;have Rw:=s6.trans s7;refine(ao rfl (ao rfl (ao rfl (bM (aT.of (Rw _ _ hb)) (ai (j:=1) rfl) (ao rfl (bu ⟨⟨by decide,by decide⟩,wb,l,p,ts,zs,6,_,rfl,hw.same (KW.trans Rw),g,p6,Rw _ _ hl,sm.1,sm.2,(by lia),(by lia),fun l4 zs4 H8 s8 hl4 v4 n4=>⟨dl rfl,fun c4 hc4=>?_⟩⟩))))))
      have s9:aq H8 (upd H8 c4 (.tup [.str "side",.ref l4])):=aq.new hc4;have PR:upd H8 c4 (.tup [.str "side",.ref l4]) c4=some (.tup [.str "side",.ref l4]):=aj;generalize upd H8 c4 (.tup [.str "side",.ref l4])=H9 at s9 PR;refine⟨dl rfl,fun tr htr=>?_⟩
      have Uy:=s8.trans s9;have Ag:aq H9 (upd H9 tr (.lst [.ref c,.ref c4])):=aq.new htr;have a1:nA p (upd H9 tr (.lst [.ref c,.ref c4])) c (.inl zs3):=⟨l3,(Uy.trans Ag) _ _ hc7,((s7.trans Uy).trans Ag) _ _ Nd,by lia⟩
      have a2:nA p (upd H9 tr (.lst [.ref c,.ref c4])) c4 (.inl zs4):=⟨l4,Ag _ _ PR,(s9.trans Ag) _ _ hl4,by lia⟩
      refine loop tr [.ref c,.ref c4] c (.inl zs3) _ ((Rw.trans Uy).trans Ag) aj (fun v hv=>?_) a1 ⟨v3,by lia⟩ rfl
      rcases List.mem_cons.mp hv with rfl|hv
      ·exact⟨c,_,rfl,a1,v3,by lia⟩
      ·rw[List.mem_singleton.mp hv];exact⟨c4,_,rfl,a2,v4,by lia⟩
    | .inr (z,W),_,⟨c,hb,hc,sq⟩,.inr (z2,W2),⟨c2,Lr,hc2,sq2⟩,_,_,loop =>
      refine(ao rfl (bM (aT.of hb) (ai (j:=0) rfl) ⟨rfl,ao rfl (nj (fun z=>by cases z) ?_)⟩))
      refine(ao rfl (ao rfl (ao rfl (ao rfl ⟨wb,bl,p,ts,_,z2,W2,ch,rfl,hw.same KW,g,⟨c2,Lr,hc2,sq2⟩,fun b3 z3 W3 H6 s6 Uz=>?_⟩))))
      refine(ao rfl (ao rfl (ao rfl (ao rfl (ao rfl (bu ⟨⟨by decide,by decide⟩,wb,f1,p,ts,_,z,W,_,rfl,hw.same (KW.trans s6),g,nA.same (x:=.inr (z,W)) s6 ⟨c,hb,hc,sq⟩,fun b4 z4 W4 H7 s7 UA=>⟨dl rfl,fun l5 hl5=>⟨dl rfl,fun c5 hc5=>⟨dl rfl,fun tr htr=>?_⟩⟩⟩⟩))))))
      have s8:aq H7 (upd H7 l5 (.lst [])):=aq.new hl5;have hl8:upd H7 l5 (.lst []) l5=some (.lst []):=aj;generalize upd H7 l5 (.lst [])=H8 at s8 hl8 hc5 htr;have s9:aq H8 (upd H8 c5 (.tup [.str "side",.ref l5])):=aq.new hc5;have PR:upd H8 c5 (.tup [.str "side",.ref l5]) c5=some (.tup [.str "side",.ref l5]):=aj;generalize upd H8 c5 (.tup [.str "side",.ref l5])=H9 at s9 PR htr;have Ag:aq H9 (upd H9 tr (.lst [.ref b3,.ref b4,.ref c5])):=aq.new htr;have Ng:=(s8.trans s9).trans Ag;have a1:=nA.same (s7.trans Ng) Uz;refine loop tr [.ref b3,.ref b4,.ref c5] b3 (.inr (z3,W3)) _ ((s6.trans s7).trans Ng) aj (fun v hv=>?_) a1 trivial rfl
      rcases List.mem_cons.mp hv with rfl|hv
      ·exact⟨b3,_,rfl,a1,trivial⟩
      rcases List.mem_cons.mp hv with rfl|hv
      ·exact⟨b4,_,rfl,nA.same Ng UA,trivial⟩
      ·rw[List.mem_singleton.mp hv];exact⟨c5,.inl [],rfl,⟨l5,Ag _ _ PR,(s9.trans Ag) _ _ hl8,Nat.zero_le _⟩,(fun z hz=>nomatch hz),Nat.zero_le _⟩
    | .inl _,_,_,.inr _,_,_,e,_=>cases e
    | .inr _,_,_,.inl _,_,_,e,_=>cases e
   ·rintro σ H5 ⟨bl,y,v6,v7,v8,v9,rfl,s5,hy,PM,eyx⟩;have h9:=d8 lf 9 (by decide)
    have KW:=GB.trans s5;have Ru:=hx.same (s4.trans s5);refine(ao rfl (ao rfl (ao rfl (bu ⟨(jW rfl),bu (ao rfl ⟨wb,f1,p,ts,g,_,x,rfl,hw.same KW,Ru,.inl (by lia),fun H7 s7=>(ao rfl (dm ?_))⟩)⟩))))
    have UB:=KW.trans s7;refine(ao rfl (ao rfl (bu ⟨(jW rfl),bu (ao rfl (bM (aT.of (UB _ _ h1)) (ai (j:=1) rfl) (m6 rfl (.inr (aT.of (UB _ _ h2))) (bu ⟨?CP,_,rfl,wb,f1,p,ts,g,_,x,rfl,hw.same UB,Ru.same s7,.inr ?_,fun H8 _=>fin H8⟩))))⟩)))
    case CP=>exact⟨by lia,by lia,by show(1+lf%9).natAbs<2^64;lia⟩
    rw[Int.toNat_natCast,qJ];have:(1:Int)*2^ts.length<=(1+lf%9)*2^ts.length:=Int.mul_le_mul_of_nonneg_right (by lia) (Int.le_of_lt pp)
    lia
  refine(ao rfl (ao rfl (bM (aT.of h1) (ai (j:=1) rfl) (m6 rfl (.inr (aT.of h2)) (bu ⟨⟨by lia,by lia,by decide⟩,bu ⟨(by rw[Uw];exact pp),?_⟩⟩)))))
  dsimp only;rw[Uw];obtain⟨m,hm,hml⟩:=KU lf ts.length;rw[hm];have big:(2:Nat)^ts.length<=2^7:=Nat.pow_le_pow_right (by decide) t9
  have pw:((2:Int)^ts.length)=((2^ts.length:Nat):Int):=by simp
  have hdiv:JI lf (2^ts.length):=⟨pp,by lia⟩
  refine(ao rfl (ao rfl (bM (aT.of h1) (ai (j:=1) rfl) (m6 rfl (.inr (aT.of h2)) (bu ⟨⟨by lia,by lia,by decide⟩,bu ⟨(by rw[Uw];exact hdiv),bu ⟨(jW rfl),rfl,ao rfl (jj (fun _=>?_) (fun _=>cont m H1 hml (aq.refl _)))⟩⟩⟩)))))
  refine(ao rfl (ao rfl (bM (aT.of h1) (ai (j:=0) rfl) (ao rfl ⟨(by lia),(by lia),fun C hC=>bY (lo:=0) (m:=(p:Int).toNat) (lC (fun x=>decide (lf/2^x%2=1)) H1 C) (.start hC) (fun i acc H2 _ pk=>pk.len) (dD (by lia)) ?_ ?_⟩))))
  ·intro i acc H2 hi pk;rw[Int.toNat_natCast]at hi;rw[Int.zero_add];refine⟨rfl,ao rfl (ao rfl (bu ⟨(by lia),bu ⟨(jW rfl),rfl,ao rfl (?_)⟩⟩))⟩
   have e1:decide (V.int (lf/2^((i:Nat):Int).toNat%2)=V.int 1)=decide (lf/2^i%2=1):=by
    rw[Int.toNat_natCast];exact decide_eq_decide.mpr ⟨fun z=>V.int.inj z,fun z=>by rw[z]⟩
   dsimp only;rw[e1];cases hb:decide (lf/2^i%2=1) with
   | true=>exact(ao rfl (pk.yes hC (aq.refl _) hb))
   | false=>exact pk.no (aq.refl _) hb
  intro acc H2 pk;obtain⟨zs,Rp⟩:∃ zs:List Nat,H2 C=some (.lst (bf zs)):=⟨_,by rw[pk.2.1,pk.2.2]⟩
  exact⟨wb,p,ts,g,C,zs,rfl,hw.same pk.1,Rp,cont _ H2 (RM.MD (N:=g.N) _) pk.1⟩
end
theorem all_mk{l:PySem.W.OpenLaw}{w:World}{K:bI}{h:Heap}{mg:iI}{fa:Addr}(X:K.In h)(G:h.Ns mainGlobals mg)(hfa:mg "law"=some (.ref fa))
 {f0 f1 f2 f3 f4 f5 f6 f7 f8 f9 Rx Ry Rz RA RB RC RD RE RG RH RI RJ RK RL RN RO RP RQ RS RT RU RV f32 RW RY RZ R0 R7 R9 Sa Sb Sd Se Sf Sg Sh Si Sj Sk UC:Addr} {od0 an0 od1 an1 od2 an2 od3 Uz od4 UA od5 an5 od6 an6 od7 an7 od8 an8 od9 an9 UD UE UG UH UI UJ UK UL UM UN UO UP UQ UR US UT UU UW UX UY UZ U0 U1 U3 U4 U5 U6 U7 U8 U9 Va Vb Vc Vd Ve Vf Vg Vh Vi Vj Vk Vl Vm Vn Vo Vp Vq Vr Vs Vt Vu Vv Vw Vx Vy VA VB VC VD VE VF VG VH VI VJ VL VM VN VO VP VQ VR VS VT VU VV VW VX VY PU:Option Addr} {sl0 sl1 sl2 sl3 sl4 sl5 sl6 sl7 sl8 sl9 VZ V1 V2 V3 V4 V5 V6 V7 V8 V9 Wa Wc Wd We Wf Wg Wh Wi Wj Wm Wn Wo Wq Wr Ws Wt Wu Wv Ww Wx Wz WA WB WC WD WE WG WH WI WJ:Array (Option Value)}
 {oc0 kV0 dc0 pm0 cd0 ct0 oc1 kV1 dc1 pm1 cd1 ct1 oc2 kV2 dc2 pm2 cd2 ct2 oc3 kV3 dc3 pm3 cd3 ct3 oc4 kV4 dc4 pm4 cd4 ct4 oc5 kV5 dc5 pm5 cd5 ct5 oc6 kV6 dc6 pm6 cd6 ct6 oc7 kV7 dc7 pm7 cd7 ct7 oc8 kV8 dc8 pm8 cd8 ct8 oc9 kV9 dc9 pm9 cd9 ct9 WK WL WM WN PV WO WQ WR WS WT PX WU WV WW WX WY PY WZ W0 W5 W6 W7 PZ W8 W9 Xa Xb Xc P0 Xd Xe Xf Xg Xh P1 Xi Xj Xk Xl Xm P4 Xn Xo Xp Xq Xr P5 Xs Xu Xv Xw Xx P6 Xy Xz XA XC XD P7 XE XF XG XH XI P8 XJ XM XN XO XQ P9 XR XS XT XU XW Qa XX XY XZ X0 X3 Qc X4 X5 X6 X7 X8 Qd X9 Yb Yc Yd Ye Qe Yg Yh Yi Yj Yk Qf Yl Ym Yn Yo Yp Qg Yq Yr Ys Yt Yu Qh Yv Yw Yx Yy Yz Qi YA YB YC YD YE Qj YF YG YH YI YJ Qk YK YL YM YN YO Ql YQ YR YS YT YU Qm YV YW YX YY YZ Qn Y0 Y3 Y4 Y5 Y6 Qo Y7 Y8 Y9 Za Zb Qp Zc Zd Ze Zf Zg Qq Zh Zi Zj Zk Zl Qs Zm Zn Zo Zp Zq Qt Zr Zs Zt Zu Zv Qu Zw Zx Zy Zz ZA Qv ZC ZD ZE ZF ZG Qw ZH ZI ZJ ZK ZL Qx ZM ZN ZO ZP ZQ Qy ZR ZS ZT ZU ZV Qz ZW ZX ZY ZZ Z0 QA Z1 Z2 Z3 Z4 Z5 QB Z6 Z7 Z8 Z9 aaa QC aab aac QD QE QF Nh QG:Value}
 {oQ xT bD qI uq ur xU xV uu xW xX uv xY:Addr}
 (a0:PySem.W.nsIn K mainGlobals "has_tie"=some (some (.ref f0)))
 (l0:K.lookup f0=some ⟨oc0,od0,.func (PySem.W.fnOf "has_tie" "has_tie" (aK jC) (aH jC) (ah jC) .none kV0 dc0 pm0 an0 cd0 ct0),sl0⟩)
 (c0:PySem.W.codeIn K cd0 "has_tie"=true) (k0:PySem.W.keepIn K (.ref f0)=true)
 (a1:PySem.W.nsIn K mainGlobals "ties_in"=some (some (.ref f1)))
 (l1:K.lookup f1=some ⟨oc1,od1,.func (PySem.W.fnOf "ties_in" "ties_in" (aK iu) (aH iu) (ah iu) .none kV1 dc1 pm1 an1 cd1 ct1),sl1⟩)
 (c1:PySem.W.codeIn K cd1 "ties_in"=true) (k1:PySem.W.keepIn K (.ref f1)=true)
 (a2:PySem.W.nsIn K mainGlobals "set_of"=some (some (.ref f2)))
 (l2:K.lookup f2=some ⟨oc2,od2,.func (PySem.W.fnOf "set_of" "set_of" (aK lH) (aH lH) (ah lH) .none kV2 dc2 pm2 an2 cd2 ct2),sl2⟩)
 (c2:PySem.W.codeIn K cd2 "set_of"=true) (k2:PySem.W.keepIn K (.ref f2)=true)
 (a3:PySem.W.nsIn K mainGlobals "all_ties"=some (some (.ref f3)))
 (l3:K.lookup f3=some ⟨oc3,od3,.func (PySem.W.fnOf "all_ties" "all_ties" (aK iw) (aH iw) (ah iw) .none kV3 dc3 pm3 Uz cd3 ct3),sl3⟩)
 (c3:PySem.W.codeIn K cd3 "all_ties"=true) (k3:PySem.W.keepIn K (.ref f3)=true)
 (a4:PySem.W.nsIn K mainGlobals "is_set"=some (some (.ref f4)))
 (l4:K.lookup f4=some ⟨oc4,od4,.func (PySem.W.fnOf "is_set" "is_set" (aK lI) (aH lI) (ah lI) .none kV4 dc4 pm4 UA cd4 ct4),sl4⟩)
 (c4:PySem.W.codeIn K cd4 "is_set"=true) (k4:PySem.W.keepIn K (.ref f4)=true)
 (a5:PySem.W.nsIn K mainGlobals "check_set"=some (some (.ref f5)))
 (l5:K.lookup f5=some ⟨oc5,od5,.func (PySem.W.fnOf "check_set" "check_set" (aK gu) (aH gu) (ah gu) .none kV5 dc5 pm5 an5 cd5 ct5),sl5⟩)
 (c5:PySem.W.codeIn K cd5 "check_set"=true) (k5:PySem.W.keepIn K (.ref f5)=true)
 (a6:PySem.W.nsIn K mainGlobals "triples_in"=some (some (.ref f6)))
 (l6:K.lookup f6=some ⟨oc6,od6,.func (PySem.W.fnOf "triples_in" "triples_in" (aK d9) (aH d9) (ah d9) .none kV6 dc6 pm6 an6 cd6 ct6),sl6⟩)
 (c6:PySem.W.codeIn K cd6 "triples_in"=true) (k6:PySem.W.keepIn K (.ref f6)=true)
 (a7:PySem.W.nsIn K mainGlobals "length_of"=some (some (.ref f7)))
 (l7:K.lookup f7=some ⟨oc7,od7,.func (PySem.W.fnOf "length_of" "length_of" (aK fg) (aH fg) (ah fg) .none kV7 dc7 pm7 an7 cd7 ct7),sl7⟩)
 (c7:PySem.W.codeIn K cd7 "length_of"=true) (k7:PySem.W.keepIn K (.ref f7)=true)
 (a8:PySem.W.nsIn K mainGlobals "odd_points"=some (some (.ref f8)))
 (l8:K.lookup f8=some ⟨oc8,od8,.func (PySem.W.fnOf "odd_points" "odd_points" (aK ee) (aH ee) (ah ee) .none kV8 dc8 pm8 an8 cd8 ct8),sl8⟩)
 (c8:PySem.W.codeIn K cd8 "odd_points"=true) (k8:PySem.W.keepIn K (.ref f8)=true)
 (a9:PySem.W.nsIn K mainGlobals "drawn_together"=some (some (.ref f9)))
 (l9:K.lookup f9=some ⟨oc9,od9,.func (PySem.W.fnOf "drawn_together" "drawn_together" (aK cE) (aH cE) (ah cE) .none kV9 dc9 pm9 an9 cd9 ct9),sl9⟩)
 (c9:PySem.W.codeIn K cd9 "drawn_together"=true) (k9:PySem.W.keepIn K (.ref f9)=true)
 (a10:PySem.W.nsIn K mainGlobals "pieces"=some (some (.ref Rx)))
 (l10:K.lookup Rx=some ⟨WK,UD,.func (PySem.W.fnOf "pieces" "pieces" (aK j8) (aH j8) (ah j8) .none WL WM WN UE PV WO),VZ⟩)
 (c10:PySem.W.codeIn K PV "pieces"=true) (k10:PySem.W.keepIn K (.ref Rx)=true)
 (a11:PySem.W.nsIn K mainGlobals "is_even"=some (some (.ref Ry)))
 (l11:K.lookup Ry=some ⟨WQ,UG,.func (PySem.W.fnOf "is_even" "is_even" (aK jD) (aH jD) (ah jD) .none WR WS WT UH PX WU),V1⟩)
 (c11:PySem.W.codeIn K PX "is_even"=true) (k11:PySem.W.keepIn K (.ref Ry)=true)
 (a12:PySem.W.nsIn K mainGlobals "is_ring"=some (some (.ref Rz)))
 (l12:K.lookup Rz=some ⟨WV,UI,.func (PySem.W.fnOf "is_ring" "is_ring" (aK iy) (aH iy) (ah iy) .none WW WX WY UJ PY WZ),V2⟩)
 (c12:PySem.W.codeIn K PY "is_ring"=true) (k12:PySem.W.keepIn K (.ref Rz)=true)
 (a13:PySem.W.nsIn K mainGlobals "is_ring_number"=some (some (.ref RA)))
 (l13:K.lookup RA=some ⟨W0,UK,.func (PySem.W.fnOf "is_ring_number" "is_ring_number" (aK cX) (aH cX) (ah cX) .none W5 W6 W7 UL PZ W8),V3⟩)
 (c13:PySem.W.codeIn K PZ "is_ring_number"=true) (k13:PySem.W.keepIn K (.ref RA)=true)
 (a14:PySem.W.nsIn K mainGlobals "common"=some (some (.ref RB)))
 (l14:K.lookup RB=some ⟨W9,UM,.func (PySem.W.fnOf "common" "common" (aK lJ) (aH lJ) (ah lJ) .none Xa Xb Xc UN P0 Xd),V4⟩)
 (c14:PySem.W.codeIn K P0 "common"=true) (k14:PySem.W.keepIn K (.ref RB)=true)
 (a15:PySem.W.nsIn K mainGlobals "bears_oddly"=some (some (.ref RC)))
 (l15:K.lookup RC=some ⟨Xe,UO,.func (PySem.W.fnOf "bears_oddly" "bears_oddly" (aK eI) (aH eI) (ah eI) .none Xf Xg Xh UP P1 Xi),V5⟩)
 (c15:PySem.W.codeIn K P1 "bears_oddly"=true) (k15:PySem.W.keepIn K (.ref RC)=true)
 (a16:PySem.W.nsIn K mainGlobals "is_side"=some (some (.ref RD)))
 (l16:K.lookup RD=some ⟨Xj,UQ,.func (PySem.W.fnOf "is_side" "is_side" (aK jE) (aH jE) (ah jE) .none Xk Xl Xm UR P4 Xn),V6⟩)
 (c16:PySem.W.codeIn K P4 "is_side"=true) (k16:PySem.W.keepIn K (.ref RD)=true)
 (a17:PySem.W.nsIn K mainGlobals "cut_of"=some (some (.ref RE)))
 (l17:K.lookup RE=some ⟨Xo,US,.func (PySem.W.fnOf "cut_of" "cut_of" (aK j9) (aH j9) (ah j9) .none Xp Xq Xr UT P5 Xs),V7⟩)
 (c17:PySem.W.codeIn K P5 "cut_of"=true) (k17:PySem.W.keepIn K (.ref RE)=true)
 (a18:PySem.W.nsIn K mainGlobals "is_side_of"=some (some (.ref RG)))
 (l18:K.lookup RG=some ⟨Xu,UU,.func (PySem.W.fnOf "is_side_of" "is_side_of" (aK fB) (aH fB) (ah fB) .none Xv Xw Xx UW P6 Xy),V8⟩)
 (c18:PySem.W.codeIn K P6 "is_side_of"=true) (k18:PySem.W.keepIn K (.ref RG)=true)
 (a19:PySem.W.nsIn K mainGlobals "near_enough"=some (some (.ref RH)))
 (l19:K.lookup RH=some ⟨Xz,UX,.func (PySem.W.fnOf "near_enough" "near_enough" (aK eJ) (aH eJ) (ah eJ) .none XA XC XD UY P7 XE),V9⟩)
 (c19:PySem.W.codeIn K P7 "near_enough"=true) (k19:PySem.W.keepIn K (.ref RH)=true)
 (a20:PySem.W.nsIn K mainGlobals "tie_stands"=some (some (.ref RI)))
 (l20:K.lookup RI=some ⟨XF,UZ,.func (PySem.W.fnOf "tie_stands" "tie_stands" (aK fC) (aH fC) (ah fC) .none XG XH XI U0 P8 XJ),Wa⟩)
 (c20:PySem.W.codeIn K P8 "tie_stands"=true) (k20:PySem.W.keepIn K (.ref RI)=true)
 (a21:PySem.W.nsIn K mainGlobals "worths_stand"=some (some (.ref RJ)))
 (l21:K.lookup RJ=some ⟨XM,U1,.func (PySem.W.fnOf "worths_stand" "worths_stand" (aK dY) (aH dY) (ah dY) .none XN XO XQ U3 P9 XR),Wc⟩)
 (c21:PySem.W.codeIn K P9 "worths_stand"=true) (k21:PySem.W.keepIn K (.ref RJ)=true)
 (a22:PySem.W.nsIn K mainGlobals "none_shorter"=some (some (.ref RK)))
 (l22:K.lookup RK=some ⟨XS,U4,.func (PySem.W.fnOf "none_shorter" "none_shorter" (aK cH) (aH cH) (ah cH) .none XT XU XW U5 Qa XX),Wd⟩)
 (c22:PySem.W.codeIn K Qa "none_shorter"=true) (k22:PySem.W.keepIn K (.ref RK)=true)
 (a23:PySem.W.nsIn K mainGlobals "ring_stands"=some (some (.ref RL)))
 (l23:K.lookup RL=some ⟨XY,U6,.func (PySem.W.fnOf "ring_stands" "ring_stands" (aK eK) (aH eK) (ah eK) .none XZ X0 X3 U7 Qc X4),We⟩)
 (c23:PySem.W.codeIn K Qc "ring_stands"=true) (k23:PySem.W.keepIn K (.ref RL)=true)
 (a24:PySem.W.nsIn K mainGlobals "odd_judged"=some (some (.ref RN)))
 (l24:K.lookup RN=some ⟨X5,U8,.func (PySem.W.fnOf "odd_judged" "odd_judged" (aK fD) (aH fD) (ah fD) .none X6 X7 X8 U9 Qd X9),Wf⟩)
 (c24:PySem.W.codeIn K Qd "odd_judged"=true) (k24:PySem.W.keepIn K (.ref RN)=true)
 (a25:PySem.W.nsIn K mainGlobals "_law_cell_at"=some (some (.ref RO)))
 (l25:K.lookup RO=some ⟨Yb,Va,.func (PySem.W.fnOf "_law_cell_at" "_law_cell_at" (aK eM) (aH eM) (ah eM) .none Yc Yd Ye Vb Qe Yg),Wg⟩)
 (c25:PySem.W.codeIn K Qe "_law_cell_at"=true) (k25:PySem.W.keepIn K (.ref RO)=true)
 (a26:PySem.W.nsIn K mainGlobals "_law_left"=some (some (.ref RP)))
 (l26:K.lookup RP=some ⟨Yh,Vc,.func (PySem.W.fnOf "_law_left" "_law_left" (aK iz) (aH iz) (ah iz) .none Yi Yj Yk Vd Qf Yl),Wh⟩)
 (c26:PySem.W.codeIn K Qf "_law_left"=true) (k26:PySem.W.keepIn K (.ref RP)=true)
 (a27:PySem.W.nsIn K mainGlobals "_law_tie"=some (some (.ref RQ)))
 (l27:K.lookup RQ=some ⟨Ym,Ve,.func (PySem.W.fnOf "_law_tie" "_law_tie" (aK jF) (aH jF) (ah jF) .none Yn Yo Yp Vf Qg Yq),Wi⟩)
 (c27:PySem.W.codeIn K Qg "_law_tie"=true) (k27:PySem.W.keepIn K (.ref RQ)=true)
 (a28:PySem.W.nsIn K mainGlobals "_law_web"=some (some (.ref RS)))
 (l28:K.lookup RS=some ⟨Yr,Vg,.func (PySem.W.fnOf "_law_web" "_law_web" (aK jG) (aH jG) (ah jG) .none Ys Yt Yu Vh Qh Yv),Wj⟩)
 (c28:PySem.W.codeIn K Qh "_law_web"=true) (k28:PySem.W.keepIn K (.ref RS)=true)
 (a29:PySem.W.nsIn K mainGlobals "_law_walk"=some (some (.ref RT)))
 (l29:K.lookup RT=some ⟨Yw,Vi,.func (PySem.W.fnOf "_law_walk" "_law_walk" (aK ef) (aH ef) (ah ef) .none Yx Yy Yz Vj Qi YA),Wm⟩)
 (c29:PySem.W.codeIn K Qi "_law_walk"=true) (k29:PySem.W.keepIn K (.ref RT)=true)
 (a30:PySem.W.nsIn K mainGlobals "_law_least"=some (some (.ref RU)))
 (l30:K.lookup RU=some ⟨YB,Vk,.func (PySem.W.fnOf "_law_least" "_law_least" (aK gx) (aH gx) (ah gx) .none YC YD YE Vl Qj YF),Wn⟩)
 (c30:PySem.W.codeIn K Qj "_law_least"=true) (k30:PySem.W.keepIn K (.ref RU)=true)
 (a31:PySem.W.nsIn K mainGlobals "_law_worths"=some (some (.ref RV)))
 (l31:K.lookup RV=some ⟨YG,Vm,.func (PySem.W.fnOf "_law_worths" "_law_worths" (aK dF) (aH dF) (ah dF) .none YH YI YJ Vn Qk YK),Wo⟩)
 (c31:PySem.W.codeIn K Qk "_law_worths"=true) (k31:PySem.W.keepIn K (.ref RV)=true)
 (a32:PySem.W.nsIn K mainGlobals "_law_length"=some (some (.ref f32)))
 (l32:K.lookup f32=some ⟨YL,Vo,.func (PySem.W.fnOf "_law_length" "_law_length" (aK ek) (aH ek) (ah ek) .none YM YN YO Vp Ql YQ),Wq⟩)
 (c32:PySem.W.codeIn K Ql "_law_length"=true) (k32:PySem.W.keepIn K (.ref f32)=true)
 (a33:PySem.W.nsIn K mainGlobals "_law_odd"=some (some (.ref RW)))
 (l33:K.lookup RW=some ⟨YR,Vq,.func (PySem.W.fnOf "_law_odd" "_law_odd" (aK jH) (aH jH) (ah jH) .none YS YT YU Vr Qm YV),Wr⟩)
 (c33:PySem.W.codeIn K Qm "_law_odd"=true) (k33:PySem.W.keepIn K (.ref RW)=true)
 (a34:PySem.W.nsIn K mainGlobals "_law_nearest"=some (some (.ref RY)))
 (l34:K.lookup RY=some ⟨YW,Vs,.func (PySem.W.fnOf "_law_nearest" "_law_nearest" (aK eN) (aH eN) (ah eN) .none YX YY YZ Vt Qn Y0),Ws⟩)
 (c34:PySem.W.codeIn K Qn "_law_nearest"=true) (k34:PySem.W.keepIn K (.ref RY)=true)
 (a35:PySem.W.nsIn K mainGlobals "_law_cut"=some (some (.ref RZ)))
 (l35:K.lookup RZ=some ⟨Y3,Vu,.func (PySem.W.fnOf "_law_cut" "_law_cut" (aK jI) (aH jI) (ah jI) .none Y4 Y5 Y6 Vv Qo Y7),Wt⟩)
 (c35:PySem.W.codeIn K Qo "_law_cut"=true) (k35:PySem.W.keepIn K (.ref RZ)=true)
 (a36:PySem.W.nsIn K mainGlobals "_law_side"=some (some (.ref R0)))
 (l36:K.lookup R0=some ⟨Y8,Vw,.func (PySem.W.fnOf "_law_side" "_law_side" (aK gn) (aH gn) (ah gn) .none Y9 Za Zb Vx Qp Zc),Wu⟩)
 (c36:PySem.W.codeIn K Qp "_law_side"=true) (k36:PySem.W.keepIn K (.ref R0)=true)
 (a37:PySem.W.nsIn K mainGlobals "_law_stands"=some (some (.ref R7)))
 (l37:K.lookup R7=some ⟨Zd,Vy,.func (PySem.W.fnOf "_law_stands" "_law_stands" (aK fE) (aH fE) (ah fE) .none Ze Zf Zg VA Qq Zh),Wv⟩)
 (c37:PySem.W.codeIn K Qq "_law_stands"=true) (k37:PySem.W.keepIn K (.ref R7)=true)
 (a38:PySem.W.nsIn K mainGlobals "_law_put"=some (some (.ref R9)))
 (l38:K.lookup R9=some ⟨Zi,VB,.func (PySem.W.fnOf "_law_put" "_law_put" (aK jJ) (aH jJ) (ah jJ) .none Zj Zk Zl VC Qs Zm),Ww⟩)
 (c38:PySem.W.codeIn K Qs "_law_put"=true) (k38:PySem.W.keepIn K (.ref R9)=true)
 (a39:PySem.W.nsIn K mainGlobals "_law_moved"=some (some (.ref Sa)))
 (l39:K.lookup Sa=some ⟨Zn,VD,.func (PySem.W.fnOf "_law_moved" "_law_moved" (aK gy) (aH gy) (ah gy) .none Zo Zp Zq VE Qt Zr),Wx⟩)
 (c39:PySem.W.codeIn K Qt "_law_moved"=true) (k39:PySem.W.keepIn K (.ref Sa)=true)
 (a40:PySem.W.nsIn K mainGlobals "_law_side_stands"=some (some (.ref Sb)))
 (l40:K.lookup Sb=some ⟨Zs,VF,.func (PySem.W.fnOf "_law_side_stands" "_law_side_stands" (aK bg) (aH bg) (ah bg) .none Zt Zu Zv VG Qu Zw),Wz⟩)
 (c40:PySem.W.codeIn K Qu "_law_side_stands"=true) (k40:PySem.W.keepIn K (.ref Sb)=true)
 (a41:PySem.W.nsIn K mainGlobals "_law_ring_stands"=some (some (.ref Sd)))
 (l41:K.lookup Sd=some ⟨Zx,VH,.func (PySem.W.fnOf "_law_ring_stands" "_law_ring_stands" (aK bH) (aH bH) (ah bH) .none Zy Zz ZA VI Qv ZC),WA⟩)
 (c41:PySem.W.codeIn K Qv "_law_ring_stands"=true) (k41:PySem.W.keepIn K (.ref Sd)=true)
 (a42:PySem.W.nsIn K mainGlobals "_law_answer_stands"=some (some (.ref Se)))
 (l42:K.lookup Se=some ⟨ZD,VJ,.func (PySem.W.fnOf "_law_answer_stands" "_law_answer_stands" (aK cf) (aH cf) (ah cf) .none ZE ZF ZG VL Qw ZH),WB⟩)
 (c42:PySem.W.codeIn K Qw "_law_answer_stands"=true) (k42:PySem.W.keepIn K (.ref Se)=true)
 (a43:PySem.W.nsIn K mainGlobals "_law_kinds"=some (some (.ref Sf)))
 (l43:K.lookup Sf=some ⟨ZI,VM,.func (PySem.W.fnOf "_law_kinds" "_law_kinds" (aK fj) (aH fj) (ah fj) .none ZJ ZK ZL VN Qx ZM),WC⟩)
 (c43:PySem.W.codeIn K Qx "_law_kinds"=true) (k43:PySem.W.keepIn K (.ref Sf)=true)
 (a44:PySem.W.nsIn K mainGlobals "_law_ring_otherwise"=some (some (.ref Sg)))
 (l44:K.lookup Sg=some ⟨ZN,VO,.func (PySem.W.fnOf "_law_ring_otherwise" "_law_ring_otherwise" (aK bE) (aH bE) (ah bE) .none ZO ZP ZQ VP Qy ZR),WD⟩)
 (c44:PySem.W.codeIn K Qy "_law_ring_otherwise"=true) (k44:PySem.W.keepIn K (.ref Sg)=true)
 (a45:PySem.W.nsIn K mainGlobals "_law_side_otherwise"=some (some (.ref Sh)))
 (l45:K.lookup Sh=some ⟨ZS,VQ,.func (PySem.W.fnOf "_law_side_otherwise" "_law_side_otherwise" (aK br) (aH br) (ah br) .none ZT ZU ZV VR Qz ZW),WE⟩)
 (c45:PySem.W.codeIn K Qz "_law_side_otherwise"=true) (k45:PySem.W.keepIn K (.ref Sh)=true)
 (a46:PySem.W.nsIn K mainGlobals "_law_first"=some (some (.ref Si)))
 (l46:K.lookup Si=some ⟨ZX,VS,.func (PySem.W.fnOf "_law_first" "_law_first" (aK cV) (aH cV) (ah cV) .none ZY ZZ Z0 VT QA Z1),WG⟩)
 (c46:PySem.W.codeIn K QA "_law_first"=true) (k46:PySem.W.keepIn K (.ref Si)=true)
 (a47:PySem.W.nsIn K mainGlobals "_law_asked"=some (some (.ref Sj)))
 (l47:K.lookup Sj=some ⟨Z2,VU,.func (PySem.W.fnOf "_law_asked" "_law_asked" (aK gz) (aH gz) (ah gz) .none Z3 Z4 Z5 VV QB Z6),WH⟩)
 (c47:PySem.W.codeIn K QB "_law_asked"=true) (k47:PySem.W.keepIn K (.ref Sj)=true)
 (a48:PySem.W.nsIn K mainGlobals "_law_refused"=some (some (.ref Sk)))
 (l48:K.lookup Sk=some ⟨Z7,VW,.func (PySem.W.fnOf "_law_refused" "_law_refused" (aK eO) (aH eO) (ah eO) .none Z8 Z9 aaa VX QC aab),WI⟩)
 (c48:PySem.W.codeIn K QC "_law_refused"=true) (k48:PySem.W.keepIn K (.ref Sk)=true)
 (a49:PySem.W.nsIn K mainGlobals "law"=some (some (.ref UC)))
 (l49:K.lookup UC=some ⟨aac,VY,.func (PySem.W.fnOf "law" "law" (aK pP) (aH pP) (ah pP) .none QD QE QF PU Nh QG),WJ⟩)
 (c49:PySem.W.codeIn K Nh "law"=true) (k49:PySem.W.keepIn K (.ref UC)=true)
 (z_ValueError:PySem.W.nsIn K mainGlobals "ValueError"=some none)
 (z_abs:PySem.W.nsIn K mainGlobals "abs"=some none)
 (z_all:PySem.W.nsIn K mainGlobals "all"=some none)
 (z_bool:PySem.W.nsIn K mainGlobals "bool"=some none)
 (z_enumerate:PySem.W.nsIn K mainGlobals "enumerate"=some none)
 (z_int:PySem.W.nsIn K mainGlobals "int"=some none)
 (z_isinstance:PySem.W.nsIn K mainGlobals "isinstance"=some none)
 (z_len:PySem.W.nsIn K mainGlobals "len"=some none)
 (z_list:PySem.W.nsIn K mainGlobals "list"=some none)
 (z_max:PySem.W.nsIn K mainGlobals "max"=some none)
 (z_min:PySem.W.nsIn K mainGlobals "min"=some none)
 (z_range:PySem.W.nsIn K mainGlobals "range"=some none)
 (z_reversed:PySem.W.nsIn K mainGlobals "reversed"=some none)
 (z_set:PySem.W.nsIn K mainGlobals "set"=some none)
 (z_sorted:PySem.W.nsIn K mainGlobals "sorted"=some none)
 (z_sum:PySem.W.nsIn K mainGlobals "sum"=some none)
 (z_tuple:PySem.W.nsIn K mainGlobals "tuple"=some none)
 (d_RingError:PySem.W.nsIn K mainGlobals "RingError"=some (some (.ref oQ)))
 (d_BadWeb:PySem.W.nsIn K mainGlobals "BadWeb"=some (some (.ref xT)))
 (d_BadSet:PySem.W.nsIn K mainGlobals "BadSet"=some (some (.ref bD)))
 (d_BadPoint:PySem.W.nsIn K mainGlobals "BadPoint"=some (some (.ref qI)))
 (d_NotRing:PySem.W.nsIn K mainGlobals "NotRing"=some (some (.ref uq)))
 (d_NoChord:PySem.W.nsIn K mainGlobals "NoChord"=some (some (.ref ur)))
 (d_NoBase:PySem.W.nsIn K mainGlobals "NoBase"=some (some (.ref xU)))
 (d_NoSuch:PySem.W.nsIn K mainGlobals "NoSuch"=some (some (.ref xV)))
 (d_TooMany:PySem.W.nsIn K mainGlobals "TooMany"=some (some (.ref uu)))
 (d_BadRow:PySem.W.nsIn K mainGlobals "BadRow"=some (some (.ref xW)))
 (d_NoDeed:PySem.W.nsIn K mainGlobals "NoDeed"=some (some (.ref xX)))
 (d_NotEven:PySem.W.nsIn K mainGlobals "NotEven"=some (some (.ref uv)))
 (d_NoText:PySem.W.nsIn K mainGlobals "NoText"=some (some (.ref xY)))
 (xc_BadSet:PySem.W.excIn K bD [.type "ValueError",.type "Exception",.type "BaseException",.type "object"] "ValueError.__new__"=true)
 (ea_BadSet:PySem.W.findIn K (.ref bD) "__getattribute__"=some (some (.builtin "BaseException.__getattribute__"))) (eb_BadSet:PySem.W.findIn K (.ref bD) "__getattr__"=some none)
 (ec_BadSet:PySem.W.findIn K (.ref bD) "__class__"=some (some (.builtin "object.__class__"))) (ed_BadSet:PySem.W.specialIn K (.builtin "object.__class__") "__get__"=some (some (.builtin "getset_descriptor.__get__")))
 (ee_BadSet:PySem.W.takesIn K (.builtin "object.__class__")=some true) (ef_BadSet:PySem.W.mroIn K bD (.type "object")=some true) (eg_BadSet:PySem.W.hasDictIn K bD=true) (eh_BadSet:PySem.W.mroIn K bD (.type "BaseException")=some true)
 (hx_BadSet:PySem.W.exmOne K (.ref bD) (.ref oQ)=some true)
 (qv_BadSet:PySem.W.kitOne K (.ref bD) (.type "ValueError")=some true)
 (q_BadSet_BadWeb:PySem.W.kitOne K (.ref bD) (.ref xT)=some false)
 (q_BadSet_BadSet:PySem.W.kitOne K (.ref bD) (.ref bD)=some true)
 (q_BadSet_BadPoint:PySem.W.kitOne K (.ref bD) (.ref qI)=some false)
 (q_BadSet_NotRing:PySem.W.kitOne K (.ref bD) (.ref uq)=some false)
 (q_BadSet_NoChord:PySem.W.kitOne K (.ref bD) (.ref ur)=some false)
 (q_BadSet_NoBase:PySem.W.kitOne K (.ref bD) (.ref xU)=some false)
 (q_BadSet_NoSuch:PySem.W.kitOne K (.ref bD) (.ref xV)=some false)
 (q_BadSet_TooMany:PySem.W.kitOne K (.ref bD) (.ref uu)=some false)
 (q_BadSet_BadRow:PySem.W.kitOne K (.ref bD) (.ref xW)=some false)
 (q_BadSet_NoDeed:PySem.W.kitOne K (.ref bD) (.ref xX)=some false)
 (q_BadSet_NotEven:PySem.W.kitOne K (.ref bD) (.ref uv)=some false)
 (q_BadSet_NoText:PySem.W.kitOne K (.ref bD) (.ref xY)=some false)
 : ∃ fd:FuncData,(∀(s:Shared) (v:Value),BindsTo s fd ⟨[v],[]⟩ [("script",v)])/\∀ base:Heap,K.In base->base.Ns mainGlobals mg->aP l.prog w K mg base cF 12 fa fd ["script"] (Bb K):=by
 have e:=hfa.symm.trans (PySem.W.mg_of X G a49);cases e;have F0:=aU (st:=jC) l0 c0 k0;have b0:=F0.binds (ps:=["tie_set","tie"]) fun _ _ _ _ _ _ us hl=>by obtain⟨_,_,rfl⟩:=jX us hl;rfl
 have F1:=aU (st:=iu) l1 c1 k1;have b1:=F1.binds (ps:=["tie_set"]) fun _ _ _ _ _ _ us hl=>by obtain⟨_,rfl⟩:=Hq us hl;rfl
 have F2:=aU (st:=lH) l2 c2 k2;have b2:=F2.binds (ps:=["web","ties"]) fun _ _ _ _ _ _ us hl=>by obtain⟨_,_,rfl⟩:=jX us hl;rfl
 have F3:=aU (st:=iw) l3 c3 k3;have b3:=F3.binds (ps:=["web"]) fun _ _ _ _ _ _ us hl=>by obtain⟨_,rfl⟩:=Hq us hl;rfl
 have F4:=aU (st:=lI) l4 c4 k4;have b4:=F4.binds (ps:=["web","number"]) fun _ _ _ _ _ _ us hl=>by obtain⟨_,_,rfl⟩:=jX us hl;rfl
 have F5:=aU (st:=gu) l5 c5 k5;have b5:=F5.binds (ps:=["web","tie_set"]) fun _ _ _ _ _ _ us hl=>by obtain⟨_,_,rfl⟩:=jX us hl;rfl
 have F6:=aU (st:=d9) l6 c6 k6;have b6:=F6.binds (ps:=["web","tie_set"]) fun _ _ _ _ _ _ us hl=>by obtain⟨_,_,rfl⟩:=jX us hl;rfl
 have F7:=aU (st:=fg) l7 c7 k7;have b7:=F7.binds (ps:=["web","tie_set"]) fun _ _ _ _ _ _ us hl=>by obtain⟨_,_,rfl⟩:=jX us hl;rfl
 have F8:=aU (st:=ee) l8 c8 k8;have b8:=F8.binds (ps:=["web","tie_set"]) fun _ _ _ _ _ _ us hl=>by obtain⟨_,_,rfl⟩:=jX us hl;rfl
 have F9:=aU (st:=cE) l9 c9 k9;have b9:=F9.binds (ps:=["leasts","one","other"]) fun _ _ _ _ _ _ us hl=>by obtain⟨_,_,_,rfl⟩:=nk us hl;rfl
 have F10:=aU (st:=j8) l10 c10 k10;have b10:=F10.binds (ps:=["web","tie_set"]) fun _ _ _ _ _ _ us hl=>by obtain⟨_,_,rfl⟩:=jX us hl;rfl
 have F11:=aU (st:=jD) l11 c11 k11;have b11:=F11.binds (ps:=["web","tie_set"]) fun _ _ _ _ _ _ us hl=>by obtain⟨_,_,rfl⟩:=jX us hl;rfl
 have F12:=aU (st:=iy) l12 c12 k12;have b12:=F12.binds (ps:=["web","tie_set"]) fun _ _ _ _ _ _ us hl=>by obtain⟨_,_,rfl⟩:=jX us hl;rfl
 have F13:=aU (st:=cX) l13 c13 k13;have b13:=F13.binds (ps:=["web","number"]) fun _ _ _ _ _ _ us hl=>by obtain⟨_,_,rfl⟩:=jX us hl;rfl
 have F14:=aU (st:=lJ) l14 c14 k14;have b14:=F14.binds (ps:=["one","other"]) fun _ _ _ _ _ _ us hl=>by obtain⟨_,_,rfl⟩:=jX us hl;rfl
 have F15:=aU (st:=eI) l15 c15 k15;have b15:=F15.binds (ps:=["tie_set","marks"]) fun _ _ _ _ _ _ us hl=>by obtain⟨_,_,rfl⟩:=jX us hl;rfl
 have F16:=aU (st:=jE) l16 c16 k16;have b16:=F16.binds (ps:=["web","side"]) fun _ _ _ _ _ _ us hl=>by obtain⟨_,_,rfl⟩:=jX us hl;rfl
 have F17:=aU (st:=j9) l17 c17 k17;have b17:=F17.binds (ps:=["web","side"]) fun _ _ _ _ _ _ us hl=>by obtain⟨_,_,rfl⟩:=jX us hl;rfl
 have F18:=aU (st:=fB) l18 c18 k18;have b18:=F18.binds (ps:=["web","side","tie_set"]) fun _ _ _ _ _ _ us hl=>by obtain⟨_,_,_,rfl⟩:=nk us hl;rfl
 have F19:=aU (st:=eJ) l19 c19 k19;have b19:=F19.binds (ps:=["one","other","length"]) fun _ _ _ _ _ _ us hl=>by obtain⟨_,_,_,rfl⟩:=nk us hl;rfl
 have F20:=aU (st:=fC) l20 c20 k20;have b20:=F20.binds (ps:=["tie","turn","worths"]) fun _ _ _ _ _ _ us hl=>by obtain⟨_,_,_,rfl⟩:=nk us hl;rfl
 have F21:=aU (st:=dY) l21 c21 k21;have b21:=F21.binds (ps:=["web","marks","worths"]) fun _ _ _ _ _ _ us hl=>by obtain⟨_,_,_,rfl⟩:=nk us hl;rfl
 have F22:=aU (st:=cH) l22 c22 k22;have b22:=F22.binds (ps:=["worths","length"]) fun _ _ _ _ _ _ us hl=>by obtain⟨_,_,rfl⟩:=jX us hl;rfl
 have F23:=aU (st:=eK) l23 c23 k23;have b23:=F23.binds (ps:=["web","marks","ring","worths"]) fun _ _ _ _ _ _ us hl=>by obtain⟨_,_,_,_,rfl⟩:=J0 us hl;rfl
 have F24:=aU (st:=fD) l24 c24 k24;have b24:=F24.binds (ps:=["web","marks","answer"]) fun _ _ _ _ _ _ us hl=>by obtain⟨_,_,_,rfl⟩:=nk us hl;rfl
 have F25:=aU (st:=eM) l25 c25 k25;have b25:=F25.binds (ps:=["script","k"]) fun _ _ _ _ _ _ us hl=>by obtain⟨_,_,rfl⟩:=jX us hl;rfl
 have F26:=aU (st:=iz) l26 c26 k26;have b26:=F26.binds (ps:=["cell","k","way"]) fun _ _ _ _ _ _ us hl=>by obtain⟨_,_,_,rfl⟩:=nk us hl;rfl
 have F27:=aU (st:=jF) l27 c27 k27;have b27:=F27.binds (ps:=["left","points","mode"]) fun _ _ _ _ _ _ us hl=>by obtain⟨_,_,_,rfl⟩:=nk us hl;rfl
 have F28:=aU (st:=jG) l28 c28 k28;have b28:=F28.binds (ps:=["script","most_points","most_ties"]) fun _ _ _ _ _ _ us hl=>by obtain⟨_,_,_,rfl⟩:=nk us hl;rfl
 have F29:=aU (st:=ef) l29 c29 k29;have b29:=F29.binds (ps:=["web","some"]) fun _ _ _ _ _ _ us hl=>by obtain⟨_,_,rfl⟩:=jX us hl;rfl
 have F30:=aU (st:=gx) l30 c30 k30;have b30:=F30.binds (ps:=["one","more"]) fun _ _ _ _ _ _ us hl=>by obtain⟨_,_,rfl⟩:=jX us hl;rfl
 have F31:=aU (st:=dF) l31 c31 k31;have b31:=F31.binds (ps:=["web","marks","point"]) fun _ _ _ _ _ _ us hl=>by obtain⟨_,_,_,rfl⟩:=nk us hl;rfl
 have F32:=aU (st:=ek) l32 c32 k32;have b32:=F32.binds (ps:=["web","some"]) fun _ _ _ _ _ _ us hl=>by obtain⟨_,_,rfl⟩:=jX us hl;rfl
 have F33:=aU (st:=jH) l33 c33 k33;have b33:=F33.binds (ps:=["number"]) fun _ _ _ _ _ _ us hl=>by obtain⟨_,rfl⟩:=Hq us hl;rfl
 have F34:=aU (st:=eN) l34 c34 k34;have b34:=F34.binds (ps:=["web","marks"]) fun _ _ _ _ _ _ us hl=>by obtain⟨_,_,rfl⟩:=jX us hl;rfl
 have F35:=aU (st:=jI) l35 c35 k35;have b35:=F35.binds (ps:=["web","side"]) fun _ _ _ _ _ _ us hl=>by obtain⟨_,_,rfl⟩:=jX us hl;rfl
 have F36:=aU (st:=gn) l36 c36 k36;have b36:=F36.binds (ps:=["web","marks"]) fun _ _ _ _ _ _ us hl=>by obtain⟨_,_,rfl⟩:=jX us hl;rfl
 have F37:=aU (st:=fE) l37 c37 k37;have b37:=F37.binds (ps:=["web","marks","worths"]) fun _ _ _ _ _ _ us hl=>by obtain⟨_,_,_,rfl⟩:=nk us hl;rfl
 have F38:=aU (st:=jJ) l38 c38 k38;have b38:=F38.binds (ps:=["row","at","s","value"]) fun _ _ _ _ _ _ us hl=>by obtain⟨_,_,_,_,rfl⟩:=J0 us hl;rfl
 have F39:=aU (st:=gy) l39 c39 k39;have b39:=F39.binds (ps:=["value","way","length"]) fun _ _ _ _ _ _ us hl=>by obtain⟨_,_,_,rfl⟩:=nk us hl;rfl
 have F40:=aU (st:=bg) l40 c40 k40;have b40:=F40.binds (ps:=["web","marks","side"]) fun _ _ _ _ _ _ us hl=>by obtain⟨_,_,_,rfl⟩:=nk us hl;rfl
 have F41:=aU (st:=bH) l41 c41 k41;have b41:=F41.binds (ps:=["web","marks","ring","worths"]) fun _ _ _ _ _ _ us hl=>by obtain⟨_,_,_,_,rfl⟩:=J0 us hl;rfl
 have F42:=aU (st:=cf) l42 c42 k42;have b42:=F42.binds (ps:=["web","marks","answer"]) fun _ _ _ _ _ _ us hl=>by obtain⟨_,_,_,rfl⟩:=nk us hl;rfl
 have F43:=aU (st:=fj) l43 c43 k43;have b43:=F43.binds (ps:=["e"]) fun _ _ _ _ _ _ us hl=>by obtain⟨_,rfl⟩:=Hq us hl;rfl
 have F44:=aU (st:=bE) l44 c44 k44;have b44:=F44.binds (ps:=["web","marks","answer","left"]) fun _ _ _ _ _ _ us hl=>by obtain⟨_,_,_,_,rfl⟩:=J0 us hl;rfl
 have F45:=aU (st:=br) l45 c45 k45;have b45:=F45.binds (ps:=["web","side","left"]) fun _ _ _ _ _ _ us hl=>by obtain⟨_,_,_,rfl⟩:=nk us hl;rfl
 have F46:=aU (st:=cV) l46 c46 k46;have b46:=F46.binds (ps:=["web","marks","left"]) fun _ _ _ _ _ _ us hl=>by obtain⟨_,_,_,rfl⟩:=nk us hl;rfl
 have F47:=aU (st:=gz) l47 c47 k47;have b47:=F47.binds (ps:=["web","marks","answer"]) fun _ _ _ _ _ _ us hl=>by obtain⟨_,_,_,rfl⟩:=nk us hl;rfl
 have F48:=aU (st:=eO) l48 c48 k48;have b48:=F48.binds (ps:=["web","marks","answer"]) fun _ _ _ _ _ _ us hl=>by obtain⟨_,_,_,rfl⟩:=nk us hl;rfl
 have F49:=aU (st:=pP) l49 c49 k49;have b49:=F49.binds (ps:=["script"]) fun _ _ _ _ _ _ us hl=>by obtain⟨_,rfl⟩:=Hq us hl;rfl
 have T:Txt K mg ⟨f0,_,f1,_,f2,_,f3,_,f4,_,f5,_,f6,_,f7,_,f8,_,f9,_,Rx,_,Ry,_,Rz,_,RA,_,RB,_,RC,_,RD,_,RE,_,RG,_,RH,_,RI,_,RJ,_,RK,_,RL,_,RN,_,RO,_,RP,_,RQ,_,RS,_,RT,_,RU,_,RV,_,f32,_,RW,_,RY,_,RZ,_,R0,_,R7,_,R9,_,Sa,_,Sb,_,Sd,_,Se,_,Sf,_,Sg,_,Sh,_,Si,_,Sj,_,Sk,_,fa,_,oQ,xT,bD,qI,uq,ur,xU,xV,uu,xW,xX,uv,xY⟩:=⟨F0,PySem.W.mg_of X G a0,b0,F1,PySem.W.mg_of X G a1,b1,F2,PySem.W.mg_of X G a2,b2,F3,PySem.W.mg_of X G a3,b3,F4,PySem.W.mg_of X G a4,b4,F5,PySem.W.mg_of X G a5,b5,F6,PySem.W.mg_of X G a6,b6,F7,PySem.W.mg_of X G a7,b7,F8,PySem.W.mg_of X G a8,b8,F9,PySem.W.mg_of X G a9,b9,F10,PySem.W.mg_of X G a10,b10,F11,PySem.W.mg_of X G a11,b11,F12,PySem.W.mg_of X G a12,b12,F13,PySem.W.mg_of X G a13,b13,F14,PySem.W.mg_of X G a14,b14,F15,PySem.W.mg_of X G a15,b15,F16,PySem.W.mg_of X G a16,b16,F17,PySem.W.mg_of X G a17,b17,F18,PySem.W.mg_of X G a18,b18,F19,PySem.W.mg_of X G a19,b19,F20,PySem.W.mg_of X G a20,b20,F21,PySem.W.mg_of X G a21,b21,F22,PySem.W.mg_of X G a22,b22,F23,PySem.W.mg_of X G a23,b23,F24,PySem.W.mg_of X G a24,b24,F25,PySem.W.mg_of X G a25,b25,F26,PySem.W.mg_of X G a26,b26,F27,PySem.W.mg_of X G a27,b27,F28,PySem.W.mg_of X G a28,b28,F29,PySem.W.mg_of X G a29,b29,F30,PySem.W.mg_of X G a30,b30,F31,PySem.W.mg_of X G a31,b31,F32,PySem.W.mg_of X G a32,b32,F33,PySem.W.mg_of X G a33,b33,F34,PySem.W.mg_of X G a34,b34,F35,PySem.W.mg_of X G a35,b35,F36,PySem.W.mg_of X G a36,b36,F37,PySem.W.mg_of X G a37,b37,F38,PySem.W.mg_of X G a38,b38,F39,PySem.W.mg_of X G a39,b39,F40,PySem.W.mg_of X G a40,b40,F41,PySem.W.mg_of X G a41,b41,F42,PySem.W.mg_of X G a42,b42,F43,PySem.W.mg_of X G a43,b43,F44,PySem.W.mg_of X G a44,b44,F45,PySem.W.mg_of X G a45,b45,F46,PySem.W.mg_of X G a46,b46,F47,PySem.W.mg_of X G a47,b47,F48,PySem.W.mg_of X G a48,b48,F49,PySem.W.mg_of X G a49,b49,PySem.W.mg_none_of X G z_ValueError,PySem.W.mg_none_of X G z_abs,PySem.W.mg_none_of X G z_all,PySem.W.mg_none_of X G z_bool,PySem.W.mg_none_of X G z_enumerate,PySem.W.mg_none_of X G z_int,PySem.W.mg_none_of X G z_isinstance,PySem.W.mg_none_of X G z_len,PySem.W.mg_none_of X G z_list,PySem.W.mg_none_of X G z_max,PySem.W.mg_none_of X G z_min,PySem.W.mg_none_of X G z_range,PySem.W.mg_none_of X G z_reversed,PySem.W.mg_none_of X G z_set,PySem.W.mg_none_of X G z_sorted,PySem.W.mg_none_of X G z_sum,PySem.W.mg_none_of X G z_tuple,PySem.W.mg_of X G d_RingError,PySem.W.mg_of X G d_BadWeb,PySem.W.mg_of X G d_BadSet,PySem.W.mg_of X G d_BadPoint,PySem.W.mg_of X G d_NotRing,PySem.W.mg_of X G d_NoChord,PySem.W.mg_of X G d_NoBase,PySem.W.mg_of X G d_NoSuch,PySem.W.mg_of X G d_TooMany,PySem.W.mg_of X G d_BadRow,PySem.W.mg_of X G d_NoDeed,PySem.W.mg_of X G d_NotEven,PySem.W.mg_of X G d_NoText,fun h1 X1 G1=>Ms X1 G1 d_BadSet xc_BadSet,⟨ea_BadSet,eb_BadSet,ec_BadSet,ed_BadSet,ee_BadSet,ef_BadSet,eh_BadSet,Mt eg_BadSet⟩,hx_BadSet,qv_BadSet,q_BadSet_BadWeb,q_BadSet_BadSet,q_BadSet_BadPoint,q_BadSet_NotRing,q_BadSet_NoChord,q_BadSet_NoBase,q_BadSet_NoSuch,q_BadSet_TooMany,q_BadSet_BadRow,q_BadSet_NoDeed,q_BadSet_NotEven,q_BadSet_NoText⟩
 exact⟨PySem.W.fnOf "law" "law" (aK pP) (aH pP) (ah pP) .none QD QE QF PU Nh QG,fun s v=>.of_eq rfl,fun base _ _=>PL T⟩
theorem walk{l:PySem.W.OpenLaw}{q:Program}{loose:List Str}{XP:(Str->Option Value)->Heap->Prop}{YP:World->Heap->Prop}{d:DefRec}{K:Params->bI}(hn:l.most=some 63)(Oa:d.params.defaults=[])
 (hY:∀(w:World) (h:Heap),YP w h->(K w.params).In h)
 (F:∀(w:World) (mg:iI) (fa:Addr) (h:Heap),(K w.params).In h->h.Ns mainGlobals mg->mg d.name=some (.ref fa)->
  ∃ fd:FuncData,(∀(s:Shared) (u:Value),BindsTo s fd ⟨[u],[]⟩ [("script",u)])/\∀ base:Heap,(K w.params).In base->base.Ns mainGlobals mg->aP l.prog w (K w.params) mg base cF 12 fa fd ["script"] (Bb (K w.params))) :
 PySem.W.WalkO q loose XP YP l.row.toRowW d [] (fun f vs=>PySem.call f vs) :=
 L2.JS (n:=63) (k:=12) (x:="script") (CX:=fun _=>cF) (sp:=fun w=>Bb (K w.params)) hn (by decide) Oa ⟨rfl,by decide,by decide⟩ hY F (fun _ _ a ns hl _ hS=>⟨a,ns,rfl,hS,hl,fun _=>rfl⟩) fun _ _ _ _ _ z=>z
end K22
namespace PySem.W.Fast
def tw15549803063524850756:=()
def tw14480686459429950729:=()
def tw3966639288655525117:=()
def tw3108323698357831063:=()
def tw12779091348660225316:=()
def tw8042976570484906863:=()
def tw17636307877889841609:=()
def tw6703840692781294534:=()
def tw16160900120555928488:=()
def tw14035551647210739436:=()
def tw6706851799494029572:=()
def tw2355614908548769680:=()
def tw10301626309346899549:=()
def tw8099865522270476313:=()
def tw6806236374077822083:=()
def tw11339127325352766066:=()
def tw2998909303272726612:=()
def tw7030678140830706898:=()
def tw15506854502142118405:=()
def tw469415239324878003:=()
def tw11393274595819334271:=()
def tw12549373688843051767:=()
def tw15726866727319196946:=()
def tw15595785308355085467:=()
def tw12294461292834201807:=()
def tw1314169428529534582:=()
def tw14129286116127217175:=()
def tw15460233877757640261:=()
def tw9762187958787476243:=()
def tw4122975765381138538:=()
def tw519407226293875977:=()
def tw12234361430041910925:=()
def tw11521684729242031715:=()
def tw15819824185499515338:=()
def tw16060408947009188740:=()
def tw6283394705737278331:=()
def tw8814064877389635383:=()
def tw18080031226809625194:=()
def tw12714744858892433957:=()
def tw15584588681484696793:=()
def tw14875502675569705911:=()
def tw17814912384325761523:=()
def tw10061830708496358805:=()
def tw405097367789169281:=()
def tw12475320129013198264:=()
def tw13643488201972654398:=()
def tw11120361513428773884:=()
def tw10854352935086834373:=()
def tw9227538862454010138:=()
def tw8940300362644952489:=()
def tw4009801331802170335:=()
def tw11940146986304178394:=()
def tw17752348869334073466:=()
def tw8081986090477941285:=()
def tw4521644330236598506:=()
def tw2832622260327685969:=()
def tw7420859211024719892:=()
def tw4264819444301402778:=()
def tw3696005975952835533:=()
def tw2187715342353648800:=()
def tw4693359723494710051:=()
def tw2406530037012227430:=()
def tw11577747853163222291:=()
def tw6400389160789351810:=()
def tw5061197878422190102:=()
def tw17350215947254019212:=()
def tw11975030480014202335:=()
def tw14992113262697805548:=()
def tw17214077268091302669:=()
def tw1827505081353077599:=()
def tw18258171103053317084:=()
def tw8961393477753838875:=()
def tw10652583427872783235:=()
def tw8580029182671447483:=()
def tw12432342081128673225:=()
def tw10550568056180959099:=()
def tw10913571551108439860:=()
def tw4196458209822663769:=()
def tw7671875807807229036:=()
def tw12924916716439880946:=()
def tw12610289797291960091:=()
def tw5367824342406211828:=()
def tw12117855657523060649:=()
def tw12001122628680092328:=()
def tw8790271722044135318:=()
def tw4888289228524326423:=()
def tw9463229044266927657:=()
def tw5697307287829128934:=()
def tw7970974034595827808:=()
def tw15777301973526547294:=()
def tw17020327046895201948:=()
def tw4311327301599517699:=()
def tw2828148685898191500:=()
def tw2603711660544625900:=()
def tw8539204595672263476:=()
def tw12472186766488956528:=()
def tw7331767340753092698:=()
def tw15724691123001743958:=()
def tw13984357820690503898:=()
def tw7212068693217965468:=()
def tw8257106763453226343:=()
def tw13315691857764744820:=()
def tw10308610703692448421:=()
def tw17188158743881811053:=()
def tw7821670326213478746:=()
def tw1699909362349752827:=()
end PySem.W.Fast
open PySem PySem.W PyProof.Rows
set_option maxRecDepth 100000 in
set_option maxHeartbeats 0 in
theorem PySem.Challenge.cw_ringbase_k22_answers_judged_holds : PySem.Challenge.rw_ringbase_k22_answers_judged.Holds := by
 w_on;o_law;k_head;(case hw=>w_witness2)
 k_fill
 refine K22.walk (l:=PySem.Challenge.rw_ringbase_k22_answers_judged) rfl rfl (fun w h Y=>PySem.W.kIn_of Y) ?F
 case F =>
  intro w mg fa h KX G hmg;refine' K22.all_mk KX G hmg ?a0 ?l0 ?c0 ?k0 ?a1 ?l1 ?c1 ?k1 ?a2 ?l2 ?c2 ?k2 ?a3 ?l3 ?c3 ?k3 ?a4 ?l4 ?c4 ?k4 ?a5 ?l5 ?c5 ?k5 ?a6 ?l6 ?c6 ?k6 ?a7 ?l7 ?c7 ?k7 ?a8 ?l8 ?c8 ?k8 ?a9 ?l9 ?c9 ?k9 ?a10 ?l10 ?c10 ?k10 ?a11 ?l11 ?c11 ?k11 ?a12 ?l12 ?c12 ?k12 ?a13 ?l13 ?c13 ?k13 ?a14 ?l14 ?c14 ?k14 ?a15 ?l15 ?c15 ?k15 ?a16 ?l16 ?c16 ?k16 ?a17 ?l17 ?c17 ?k17 ?a18 ?l18 ?c18 ?k18 ?a19 ?l19 ?c19 ?k19 ?a20 ?l20 ?c20 ?k20 ?a21 ?l21 ?c21 ?k21 ?a22 ?l22 ?c22 ?k22 ?a23 ?l23 ?c23 ?k23 ?a24 ?l24 ?c24 ?k24 ?a25 ?l25 ?c25 ?k25 ?a26 ?l26 ?c26 ?k26 ?a27 ?l27 ?c27 ?k27 ?a28 ?l28 ?c28 ?k28 ?a29 ?l29 ?c29 ?k29 ?a30 ?l30 ?c30 ?k30 ?a31 ?l31 ?c31 ?k31 ?a32 ?l32 ?c32 ?k32 ?a33 ?l33 ?c33 ?k33 ?a34 ?l34 ?c34 ?k34 ?a35 ?l35 ?c35 ?k35 ?a36 ?l36 ?c36 ?k36 ?a37 ?l37 ?c37 ?k37 ?a38 ?l38 ?c38 ?k38 ?a39 ?l39 ?c39 ?k39 ?a40 ?l40 ?c40 ?k40 ?a41 ?l41 ?c41 ?k41 ?a42 ?l42 ?c42 ?k42 ?a43 ?l43 ?c43 ?k43 ?a44 ?l44 ?c44 ?k44 ?a45 ?l45 ?c45 ?k45 ?a46 ?l46 ?c46 ?k46 ?a47 ?l47 ?c47 ?k47 ?a48 ?l48 ?c48 ?k48 ?a49 ?l49 ?c49 ?k49 ?z_ValueError ?z_abs ?z_all ?z_bool ?z_enumerate ?z_int ?z_isinstance ?z_len ?z_list ?z_max ?z_min ?z_range ?z_reversed ?z_set ?z_sorted ?z_sum ?z_tuple ?d_RingError ?d_BadWeb ?d_BadSet ?d_BadPoint ?d_NotRing ?d_NoChord ?d_NoBase ?d_NoSuch ?d_TooMany ?d_BadRow ?d_NoDeed ?d_NotEven ?d_NoText ?xc_BadSet ?ea_BadSet ?eb_BadSet ?ec_BadSet ?ed_BadSet ?ee_BadSet ?ef_BadSet ?eg_BadSet ?eh_BadSet ?hx_BadSet ?qv_BadSet ?q_BadSet_BadWeb ?q_BadSet_BadSet ?q_BadSet_BadPoint ?q_BadSet_NotRing ?q_BadSet_NoChord ?q_BadSet_NoBase ?q_BadSet_NoSuch ?q_BadSet_TooMany ?q_BadSet_BadRow ?q_BadSet_NoDeed ?q_BadSet_NotEven ?q_BadSet_NoText
  (case d_RingError=>k_is)
  (case d_BadWeb=>k_is)
  (case d_BadSet=>k_is)
  (case d_BadPoint=>k_is)
  (case d_NotRing=>k_is)
  (case d_NoChord=>k_is)
  (case d_NoBase=>k_is)
  (case d_NoSuch=>k_is)
  (case d_TooMany=>k_is)
  (case d_BadRow=>k_is)
  (case d_NoDeed=>k_is)
  (case d_NotEven=>k_is)
  (case d_NoText=>k_is)
  (case a0=>k_is)
  (case l0=>k_is)
  (case c0=>k_is)
  (case k0=>k_is)
  (case a1=>k_is)
  (case l1=>k_is)
  (case c1=>k_is)
  (case k1=>k_is)
  (case a2=>k_is)
  (case l2=>k_is)
  (case c2=>k_is)
  (case k2=>k_is)
  (case a3=>k_is)
  (case l3=>k_is)
  (case c3=>k_is)
  (case k3=>k_is)
  (case a4=>k_is)
  (case l4=>k_is)
  (case c4=>k_is)
  (case k4=>k_is)
  (case a5=>k_is)
  (case l5=>k_is)
  (case c5=>k_is)
  (case k5=>k_is)
  (case a6=>k_is)
  (case l6=>k_is)
  (case c6=>k_is)
  (case k6=>k_is)
  (case a7=>k_is)
  (case l7=>k_is)
  (case c7=>k_is)
  (case k7=>k_is)
  (case a8=>k_is)
  (case l8=>k_is)
  (case c8=>k_is)
  (case k8=>k_is)
  (case a9=>k_is)
  (case l9=>k_is)
  (case c9=>k_is)
  (case k9=>k_is)
  (case a10=>k_is)
  (case l10=>k_is)
  (case c10=>k_is)
  (case k10=>k_is)
  (case a11=>k_is)
  (case l11=>k_is)
  (case c11=>k_is)
  (case k11=>k_is)
  (case a12=>k_is)
  (case l12=>k_is)
  (case c12=>k_is)
  (case k12=>k_is)
  (case a13=>k_is)
  (case l13=>k_is)
  (case c13=>k_is)
  (case k13=>k_is)
  (case a14=>k_is)
  (case l14=>k_is)
  (case c14=>k_is)
  (case k14=>k_is)
  (case a15=>k_is)
  (case l15=>k_is)
  (case c15=>k_is)
  (case k15=>k_is)
  (case a16=>k_is)
  (case l16=>k_is)
  (case c16=>k_is)
  (case k16=>k_is)
  (case a17=>k_is)
  (case l17=>k_is)
  (case c17=>k_is)
  (case k17=>k_is)
  (case a18=>k_is)
  (case l18=>k_is)
  (case c18=>k_is)
  (case k18=>k_is)
  (case a19=>k_is)
  (case l19=>k_is)
  (case c19=>k_is)
  (case k19=>k_is)
  (case a20=>k_is)
  (case l20=>k_is)
  (case c20=>k_is)
  (case k20=>k_is)
  (case a21=>k_is)
  (case l21=>k_is)
  (case c21=>k_is)
  (case k21=>k_is)
  (case a22=>k_is)
  (case l22=>k_is)
  (case c22=>k_is)
  (case k22=>k_is)
  (case a23=>k_is)
  (case l23=>k_is)
  (case c23=>k_is)
  (case k23=>k_is)
  (case a24=>k_is)
  (case l24=>k_is)
  (case c24=>k_is)
  (case k24=>k_is)
  (case a25=>k_is)
  (case l25=>k_is)
  (case c25=>k_is)
  (case k25=>k_is)
  (case a26=>k_is)
  (case l26=>k_is)
  (case c26=>k_is)
  (case k26=>k_is)
  (case a27=>k_is)
  (case l27=>k_is)
  (case c27=>k_is)
  (case k27=>k_is)
  (case a28=>k_is)
  (case l28=>k_is)
  (case c28=>k_is)
  (case k28=>k_is)
  (case a29=>k_is)
  (case l29=>k_is)
  (case c29=>k_is)
  (case k29=>k_is)
  (case a30=>k_is)
  (case l30=>k_is)
  (case c30=>k_is)
  (case k30=>k_is)
  (case a31=>k_is)
  (case l31=>k_is)
  (case c31=>k_is)
  (case k31=>k_is)
  (case a32=>k_is)
  (case l32=>k_is)
  (case c32=>k_is)
  (case k32=>k_is)
  (case a33=>k_is)
  (case l33=>k_is)
  (case c33=>k_is)
  (case k33=>k_is)
  (case a34=>k_is)
  (case l34=>k_is)
  (case c34=>k_is)
  (case k34=>k_is)
  (case a35=>k_is)
  (case l35=>k_is)
  (case c35=>k_is)
  (case k35=>k_is)
  (case a36=>k_is)
  (case l36=>k_is)
  (case c36=>k_is)
  (case k36=>k_is)
  (case a37=>k_is)
  (case l37=>k_is)
  (case c37=>k_is)
  (case k37=>k_is)
  (case a38=>k_is)
  (case l38=>k_is)
  (case c38=>k_is)
  (case k38=>k_is)
  (case a39=>k_is)
  (case l39=>k_is)
  (case c39=>k_is)
  (case k39=>k_is)
  (case a40=>k_is)
  (case l40=>k_is)
  (case c40=>k_is)
  (case k40=>k_is)
  (case a41=>k_is)
  (case l41=>k_is)
  (case c41=>k_is)
  (case k41=>k_is)
  (case a42=>k_is)
  (case l42=>k_is)
  (case c42=>k_is)
  (case k42=>k_is)
  (case a43=>k_is)
  (case l43=>k_is)
  (case c43=>k_is)
  (case k43=>k_is)
  (case a44=>k_is)
  (case l44=>k_is)
  (case c44=>k_is)
  (case k44=>k_is)
  (case a45=>k_is)
  (case l45=>k_is)
  (case c45=>k_is)
  (case k45=>k_is)
  (case a46=>k_is)
  (case l46=>k_is)
  (case c46=>k_is)
  (case k46=>k_is)
  (case a47=>k_is)
  (case l47=>k_is)
  (case c47=>k_is)
  (case k47=>k_is)
  (case a48=>k_is)
  (case l48=>k_is)
  (case c48=>k_is)
  (case k48=>k_is)
  (case a49=>k_is)
  (case l49=>k_is)
  (case c49=>k_is)
  (case k49=>k_is)
  (case z_ValueError=>k_is)
  (case z_abs=>k_is)
  (case z_all=>k_is)
  (case z_bool=>k_is)
  (case z_enumerate=>k_is)
  (case z_int=>k_is)
  (case z_isinstance=>k_is)
  (case z_len=>k_is)
  (case z_list=>k_is)
  (case z_max=>k_is)
  (case z_min=>k_is)
  (case z_range=>k_is)
  (case z_reversed=>k_is)
  (case z_set=>k_is)
  (case z_sorted=>k_is)
  (case z_sum=>k_is)
  (case z_tuple=>k_is)
  (case xc_BadSet=>k_exc)
  (case ea_BadSet=>k_is)
  (case eb_BadSet=>k_is)
  (case ec_BadSet=>k_is)
  (case ed_BadSet=>k_is)
  (case ee_BadSet=>k_is)
  (case ef_BadSet=>k_is)
  (case eg_BadSet=>k_is)
  (case eh_BadSet=>k_is)
  (case hx_BadSet=>kts_exm)
  (case qv_BadSet=>kit_is)
  (case q_BadSet_BadWeb=>kit_is)
  (case q_BadSet_BadSet=>kit_is)
  (case q_BadSet_BadPoint=>kit_is)
  (case q_BadSet_NotRing=>kit_is)
  (case q_BadSet_NoChord=>kit_is)
  (case q_BadSet_NoBase=>kit_is)
  (case q_BadSet_NoSuch=>kit_is)
  (case q_BadSet_TooMany=>kit_is)
  (case q_BadSet_BadRow=>kit_is)
  (case q_BadSet_NoDeed=>kit_is)
  (case q_BadSet_NotEven=>kit_is)
  (case q_BadSet_NoText=>kit_is)
